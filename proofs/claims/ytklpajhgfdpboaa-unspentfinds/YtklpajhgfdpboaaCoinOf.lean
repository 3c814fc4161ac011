/- The contract of Of. -/
import Derived.Test.YtklpajhgfdpboaaCoinTotal
import Derived.Test.YtklpajhgfdpboaaCoinEq
namespace Go.Proofs.Ytklpajhgfdpboaa
open Go.RowKit

def ofK (K : List (Int × Int)) (c : CoinD) : Bool := decide (ck c = K)
theorem sumK_bd (L : List CoinD) (f : CoinD → Bool) (h : ∀ z ∈ L, 0 ≤ cv z) : 0 ≤ sumC (L.filter f) ∧ sumC (L.filter f) ≤ sumC L := by
  induction L with
  | nil => exact ⟨Int.le_refl _, Int.le_refl _⟩
  | cons x r ih =>
    obtain ⟨i1, i2⟩ := ih fun z hz => h z (List.mem_cons_of_mem _ hz)
    have hx := h x (List.mem_cons_self ..)
    rw [sumC_cons]
    cases q : f x with
    | true => rw [List.filter_cons_of_pos q, sumC_cons]; omega
    | false => rw [List.filter_cons_of_neg (by rw [q]; decide)]; omega
theorem sumK_take (L : List CoinD) (f : CoinD → Bool) (k : Nat) (h : k < L.length) : sumC ((L.take (k + 1)).filter f) = if f L[k] then sumC ((L.take k).filter f) + cv L[k] else sumC ((L.take k).filter f) := by
  rw [List.take_succ_eq_append_getElem h, List.filter_append, sumC_append]
  cases q : f L[k] with
  | true => rw [List.filter_cons_of_pos q]; simp [sumC]
  | false => rw [List.filter_cons_of_neg (by rw [q]; decide)]; simp [sumC]

set_option maxRecDepth 10000 in
set_option maxHeartbeats 1600000 in
theorem of1_is (x : CoinD) (a : Option Addr) (n c : Nat) (ka : Option Addr) (kn kc : Nat) (K : List (Int × Int)) (b : Nat) (o : Bool) (w : World) (hn : n ≤ maxLen) (hA : OpsAt w a n (ck x)) (hK : OpsAt w ka kn K) (hb : w.cell? ⟨b, 0, none⟩ = some (.slice ka kn kc)) (ho : ofK K x = o) :
    Calls Try.prog 28 #[cnV x a n c, .pointer (some ⟨b, 0, none⟩)] w fun e w' => e = .returned (.bool o) ∧ Below w.heap.size w w' := by
  unfold cnV
  obtain ⟨X, hX⟩ : ∃ X, X = w.alloc (.cells #[.int .i64 x.1, .int .i64 x.2.1, .int .i64 (cv x), .slice a n c, .int .i64 (ch x), .bool (cr x)] 29) := ⟨_, rfl⟩
  have hbX : Below w.heap.size w X := by rw [hX]; exact bel_new _ _
  have hX1 : X.heap[w.heap.size]? = some (.cells [.int .i64 x.1, .int .i64 x.2.1, .int .i64 (cv x), .slice a n c, .int .i64 (ch x), .bool (cr x)].toArray 29 (0, 0)) := by rw [hX]; exact six_heap _ _ _ _ _ _ _ _
  have C := hide (eqOps_is a ka n kn c kc (ck x) K o X hn (hA.later hbX) (hK.later hbX) ho)
  have m3 := cell_of hX1 3 _ rfl
  have l2 := World.block_lt_of_cell? _ _ hb
  have HBX := hide hbX
  clear hA hK hX1 hbX ho hn m3
  go_enter Try.func28, Try.ntmps28
  go_wp2_with fail
  rw [← hX]
  clear hX
  go_wp2_with fail
  refine (unhide C).mono ?_
  rintro e w2 ⟨rfl, hb2⟩
  have HB2 := hide (bel_on (unhide HBX) hb2)
  clear hb2
  go_wp2
  go_ret
  exact ⟨rfl, unhide HB2⟩

set_option maxRecDepth 10000 in
set_option maxHeartbeats 3200000 in
theorem sumOf_of (a : Option Addr) (n c : Nat) (L : List CoinD) (ka : Option Addr) (kn kc : Nat) (K : List (Int × Int)) (bk : Nat) (x s : Int) (w : World) (h : CoinsAt w a n L) (hK : OpsAt w ka kn K) (hb : w.cell? ⟨bk, 0, none⟩ = some (.slice ka kn kc)) (hx : ckCoins L = x) (hs : (if x = 0 then sumC (L.filter (ofK K)) else 0) = s) :
    Calls Try.prog 26 #[.slice a n c, .func (.func 28) #[] #[.pointer (some ⟨bk, 0, none⟩)]] w fun e w' => e = .returned (.tuple #[.int .i64 s, .int .i64 x]) ∧ Below w.heap.size w w' := by
  have C1 := hide (uCheck_any a n c L x w h hx)
  by_cases e1 : x = 0
  · subst e1
    rw [if_pos rfl] at hs
    have hR := (ckCoins_zero L).1 hx
    have hn : n ≤ 720 := by rw [← h.1]; exact hR.len
    have HSB : Hid (∀ k, 0 ≤ sumC ((L.take k).filter (ofK K)) ∧ sumC ((L.take k).filter (ofK K)) ≤ sumC (L.take k)) := fun k => sumK_bd (L.take k) (ofK K) fun z hz => by have := ck1_zero (hR.one z (List.mem_of_mem_take hz)); omega
    have HSC := hide (fun k => sumC_bd L k (fun z hz => by have := ck1_zero (hR.one z hz); omega))
    have HV : Hid (∀ z ∈ L, 1 ≤ cv z ∧ cv z ≤ 1000000000) := fun z hz => by have := ck1_zero (hR.one z hz); omega
    have HL := hide h
    have HZ := hide h.1
    have HS := hide hs
    have HK := hide hK
    have HBK := hide hb
    clear hR h hx hs hK hb
    go_enter Try.func26, Try.ntmps26
    go_wp2_with fail
    refine (unhide C1).mono ?_
    rintro e w2 ⟨rfl, hb2⟩
    have HB2 := hide hb2
    clear hb2 C1
    go_wp2
    go_loopw [7, 17] (fun sv i wr => ∃ (k : Nat) (d : Int), k ≤ n ∧ sv = .int .i64 d ∧ i = .int .i64 k ∧ Hid (d = sumC ((L.take k).filter (ofK K))) ∧ Hid (Below w.heap.size w wr)) (fun _ i _ => n - (intOf i).toNat)
    case atStart => exact ⟨0, 0, Nat.zero_le _, rfl, rfl, rfl, HB2⟩
    case round =>
      obtain ⟨k, d, hk, rfl, rfl, A, HB⟩ := hrel
      by_cases hlt : k < n
      · have hlk : k < L.length := by rw [unhide HZ]; exact hlt
        obtain ⟨b, off, rfl, hbl, hcell⟩ := (unhide HL).2 (by omega)
        have hin := CoinAt.kept _ _ _ _ _ (unhide HB) (hcell k hlk)
        have b1 := (unhide HSB) k
        have b2 := (unhide HSC) k
        have b3 := (unhide HV) L[k] (List.getElem_mem _)
        have hst := sumK_take L (ofK K) k hlk
        obtain ⟨y, hy⟩ : ∃ y, L[k] = y := ⟨_, rfl⟩
        rw [hy] at hin hst b3
        obtain ⟨la, ln, lc, g0, g1, g2, g3, g4, g5, hO, sO⟩ := hin.val
        obtain ⟨v, hv⟩ : ∃ v, cv y = v := ⟨_, rfl⟩
        obtain ⟨o, ho⟩ : ∃ o, ofK K y = o := ⟨_, rfl⟩
        rw [ho] at hst
        rw [hv] at b3 hst
        rw [← unhide A] at b1 hst
        obtain ⟨X, hX⟩ : ∃ X, X = wr.alloc (.cells #[.int .i64 y.1, .int .i64 y.2.1, .int .i64 v, .slice la ln lc, .int .i64 (ch y), .bool (cr y)] 29) := ⟨_, rfl⟩
        have hbX : Below wr.heap.size wr X := by rw [hX]; exact bel_new _ _
        have hX1 : X.heap[wr.heap.size]? = some (.cells [.int .i64 y.1, .int .i64 y.2.1, .int .i64 v, .slice la ln lc, .int .i64 (ch y), .bool (cr y)].toArray 29 (0, 0)) := by rw [hX]; exact six_heap _ _ _ _ _ _ _ _
        have m2 := cell_of hX1 2 _ rfl
        have HBX := hide (bel_on (unhide HB) hbX)
        have T1 := of1_is y la ln lc ka kn kc K bk o X sO.len (hO.later hbX) ((unhide HK).later (unhide HBX)) (cell_later (unhide HBX) (unhide HBK)) ho
        unfold cnV at T1
        rw [hv] at T1 g2
        have HT1 := hide T1
        obtain ⟨sk, hsk⟩ : ∃ sk, sumC (L.take k) = sk := ⟨_, rfl⟩
        rw [hsk] at b1 b2
        clear hin hy HB T1 hv hX1 hbX hO sO ho hsk
        cases o with
        | true =>
          have hw1 : IntKind.i64.wrap (d + v) = d + v := by rw [IntKind.wrap_i64]; omega
          have A2 : Hid (d + v = sumC ((L.take (k + 1)).filter (ofK K))) := by show _ = _; rw [hst]; rfl
          clear hst A
          go_wp2_with fail
          rw [← hX]
          clear hX
          refine (unhide HT1).mono ?_
          rintro e w3 ⟨rfl, hb3⟩
          have n2 := cell_later hb3 m2
          have hl3 := World.block_lt_of_cell? _ _ n2
          have HB3 := hide (bel_on (unhide HBX) hb3)
          clear hb3 m2
          go_wp2
          go_roundw
          case rel => exact ⟨k + 1, d + v, by omega, rfl, by go_num, A2, HB3⟩
          case measure => simp [intOf]; omega
        | false =>
          have A2 : Hid (d = sumC ((L.take (k + 1)).filter (ofK K))) := by show _ = _; rw [hst]; rfl
          clear hst A
          go_wp2_with fail
          rw [← hX]
          clear hX
          refine (unhide HT1).mono ?_
          rintro e w3 ⟨rfl, hb3⟩
          have HB3 := hide (bel_on (unhide HBX) hb3)
          clear hb3 m2
          go_wp2
          go_roundw
          case rel => exact ⟨k + 1, d, by omega, rfl, by go_num, A2, HB3⟩
          case measure => simp [intOf]; omega
      · have e : k = n := by omega
        subst e
        have R : Hid (d = s) := by
          show _ = _
          rw [unhide A, List.take_of_length_le (by rw [unhide HZ]; exact Nat.le_refl _)]
          exact unhide HS
        clear A
        go_wp2
        go_ret2
        exact ⟨by rw [← unhide R]; rfl, unhide HB⟩
  · rw [if_neg e1] at hs
    subst hs
    have g : (x != 0) = true := by simp [e1]
    clear h hx e1 hK hb
    go_enter Try.func26, Try.ntmps26
    go_wp2_with fail
    refine (unhide C1).mono ?_
    rintro e w2 ⟨rfl, hb2⟩
    have HB2 := hide hb2
    clear hb2 C1
    go_wp2
    go_ret2
    exact ⟨rfl, unhide HB2⟩

set_option maxHeartbeats 800000 in
theorem of_is (a : Option Addr) (n c : Nat) (L : List CoinD) (ka : Option Addr) (kn kc : Nat) (K : List (Int × Int)) (x s : Int) (w : World) (h : CoinsAt w a n L) (hK : OpsAt w ka kn K) (hx : ckCoins L = x) (hs : (if x = 0 then sumC (L.filter (ofK K)) else 0) = s) :
    Calls Try.prog 9 #[.slice a n c, .slice ka kn kc] w fun e w' => e = .returned (.tuple #[.int .i64 s, .int .i64 x]) ∧ Below w.heap.size w w' := by
  obtain ⟨X, hX⟩ : ∃ X, X = w.alloc (.cells #[.slice ka kn kc] 25) := ⟨_, rfl⟩
  have hbX : Below w.heap.size w X := by rw [hX]; exact bel_new _ _
  have hX1 : X.heap[w.heap.size]? = some (.cells [.slice ka kn kc].toArray 25 (0, 0)) := by rw [hX]; exact heap_alloc_new w _
  have C := hide (sumOf_of a n c L ka kn kc K w.heap.size x s X (h.later hbX) (hK.later hbX) (cell_of hX1 0 _ rfl) hx hs)
  have HBX := hide hbX
  clear h hx hs hK hX1 hbX
  go_enter Try.func9, Try.ntmps9
  go_wp2_with fail
  rw [← hX]
  clear hX
  go_wp2_with fail
  refine (unhide C).mono ?_
  rintro e w2 ⟨rfl, hb2⟩
  have HB2 := hide (bel_on (unhide HBX) hb2)
  clear hb2
  go_wp2
  go_ret2
  exact ⟨rfl, unhide HB2⟩

end Go.Proofs.Ytklpajhgfdpboaa
