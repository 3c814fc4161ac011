/- Contracts of the reference's PathOf and WorkOf. -/
import Derived.Test.YtklekpbladmjhaaTrPathsM
import Derived.Test.YtklekpbladmjhaaTrBest
import Derived.Test.YtklekpbladmjhaaTrEq
import Derived.Deep.AppendLies
namespace Go.Proofs.Ytklekpbladmjhaa
open Go.RowKit

theorem idxI_out (x : Int) : ∀ (N : List Int) (k : Nat), x ∉ N → idxI x N k = -1
  | [], _, _ => rfl
  | a :: N, k, h => by
    simp only [List.mem_cons, not_or] at h
    simp only [idxI, if_neg h.1]
    exact idxI_out x N (k + 1) h.2
theorem own_none (w : World) (B : Nat) (e : TypeId) (sz : Nat) : w.ownsRow B e sz (.slice none 0 0) 0 [] := ⟨by simp, .inl ⟨rfl, rfl⟩⟩

set_option maxRecDepth 10000 in
set_option maxHeartbeats 1600000 in
theorem rpath_zero (a b : Option Addr) (n c e : Nat) (w : World) :
    Calls Try.prog 21 #[.agg #[.slice a n c, .slice b n e], .int .i64 0] w fun r w' => r = .returned (.tuple #[.slice none 0 0, .bool true]) ∧ Below w.heap.size w w' := by
  have HB := hide (bel_new w (.cells #[.slice a n c, .slice b n e] 25))
  go_enter Try.func21, Try.ntmps21
  go_wp2
  go_ret2
  exact ⟨rfl, unhide HB⟩

set_option maxRecDepth 10000 in
set_option maxHeartbeats 1600000 in
theorem rpath_out (a b : Option Addr) (n c e : Nat) (N : List Int) (x : Int) (w : World) (hn : n ≤ maxLen) (hN : IntsAt w a n N) (h0 : x ≠ 0) (hx : x ∉ N) :
    Calls Try.prog 21 #[.agg #[.slice a n c, .slice b n e], .int .i64 x] w fun r w' => r = .returned (.tuple #[.slice none 0 0, .bool false]) ∧ Below w.heap.size w w' := by
  obtain ⟨X, hX⟩ : ∃ X, X = w.alloc (.cells #[.slice a n c, .slice b n e] 25) := ⟨_, rfl⟩
  have hbX : Below w.heap.size w X := by rw [hX]; exact bel_new _ _
  have hX0 : X.heap[w.heap.size]? = some (.cells [.slice a n c, .slice b n e].toArray 25 (0, 0)) := by rw [hX]; exact two_heap _ _ _ _
  have hi : idxI x N 0 = -1 := idxI_out x N 0 hx
  have C1 := hide (indexInt_is a n c N x (-1) X hn (hN.later hbX) hi)
  have x0 := cell_of hX0 0 _ rfl
  have xl := lt_of_block hX0
  have HB := hide hbX
  have g : (x == 0) = false := by simp [h0]
  clear hbX hX0 hN hx hi h0
  go_enter Try.func21, Try.ntmps21
  go_wp2_with fail
  rw [← hX]
  clear hX
  refine (unhide C1).mono ?_
  rintro r w1 ⟨rfl, rfl⟩
  go_wp2
  go_ret2
  exact ⟨rfl, unhide HB⟩

set_option maxRecDepth 10000 in
set_option maxHeartbeats 6400000 in
theorem rpath_step (a b : Option Addr) (n c e : Nat) (N : List Int) (T : List BlkD) (x y : Int) (P : List Int) (d : Nat) (w : World) (hn : n ≤ maxLen) (hN : IntsAt w a n N) (hT : BlksAt w b n T) (hl : N.length = T.length) (h0 : x ≠ 0) (hx : x ∈ N) (hy : (fnd x N T).1 = y) (hd : d ≤ 1000)
    (ih : ∀ W, Below w.heap.size w W → Calls Try.prog 21 #[.agg #[.slice a n c, .slice b n e], .int .i64 y] W fun r w' => ∃ v, r = .returned (.tuple #[v, .bool true]) ∧ w'.ownsRow W.heap.size 3 1 v d (P.map (Value.int .i64)) ∧ Below W.heap.size W w') :
    Calls Try.prog 21 #[.agg #[.slice a n c, .slice b n e], .int .i64 x] w fun r w' => ∃ v, r = .returned (.tuple #[v, .bool true]) ∧ w'.ownsRow w.heap.size 3 1 v (d + 1) ((P ++ [x]).map (Value.int .i64)) ∧ Below w.heap.size w w' := by
  obtain ⟨i0, hi0, hz0, hz1, hz2⟩ := info_parts Try.infoIntC
  obtain ⟨X, hX⟩ : ∃ X, X = w.alloc (.cells #[.slice a n c, .slice b n e] 25) := ⟨_, rfl⟩
  have hbX : Below w.heap.size w X := by rw [hX]; exact bel_new _ _
  have hX0 : X.heap[w.heap.size]? = some (.cells [.slice a n c, .slice b n e].toArray 25 (0, 0)) := by rw [hX]; exact two_heap _ _ _ _
  rcases idxI_fnd x N T 0 hl with ⟨_, q, _⟩ | ⟨i, hi, k1, _, k3⟩
  · exact absurd hx q
  rw [Nat.zero_add] at k1
  have hin : i < n := by rw [← hT.1]; exact hi
  obtain ⟨bq, oq, rfl, hbq, hcq⟩ := (hT.later hbX).2 (by omega)
  have cq := (hcq i hi).1
  rw [← k3, hy] at cq
  have C1 := hide (indexInt_is a n c N x (i : Nat) X hn (hN.later hbX) k1)
  have IH := hide (fun W (hb : Below X.heap.size X W) => ih W (bel_on hbX hb))
  have x0 := cell_of hX0 0 _ rfl
  have x1 := cell_of hX0 1 _ rfl
  have xl := lt_of_block hX0
  have HB := hide hbX
  have HX0 := hide hX0
  have g : (x == 0) = false := by simp [h0]
  have gi : ¬ (i : Int) < 0 := by omega
  have giN : (i : Int) < (n : Int) := by omega
  clear hbX hX0 hN hT hx h0 ih hcq hy k1 k3
  go_enter Try.func21, Try.ntmps21
  go_wp2_with fail
  rw [← hX]
  clear hX
  refine (unhide C1).mono ?_
  rintro r w1 ⟨rfl, rfl⟩
  go_wp2_with fail
  go_region_with (go_at_call 21; refine ((unhide IH) _ (bel_draw1 _)).mono ?_; rintro r w3 ⟨v, rfl, ho3, hb3⟩; have HO3 := hide ho3; have HB3 := hide hb3; clear ho3 hb3)
  all_goals
    obtain ⟨av, cv, rfl, sv, -⟩ := ints_of_own (unhide HO3)
    have hb6 := bel_new w3 (.cells #[.int .i64 x] 3)
    have hb03 := bel_on (bel_on (unhide HB) (bel_draw1 _)) (unhide HB3)
    have OWN5 := hide ((Gr.of (S := fun _ => False) hb6).own (own_weak (unhide HO3) (unhide HB).size) (fun _ _ q => q))
    have NEWS := hide (World.news_of_block (heap_alloc_new w3 (.cells #[.int .i64 x] 3)))
    have HB6 := hide (bel_on hb03 hb6)
    clear hb6 hb03 sv
    go_wp2_with (at_builtin; refine wpList_append_lies _ rfl _ _ 22 rfl w.heap.size 3 i0 (.int .i64 0) 1 8 Try.underlying22 hi0 hz0 hz1 hz2 rfl (by decide) _ _ _ rfl (unhide OWN5) ⟨w3.heap.size, 0, none⟩ 1 1 [.int .i64 x] rfl rfl (unhide NEWS) (fun u hu => by simp at hu; subst hu; rfl) (by decide) (by unfold maxLen; omega) (by omega) (unhide HB6).size _ rfl ?_; intro g7 cap7 w7 hown7 hgrow7 hor7 _)
    have OWN7 := hide hown7
    have HB7 := hide ((unhide HB6).grown hgrow7 (unhide HB6).size (fun k hk => ((unhide OWN5).lt k hk).1))
    clear hown7 hgrow7 hor7
    go_wp2
    go_ret2
    exact ⟨.slice (some ⟨g7, 0, none⟩) (d + 1) cap7, rfl, unhide OWN7, unhide HB7⟩

theorem rpath_in (a b : Option Addr) (n c e : Nat) (N : List Int) (T : List BlkD) (hok : TrOk N T) (hn : n ≤ maxLen) : ∀ (d : Nat) (x : Int) (w : World), IntsAt w a n N → BlksAt w b n T → (x = 0 ∨ x ∈ N) → (fnd x N T).2.1.toNat = d →
    Calls Try.prog 21 #[.agg #[.slice a n c, .slice b n e], .int .i64 x] w fun r w' => ∃ v, r = .returned (.tuple #[v, .bool true]) ∧ w'.ownsRow w.heap.size 3 1 v d ((pthD N T x).map (Value.int .i64)) ∧ Below w.heap.size w w' := by
  intro d
  induction d with
  | zero =>
    intro x w _ _ hx hd
    have h0 : x = 0 := by
      rcases hx with h | h
      · exact h
      · have := (hok.heads _ (fnd_in hok.len h)).1
        omega
    subst h0
    rw [hok.pth_zero]
    exact (rpath_zero a b n c e w).mono fun r w' ⟨h1, h2⟩ => ⟨_, h1, own_none _ _ _ _, h2⟩
  | succ d ih =>
    intro x w hN hT hx hd
    have hxN : x ∈ N := by
      rcases hx with rfl | hx
      · rw [fnd_out hok.len hok.zero] at hd
        simp [zeroB] at hd
      · exact hx
    have e1 := hok.hgt x hxN
    have h1 := fnd_ok hok.heads (fnd x N T).1 N
    have h2 := fnd_ok hok.heads x N
    rw [hok.pth_step hxN]
    exact rpath_step a b n c e N T x _ _ d w hn hN hT hok.len (fun q => hok.zero (q ▸ hxN)) hxN rfl (by omega) (fun W hb => ih _ W (hN.later hb) (hT.later hb) (hok.par x hxN) (by omega))

theorem rpath_is (a b : Option Addr) (n c e : Nat) (N : List Int) (T : List BlkD) (x : Int) (P : List Int) (pn : Nat) (w : World) (hok : TrOk N T) (hn : n ≤ maxLen) (hN : IntsAt w a n N) (hT : BlksAt w b n T) (hx : x = 0 ∨ x ∈ N) (hP : pthD N T x = P) (hpn : P.length = pn) :
    Calls Try.prog 21 #[.agg #[.slice a n c, .slice b n e], .int .i64 x] w fun r w' => ∃ v, r = .returned (.tuple #[v, .bool true]) ∧ w'.ownsRow w.heap.size 3 1 v pn (P.map (Value.int .i64)) ∧ Below w.heap.size w w' := by
  subst hP hpn
  have := rpath_in a b n c e N T hok hn _ x w hN hT hx rfl
  rw [← pth_length] at this
  exact this

theorem rpath_any (a b : Option Addr) (n c e : Nat) (N : List Int) (T : List BlkD) (x : Int) (Q : List Int) (o : Bool) (qn : Nat) (w : World) (hok : TrOk N T) (hn : n ≤ maxLen) (hN : IntsAt w a n N) (hT : BlksAt w b n T) (hQ : (if x = 0 ∨ x ∈ N then (pthD N T x, true) else (([] : List Int), false)) = (Q, o)) (hq : Q.length = qn) :
    Calls Try.prog 21 #[.agg #[.slice a n c, .slice b n e], .int .i64 x] w fun r w' => ∃ v, r = .returned (.tuple #[v, .bool o]) ∧ w'.ownsRow w.heap.size 3 1 v qn (Q.map (Value.int .i64)) ∧ Below w.heap.size w w' := by
  by_cases h : x = 0 ∨ x ∈ N
  · rw [if_pos h] at hQ
    obtain ⟨h1, rfl⟩ : pthD N T x = Q ∧ true = o := ⟨congrArg Prod.fst hQ, congrArg Prod.snd hQ⟩
    exact rpath_is a b n c e N T x Q qn w hok hn hN hT h h1 hq
  · rw [if_neg h] at hQ
    obtain ⟨rfl, rfl⟩ : ([] : List Int) = Q ∧ false = o := ⟨congrArg Prod.fst hQ, congrArg Prod.snd hQ⟩
    obtain rfl : 0 = qn := hq
    exact (rpath_out a b n c e N x w hn hN (fun q => h (.inl q)) (fun q => h (.inr q))).mono fun r w' ⟨h1, h2⟩ => ⟨_, h1, own_none _ _ _ _, h2⟩

set_option maxRecDepth 10000 in
set_option maxHeartbeats 3200000 in
theorem rwork_is (a b : Option Addr) (n c d : Nat) (N : List Int) (T : List BlkD) (x z : Int) (w : World) (hok : TrOk N T) (hn : n ≤ 24) (hN : IntsAt w a n N) (hT : BlksAt w b n T) (hx : x = 0 ∨ x ∈ N) (hz : wrkD N T x = z) :
    Calls Try.prog 24 #[.agg #[.slice a n c, .slice b n d], .int .i64 x] w fun r w' => r = .returned (.int .i64 z) ∧ Below w.heap.size w w' := by
  obtain ⟨X, hX⟩ : ∃ X, X = w.alloc (.cells #[.slice a n c, .slice b n d] 25) := ⟨_, rfl⟩
  have hbX : Below w.heap.size w X := by rw [hX]; exact bel_new _ _
  have hX0 : X.heap[w.heap.size]? = some (.cells [.slice a n c, .slice b n d].toArray 25 (0, 0)) := by rw [hX]; exact two_heap _ _ _ _
  have hnm : n ≤ maxLen := by unfold maxLen; omega
  obtain ⟨P, hP⟩ : ∃ P, pthD N T x = P := ⟨_, rfl⟩
  obtain ⟨pn, hpn⟩ : ∃ pn, P.length = pn := ⟨_, rfl⟩
  have hpl : pn ≤ 1000 := by rw [← hpn, ← hP]; exact pth_len hok.heads x
  have C1 := hide (rpath_is a b n c d N T x P pn X hok hnm (hN.later hbX) (hT.later hbX) hx hP hpn)
  have HB := hide hbX
  have HX0 := hide hX0
  have HN := hide (hN.later hbX)
  have HT := hide (hT.later hbX)
  have HZN := hide hN.1
  have HZT := hide hT.1
  have HH := hide hok.heads
  have HX : Hid (rwGo P 0 (N.drop 0) (T.drop 0) = z) := by show _ = _; rw [← hz, ← hok.rw_wrk hx, hP]; rfl
  have x0 := cell_of hX0 0 _ rfl
  have x1 := cell_of hX0 1 _ rfl
  have xl := lt_of_block hX0
  clear hbX hX0 hN hT hx hz hP hpn hok
  go_enter Try.func24, Try.ntmps24
  go_wp2_with fail
  rw [← hX]
  clear hX
  refine (unhide C1).mono ?_
  rintro r w1 ⟨v, rfl, ho1, hb1⟩
  obtain ⟨pa, pc, rfl, sp, hp⟩ := ints_of_own ho1
  have HP := hide hp
  have hc1 := (hb1.block _ (lt_of_block (unhide HX0))).trans (unhide HX0)
  have HC1 := hide hc1
  have y0 := cell_of hc1 0 _ rfl
  have yl := lt_of_block hc1
  have HB1 := hide hb1
  clear ho1 hp sp hb1 hc1 x0 x1 xl C1
  go_wp2
  go_loopw [5, 19] (fun sv i wr => ∃ (k : Nat) (s : Int), k ≤ n ∧ sv = .int .i64 s ∧ i = .int .i64 k ∧ Hid (rwGo P s (N.drop k) (T.drop k) = z) ∧ Hid (0 ≤ s ∧ s ≤ 1000 * k) ∧ Hid (Below w1.heap.size w1 wr)) (fun _ i _ => n - (intOf i).toNat)
  case atStart => exact ⟨0, 0, Nat.zero_le _, rfl, rfl, HX, (⟨by omega, by omega⟩ : (0 : Int) ≤ 0 ∧ (0 : Int) ≤ 1000 * (0 : Nat)), (Below.refl _ _ : Below w1.heap.size w1 w1)⟩
  case round =>
    obtain ⟨k, s, hk, rfl, rfl, A, BD, HBr⟩ := hrel
    clear HX y0 yl
    by_cases hlt : k < n
    · have h1 : k < N.length := by rw [unhide HZN]; exact hlt
      have h2 : k < T.length := by rw [unhide HZT]; exact hlt
      have hbr := bel_on (unhide HB1) (unhide HBr)
      obtain ⟨b1, off1, rfl, hl1, hcc1⟩ := (unhide HN).2 (by omega)
      obtain ⟨b2, off2, rfl, hl2, hcc2⟩ := (unhide HT).2 (by omega)
      have f1 := cell_later hbr (hcc1 k h1)
      have f2 := cell_later hbr (hcc2 k h2).2.2.1
      have AT := hide (rwGo_at P s N T k h1 h2)
      have hq := (unhide HH) _ (List.getElem_mem h2)
      obtain ⟨y, hy⟩ : ∃ y, N[k] = y := ⟨_, rfl⟩
      obtain ⟨v, hv⟩ : ∃ v, T[k].2.2.1 = v := ⟨_, rfl⟩
      obtain ⟨o, ho⟩ : ∃ o, decide (y ∈ P) = o := ⟨_, rfl⟩
      rw [hy, hv, ho] at AT
      rw [hy] at f1
      rw [hv] at f2 hq
      have ll1 := Nat.lt_of_lt_of_le hl1 hbr.size
      have ll2 := Nat.lt_of_lt_of_le hl2 hbr.size
      have hcx := ((unhide HBr).block _ (lt_of_block (unhide HC1))).trans (unhide HC1)
      have t0 := cell_of hcx 0 _ rfl
      have t1 := cell_of hcx 1 _ rfl
      have tl := lt_of_block hcx
      have CC := hide (containsInt_is pa pn pc P y o wr (by unfold maxLen; omega) ((unhide HP).later (unhide HBr)) ho)
      have hbd := unhide BD
      have hw1 : IntKind.i64.wrap (s + v) = s + v := by rw [IntKind.wrap_i64]; omega
      have hkI : (k : Int) < (n : Int) := by omega
      cases o with
      | true =>
        have R : Hid (rwGo P (s + v) (N.drop (k + 1)) (T.drop (k + 1)) = z) := by
          show _ = _
          have := unhide AT
          rw [if_pos rfl] at this
          rw [← unhide A, this]
        have BD2 : Hid (0 ≤ s + v ∧ s + v ≤ 1000 * ((k + 1 : Nat) : Int)) := by show _ ∧ _; omega
        clear hcc1 hcc2 hy hv ho A AT hcx hq hbd BD hl1 hl2 hbr
        go_wp2_with fail
        refine (unhide CC).mono ?_
        rintro r w5 ⟨rfl, rfl⟩
        go_wp2
        go_roundw
        case rel => exact ⟨k + 1, s + v, by omega, rfl, by go_num, R, BD2, HBr⟩
        case measure => simp [intOf]; omega
      | false =>
        have R : Hid (rwGo P s (N.drop (k + 1)) (T.drop (k + 1)) = z) := by
          show _ = _
          have := unhide AT
          rw [if_neg (by decide)] at this
          rw [← unhide A, this]
        have BD2 : Hid (0 ≤ s ∧ s ≤ 1000 * ((k + 1 : Nat) : Int)) := by show _ ∧ _; omega
        clear hcc1 hcc2 hy hv ho A AT hcx hq hbd BD hl1 hl2 hbr
        go_wp2_with fail
        refine (unhide CC).mono ?_
        rintro r w5 ⟨rfl, rfl⟩
        go_wp2
        go_roundw
        case rel => exact ⟨k + 1, s, by omega, rfl, by go_num, R, BD2, HBr⟩
        case measure => simp [intOf]; omega
    · have R : Hid (s = z) := by show _ = _; rw [← unhide A, rwGo_end P s N T k (by rw [unhide HZN]; omega)]
      have HBF := hide (bel_on (unhide HB) (bel_on (unhide HB1) (unhide HBr)))
      clear A BD
      go_wp2
      go_ret
      exact ⟨by rw [unhide R]; rfl, unhide HBF⟩

end Go.Proofs.Ytklekpbladmjhaa
