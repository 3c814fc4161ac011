/- The law UnspentFinds answers true. -/
import Derived.Test.YtklpajhgfdpboaaCoinFind
import Derived.Test.YtklpajhgfdpboaaCoinThere
import Derived.Test.YtklpajhgfdpboaaCoinOf
import Derived.Test.YtklpajhgfdpboaaRefCoins
import Derived.Test.YtklpajhgfdpboaaRefEq
import Derived.Test.YtklpajhgfdpboaaCoinTwiceM
namespace Go.Proofs.Ytklpajhgfdpboaa
open Go.RowKit

theorem set6_any {w : World} {b : Nat} {t : TypeId} {c0 c1 c2 c3 c4 c5 : Value} (h : w.heap[b]? = some (.cells [c0, c1, c2, c3, c4, c5].toArray t (0, 0))) (a0 a1 a2 a3 a4 a5 : Value) : ((((((w.setCell ⟨b, 0, none⟩ a0).setCell ⟨b, 1, none⟩ a1).setCell ⟨b, 2, none⟩ a2).setCell ⟨b, 3, none⟩ a3).setCell ⟨b, 4, none⟩ a4).setCell ⟨b, 5, none⟩ a5).heap[b]? = some (.cells [a0, a1, a2, a3, a4, a5].toArray t (0, 0)) := by
  have one : ∀ {w : World} {X : Array Value} (i : Nat) (a : Value), w.heap[b]? = some (.cells X t (0, 0)) → (w.setCell ⟨b, i, none⟩ a).heap[b]? = some (.cells (X.setIfInBounds i a) t (0, 0)) := fun {w X} i a hw => by
    rw [setCell_eq_setRow w b i X t (0, 0) a hw]; exact setRow_heap w b _ _ t _ hw
  exact one 5 a5 (one 4 a4 (one 3 a3 (one 2 a2 (one 1 a1 (one 0 a0 h)))))
theorem coins_one {w : World} {b : Nat} {t : TypeId} (x : CoinD) {la : Option Addr} {ln lc : Nat} (h : w.heap[b]? = some (.cells [.int .i64 x.1, .int .i64 x.2.1, .int .i64 (cv x), .slice la ln lc, .int .i64 (ch x), .bool (cr x)].toArray t (0, 0))) (hO : OpsAt w la ln (ck x)) (hs : SlOk la ln lc) : CoinsAt w (some ⟨b, 0, none⟩) 1 [x] :=
  ⟨rfl, fun _ => ⟨b, 0, rfl, lt_of_block h, fun i hi => by
    obtain rfl : i = 0 := by simp at hi; exact hi
    exact ⟨cell_of h 0 _ rfl, cell_of h 1 _ rfl, cell_of h 2 _ rfl, ⟨la, ln, lc, cell_of h 3 _ rfl, hO, hs⟩, cell_of h 4 _ rfl, cell_of h 5 _ rfl⟩⟩⟩

/-- What was found among the first ones. -/
def Fnd (L : List CoinD) (p : PtD) (k : Nat) (E : Int) (q : CoinD) : Prop := (E = 7 ∧ q = zeroD ∧ ∀ c ∈ L.take k, pt c ≠ p) ∨ (E = 0 ∧ q ∈ L ∧ pt q = p)
theorem Fnd.zero (L : List CoinD) (p : PtD) : Fnd L p 0 7 zeroD := .inl ⟨rfl, rfl, fun c hc => by simp at hc⟩
theorem Fnd.yes {L : List CoinD} {p : PtD} {k : Nat} (h : k < L.length) {y : CoinD} (hy : L[k] = y) (e : pt y = p) : Fnd L p (k + 1) 0 y := .inr ⟨rfl, hy ▸ List.getElem_mem _, e⟩
theorem Fnd.no {L : List CoinD} {p : PtD} {k : Nat} (h : k < L.length) {y q : CoinD} {E : Int} (hy : L[k] = y) (e : pt y ≠ p) (f : Fnd L p k E q) : Fnd L p (k + 1) E q := by
  rcases f with ⟨f1, f2, f3⟩ | f
  · refine .inl ⟨f1, f2, fun c hc => ?_⟩
    rw [List.take_succ_eq_append_getElem h, hy] at hc
    rcases List.mem_append.1 hc with hc | hc
    · exact f3 c hc
    · rw [List.mem_singleton.1 hc]; exact e
  · exact .inr f
theorem Fnd.end {L : List CoinD} {p : PtD} {k : Nat} {E : Int} {q : CoinD} (f : Fnd L p k E q) (hk : L.length ≤ k) (h : ckCoins L = 0) : fdD L p = (E, q) := by
  have hR := (ckCoins_zero L).1 h
  rcases f with ⟨f1, f2, f3⟩ | ⟨f1, f2, f3⟩
  · rw [List.take_of_length_le hk] at f3
    rw [fdD_none h (hasP_no.2 f3), f1, f2]
  · rw [fdD_some h hR.srt f2 f3, f1]

set_option maxRecDepth 10000 in
set_option maxHeartbeats 25600000 in
theorem lawFinds_any (a : Option Addr) (n c : Nat) (L : List CoinD) (p1 p2 : Int) (ka : Option Addr) (kn kc : Nat) (K : List (Int × Int)) (am : Option Addr) (nm cm : Nat) (M : List CoinD) (w : World)
    (hL : CoinsAt w a n L) (sL : SlOk a n c) (hK : OpsAt w ka kn K) (hM : CoinsAt w am nm M) :
    Calls Try.prog 3 #[.slice a n c, .agg #[.int .i64 p1, .int .i64 p2], .slice ka kn kc, .slice am nm cm] w fun e w' => e = .returned (.bool true) ∧ Below w.heap.size w w' := by
  obtain ⟨X, hX⟩ : ∃ X, X = w.alloc (.cells #[.int .i64 p1, .int .i64 p2] 24) := ⟨_, rfl⟩
  have hbX : Below w.heap.size w X := by rw [hX]; exact bel_new _ _
  have hXp : X.heap[w.heap.size]? = some (.cells [.int .i64 p1, .int .i64 p2].toArray 24 (0, 0)) := by rw [hX]; exact heap_alloc_new w _
  obtain ⟨x, hx⟩ : ∃ x, ckCoins L = x := ⟨_, rfl⟩
  obtain ⟨⟨e, q⟩, hq⟩ : ∃ r, fdD L (p1, p2) = r := ⟨_, rfl⟩
  obtain ⟨s1, hs1⟩ : ∃ s, (if x = 0 then sumC L else 0) = s := ⟨_, rfl⟩
  obtain ⟨s2, hs2⟩ : ∃ s, (if x = 0 then sumC (L.filter (ofK K)) else 0) = s := ⟨_, rfl⟩
  obtain ⟨o, ho⟩ : ∃ o, sameL L M = o := ⟨_, rfl⟩
  have hLX := hL.later hbX
  have hMX := hM.later hbX
  have hKX := hK.later hbX
  have FD := hide (find_is a n c L (p1, p2) e q X hLX hq)
  have TT := hide (fun W (hb : Below X.heap.size X W) => total_is a n c L x s1 W (hLX.later hb) hx hs1)
  have OO := hide (fun W (hb : Below X.heap.size X W) => of_is a n c L ka kn kc K x s2 W (hLX.later hb) (hKX.later hb) hx hs2)
  have RC := hide (fun W (hb : Below X.heap.size X W) => rCoins_any a n c L x W (hLX.later hb) hx)
  have SA := hide (fun W (hb : Below X.heap.size X W) => uSame_is a am n nm c cm L M o W sL.len (hLX.later hb) (hMX.later hb) ho)
  have RS := hide (fun W (hb : Below X.heap.size X W) => rsameCoins_is a am n nm c cm L M o W sL.len (hLX.later hb) (hMX.later hb) ho)
  have TH := hide there_yes
  have HP := hide hXp
  have HBX := hide hbX
  have HL := hide hLX
  have HK := hide hKX
  have HX := hide hx
  have HQ := hide hq
  have HS1 := hide hs1
  have HS2 := hide hs2
  have xp0 := cell_of hXp 0 _ rfl
  have xp1 := cell_of hXp 1 _ rfl
  have hl0 := lt_of_block hXp
  clear hL hK hM sL hLX hMX hKX hx hq hs1 hs2 ho hXp hbX
  go_enter Try.func3, Try.ntmps3
  go_wp2_with fail
  rw [← hX]
  clear hX
  go_wp2_with fail
  refine (unhide FD).mono ?_
  rintro e' w1 ⟨la, ln, lc, rfl, hO, sO, hb1⟩
  unfold cnV
  obtain ⟨Y, hY⟩ : ∃ Y, Y = w1.alloc (.cells #[.int .i64 q.1, .int .i64 q.2.1, .int .i64 (cv q), .slice la ln lc, .int .i64 (ch q), .bool (cr q)] 29) := ⟨_, rfl⟩
  have hbY : Below w1.heap.size w1 Y := by rw [hY]; exact bel_new _ _
  have hYc : Y.heap[w1.heap.size]? = some (.cells [.int .i64 q.1, .int .i64 q.2.1, .int .i64 (cv q), .slice la ln lc, .int .i64 (ch q), .bool (cr q)].toArray 29 (0, 0)) := by rw [hY]; exact six_heap _ _ _ _ _ _ _ _
  have HYC := hide hYc
  have HO := hide (hO.later hbY)
  have HSO := hide sO
  have HXY := hide (bel_on hb1 hbY)
  have T1 := hide ((unhide TT) Y (unhide HXY))
  clear hO sO hb1 hbY hYc xp0 xp1 hl0 FD TT
  go_wp2_with fail
  rw [← hY]
  clear hY
  go_wp2_with fail
  refine (unhide T1).mono ?_
  rintro e' w2 ⟨rfl, hb2⟩
  have HY2 := hide hb2
  have O2 := hide ((unhide OO) w2 (bel_on (unhide HXY) hb2))
  clear hb2 T1 OO
  go_wp2_with fail
  refine (unhide O2).mono ?_
  rintro e' w3 ⟨rfl, hb3⟩
  have HY3 := hide (bel_on (unhide HY2) hb3)
  have R3 := hide ((unhide RC) w3 (bel_on (unhide HXY) (unhide HY3)))
  clear hb3 O2 RC HY2
  go_wp2_with fail
  refine (unhide R3).mono ?_
  rintro e' w4 ⟨rfl, hb4⟩
  have HY4 := hide (bel_on (unhide HY3) hb4)
  have TH4 := hide ((unhide TH) w4)
  clear hb4 R3 HY3 TH
  go_wp2_with fail
  refine (unhide TH4).mono ?_
  rintro e' w5 ⟨rfl, hb5⟩
  have HY5 := hide (bel_on (unhide HY4) hb5)
  have S5 := hide ((unhide SA) w5 (bel_on (unhide HXY) (unhide HY5)))
  clear hb5 TH4 HY4 SA
  go_wp2_with fail
  refine (unhide S5).mono ?_
  rintro e' w6 ⟨rfl, hb6⟩
  have HY6 := hide (bel_on (unhide HY5) hb6)
  have S6 := hide ((unhide RS) w6 (bel_on (unhide HXY) (unhide HY6)))
  clear hb6 S5 HY5 RS
  go_wp2_with fail
  refine (unhide S6).mono ?_
  rintro e' w7 ⟨rfl, hb7⟩
  have HY7 := hide (bel_on (unhide HY6) hb7)
  clear hb7 S6 HY6
  have hoo : (o != o) = false := by simp
  have hc7 := ((unhide HY7).block _ (lt_of_block (unhide HYC))).trans (unhide HYC)
  by_cases hx0 : x = 0
  · subst hx0
    have G1 : Hid (sumC L = s1) := by have g := unhide HS1; rw [if_pos rfl] at g; exact g
    have G2 : Hid (sumC (L.filter (ofK K)) = s2) := by have g := unhide HS2; rw [if_pos rfl] at g; exact g
    clear HS1 HS2
    have HR := hide ((ckCoins_zero L).1 (unhide HX))
    have hn : n ≤ 720 := by rw [← (unhide HL).1]; exact (unhide HR).len
    have HSB : Hid (∀ k, 0 ≤ sumC ((L.take k).filter (ofK K)) ∧ sumC ((L.take k).filter (ofK K)) ≤ sumC (L.take k)) := fun k => sumK_bd (L.take k) (ofK K) fun z hz => by have := ck1_zero ((unhide HR).one z (List.mem_of_mem_take hz)); omega
    have HSC := hide (fun k => sumC_bd L k (fun z hz => by have := ck1_zero ((unhide HR).one z hz); omega))
    have HV : Hid (∀ z ∈ L, 1 ≤ cv z ∧ cv z ≤ 1000000000) := fun z hz => by have := ck1_zero ((unhide HR).one z hz); omega
    obtain ⟨D, hD⟩ : ∃ D, D = w7.alloc (.cells #[.int .i64 0, .int .i64 0, .int .i64 0, .slice none 0 0, .int .i64 0, .bool false] 29) := ⟨_, rfl⟩
    have hbD : Below w7.heap.size w7 D := by rw [hD]; exact bel_new _ _
    have hDf : D.heap[w7.heap.size]? = some (.cells [.int .i64 0, .int .i64 0, .int .i64 0, .slice none 0 0, .int .i64 0, .bool false].toArray 29 (0, 0)) := by rw [hD]; exact six_heap _ _ _ _ _ _ _ _
    have HDF : Hid (D.heap[w7.heap.size]? = some (.cells [.int .i64 zeroD.1, .int .i64 zeroD.2.1, .int .i64 (cv zeroD), .slice none 0 0, .int .i64 (ch zeroD), .bool (cr zeroD)].toArray 29 (0, 0))) := hDf
    have HBD := hide hbD
    clear hbD hDf hc7
    go_wp2_with fail
    rw [← hD]
    clear hD
    go_wp2
    go_loopw [16, 17, 19, 85] (fun sv iv ev i wr => ∃ (k : Nat) (d s E : Int) (fq : CoinD) (fa : Option Addr) (fn fc : Nat), k ≤ n ∧ sv = .int .i64 d ∧ iv = .int .i64 s ∧ ev = .int .i64 E ∧ i = .int .i64 k ∧ Hid (d = sumC (L.take k)) ∧ Hid (s = sumC ((L.take k).filter (ofK K))) ∧ Hid (Fnd L (p1, p2) k E fq) ∧
      Hid (wr.heap[w7.heap.size]? = some (.cells [.int .i64 fq.1, .int .i64 fq.2.1, .int .i64 (cv fq), .slice fa fn fc, .int .i64 (ch fq), .bool (cr fq)].toArray 29 (0, 0))) ∧ Hid (OpsAt w7 fa fn (ck fq) ∧ SlOk fa fn fc) ∧ Hid (Below w7.heap.size w7 wr)) (fun _ _ _ i _ => n - (intOf i).toNat)
    case atStart => exact ⟨0, 0, 0, 7, zeroD, none, 0, 0, Nat.zero_le _, rfl, rfl, rfl, rfl, rfl, rfl, Fnd.zero _ _, HDF, (⟨⟨rfl, fun h => absurd h (by omega)⟩, slok_nil⟩ : OpsAt w7 none 0 (ck zeroD) ∧ SlOk none 0 0), HBD⟩
    case round =>
      obtain ⟨k, d, s, E, fq, fa, fn, fc, hk, rfl, rfl, rfl, rfl, A1, A2, A3, HF, HFO, HB⟩ := hrel
      clear HDF HBD
      have HXr := hide (bel_on (unhide HXY) (bel_on (unhide HY7) (unhide HB)))
      by_cases hlt : k < n
      · have hlk : k < L.length := by rw [(unhide HL).1]; exact hlt
        obtain ⟨b, off, rfl, hbl, hcell⟩ := (unhide HL).2 (by omega)
        have hin7 := CoinAt.kept _ _ _ _ _ (bel_on (unhide HXY) (unhide HY7)) (hcell k hlk)
        have b1 := (unhide HSB) k
        have b2 := (unhide HSC) k
        have b3 := (unhide HV) L[k] (List.getElem_mem _)
        have T1 := hide (sumC_take L k hlk)
        have T2 := hide (sumK_take L (ofK K) k hlk)
        have FY := hide (fun (y : CoinD) hy (e : pt y = (p1, p2)) => Fnd.yes hlk (p := (p1, p2)) (y := y) hy e)
        have FN := hide (fun (y : CoinD) hy (e : pt y ≠ (p1, p2)) => Fnd.no hlk hy e (unhide A3))
        obtain ⟨y, hy⟩ : ∃ y, L[k] = y := ⟨_, rfl⟩
        have FY2 := hide ((unhide FY) y hy)
        have FN2 := hide ((unhide FN) y hy)
        rw [hy] at hin7 b3 T1 T2
        obtain ⟨y1, y2, v, lk, hh, rr⟩ := y
        obtain ⟨ya, yn, yc, g0', g1', g2', g3', g4', g5', hO7, sO7⟩ := hin7.val
        simp only [cv, ck, ch, cr] at g0' g1' g2' g3' g4' g5' hO7 b3 T1
        have hcv : cv (y1, y2, v, lk, hh, rr) = v := rfl
        rw [hcv] at T2
        rw [← unhide A2] at b1 T2
        rw [← unhide A1] at b1 b2 T1
        have g0 := cell_later (unhide HB) g0'
        have g1 := cell_later (unhide HB) g1'
        have g2 := cell_later (unhide HB) g2'
        have g3 := cell_later (unhide HB) g3'
        have g4 := cell_later (unhide HB) g4'
        have g5 := cell_later (unhide HB) g5'
        obtain ⟨Z, hZ⟩ : ∃ Z, Z = wr.alloc (.cells #[.int .i64 y1, .int .i64 y2, .int .i64 v, .slice ya yn yc, .int .i64 hh, .bool rr] 29) := ⟨_, rfl⟩
        have hbZ : Below wr.heap.size wr Z := by rw [hZ]; exact bel_new _ _
        have hZ1 : Z.heap[wr.heap.size]? = some (.cells [.int .i64 y1, .int .i64 y2, .int .i64 v, .slice ya yn yc, .int .i64 hh, .bool rr].toArray 29 (0, 0)) := by rw [hZ]; exact six_heap _ _ _ _ _ _ _ _
        have HZ1 := hide hZ1
        have HBZ := hide (bel_on (unhide HB) hbZ)
        have hFZ := (hbZ.block _ (lt_of_block (unhide HF))).trans (unhide HF)
        have HFZ := hide hFZ
        have HO7 := hide hO7
        have HSO7 := hide sO7
        obtain ⟨o2, ho2⟩ : ∃ o2, ofK K (y1, y2, v, lk, hh, rr) = o2 := ⟨_, rfl⟩
        have EQ := hide (eqOps_is ya ka yn kn yc kc lk K o2 Z sO7.len (hO7.later (unhide HBZ)) ((unhide HK).later (bel_on (unhide HXr) hbZ)) ho2)
        have hw1 : IntKind.i64.wrap (d + v) = d + v := by rw [IntKind.wrap_i64]; omega
        have hw2 : IntKind.i64.wrap (s + v) = s + v := by rw [IntKind.wrap_i64]; omega
        rw [ho2] at T2
        have A1' : Hid (d + v = sumC (L.take (k + 1))) := (unhide T1).symm
        clear g0' g1' g2' g3' g4' g5' hO7 sO7 hin7 hcell hbl hZ1 hbZ hFZ ho2 hy FY FN T1 hcv
        go_wp2_with fail
        rw [← hZ]
        clear hZ
        go_wp2_with fail
        refine (unhide EQ).mono ?_
        rintro e' w9 ⟨rfl, hb9⟩
        have hz9 := (hb9.block _ (lt_of_block (unhide HZ1))).trans (unhide HZ1)
        have hf9 := (hb9.block _ (lt_of_block (unhide HFZ))).trans (unhide HFZ)
        have HB9 := hide (bel_on (unhide HBZ) hb9)
        have hp9 := ((bel_on (unhide HXY) (bel_on (unhide HY7) (unhide HB9))).block _ (lt_of_block (unhide HP))).trans (unhide HP)
        have z0 := cell_of hz9 0 _ rfl
        have z1 := cell_of hz9 1 _ rfl
        have z2 := cell_of hz9 2 _ rfl
        have z3 := cell_of hz9 3 _ rfl
        have z4 := cell_of hz9 4 _ rfl
        have z5 := cell_of hz9 5 _ rfl
        have zl := lt_of_block hz9
        have q0 := cell_of hp9 0 _ rfl
        have q1 := cell_of hp9 1 _ rfl
        have ql := lt_of_block hp9
        have f0 := cell_of hf9 0 _ rfl
        have f1 := cell_of hf9 1 _ rfl
        have f2 := cell_of hf9 2 _ rfl
        have f3 := cell_of hf9 3 _ rfl
        have f4 := cell_of hf9 4 _ rfl
        have f5 := cell_of hf9 5 _ rfl
        have u0 := frozen_of hf9 0
        have u1 := frozen_of hf9 1
        have u2 := frozen_of hf9 2
        have u3 := frozen_of hf9 3
        have u4 := frozen_of hf9 4
        have u5 := frozen_of hf9 5
        have fl := lt_of_block hf9
        have HF9 := hide hf9
        clear hb9 hz9 hf9 hp9 EQ g0 g1 g2 g3 g4 g5 HB HF HXr
        by_cases e1 : y1 = p1
        · subst e1
          by_cases e2 : y2 = p2
          · subst e2
            have AF := hide ((unhide FY2) rfl)
            have HN := hide (set6_any (unhide HF9) (.int .i64 y1) (.int .i64 y2) (.int .i64 v) (.slice ya yn yc) (.int .i64 hh) (.bool rr))
            have HBN := hide (below_six (unhide HB9) w7.heap.size (Nat.le_refl _) (.int .i64 y1) (.int .i64 y2) (.int .i64 v) (.slice ya yn yc) (.int .i64 hh) (.bool rr))
            clear FY2 FN2 HF9
            cases o2 with
            | true =>
              have A2' : Hid (s + v = sumC ((L.take (k + 1)).filter (ofK K))) := by show _ = _; rw [unhide T2]; rfl
              clear T2 A2
              go_wp2
              go_roundw
              case rel => exact ⟨k + 1, d + v, s + v, 0, (y1, y2, v, lk, hh, rr), ya, yn, yc, by omega, rfl, rfl, rfl, by go_num, A1', A2', AF, HN, (⟨unhide HO7, unhide HSO7⟩ : OpsAt w7 ya yn lk ∧ SlOk ya yn yc), HBN⟩
              case measure => simp [intOf]; omega
            | false =>
              have A2' : Hid (s = sumC ((L.take (k + 1)).filter (ofK K))) := by show _ = _; rw [unhide T2]; rfl
              clear T2 A2
              go_wp2
              go_roundw
              case rel => exact ⟨k + 1, d + v, s, 0, (y1, y2, v, lk, hh, rr), ya, yn, yc, by omega, rfl, rfl, rfl, by go_num, A1', A2', AF, HN, (⟨unhide HO7, unhide HSO7⟩ : OpsAt w7 ya yn lk ∧ SlOk ya yn yc), HBN⟩
              case measure => simp [intOf]; omega
          · have AF := hide ((unhide FN2) (fun q => e2 (by injection q)))
            clear FY2 FN2
            cases o2 with
            | true =>
              have A2' : Hid (s + v = sumC ((L.take (k + 1)).filter (ofK K))) := by show _ = _; rw [unhide T2]; rfl
              clear T2 A2
              go_wp2
              go_roundw
              case rel => exact ⟨k + 1, d + v, s + v, E, fq, fa, fn, fc, by omega, rfl, rfl, rfl, by go_num, A1', A2', AF, HF9, HFO, HB9⟩
              case measure => simp [intOf]; omega
            | false =>
              have A2' : Hid (s = sumC ((L.take (k + 1)).filter (ofK K))) := by show _ = _; rw [unhide T2]; rfl
              clear T2 A2
              go_wp2
              go_roundw
              case rel => exact ⟨k + 1, d + v, s, E, fq, fa, fn, fc, by omega, rfl, rfl, rfl, by go_num, A1', A2', AF, HF9, HFO, HB9⟩
              case measure => simp [intOf]; omega
        · have AF := hide ((unhide FN2) (fun q => e1 (by injection q)))
          clear FY2 FN2
          cases o2 with
          | true =>
            have A2' : Hid (s + v = sumC ((L.take (k + 1)).filter (ofK K))) := by show _ = _; rw [unhide T2]; rfl
            clear T2 A2
            go_wp2
            go_roundw
            case rel => exact ⟨k + 1, d + v, s + v, E, fq, fa, fn, fc, by omega, rfl, rfl, rfl, by go_num, A1', A2', AF, HF9, HFO, HB9⟩
            case measure => simp [intOf]; omega
          | false =>
            have A2' : Hid (s = sumC ((L.take (k + 1)).filter (ofK K))) := by show _ = _; rw [unhide T2]; rfl
            clear T2 A2
            go_wp2
            go_roundw
            case rel => exact ⟨k + 1, d + v, s, E, fq, fa, fn, fc, by omega, rfl, rfl, rfl, by go_num, A1', A2', AF, HF9, HFO, HB9⟩
            case measure => simp [intOf]; omega
      · have hle : L.length ≤ k := by rw [(unhide HL).1]; omega
        have hfe := (unhide A3).end hle (unhide HX)
        rw [unhide HQ] at hfe
        injection hfe with hE hqq
        subst hE hqq
        have R1 : s1 = d := by rw [← unhide G1, unhide A1, List.take_of_length_le hle]
        have R2 : s2 = s := by rw [← unhide G2, unhide A2, List.take_of_length_le hle]
        subst R1 R2
        have hcr := ((unhide HB).block _ (lt_of_block (((unhide HY7).block _ (lt_of_block (unhide HYC))).trans (unhide HYC)))).trans (((unhide HY7).block _ (lt_of_block (unhide HYC))).trans (unhide HYC))
        have hfr := unhide HF
        have c0 := cell_of hcr 0 _ rfl
        have c1 := cell_of hcr 1 _ rfl
        have c2 := cell_of hcr 2 _ rfl
        have c3 := cell_of hcr 3 _ rfl
        have c4 := cell_of hcr 4 _ rfl
        have c5 := cell_of hcr 5 _ rfl
        have cl := lt_of_block hcr
        have f0 := cell_of hfr 0 _ rfl
        have f1 := cell_of hfr 1 _ rfl
        have f2 := cell_of hfr 2 _ rfl
        have f3 := cell_of hfr 3 _ rfl
        have f4 := cell_of hfr 4 _ rfl
        have f5 := cell_of hfr 5 _ rfl
        have fl := lt_of_block hfr
        obtain ⟨Q, hQ⟩ : ∃ Q, Q = (wr.alloc (.cells #[.int .i64 q.1, .int .i64 q.2.1, .int .i64 (cv q), .slice la ln lc, .int .i64 (ch q), .bool (cr q)] 29)).alloc (.cells #[.int .i64 q.1, .int .i64 q.2.1, .int .i64 (cv q), .slice fa fn fc, .int .i64 (ch q), .bool (cr q)] 29) := ⟨_, rfl⟩
        have hbQ : Below wr.heap.size wr Q := by rw [hQ]; exact bel_on (bel_new _ _) (bel_new _ _)
        have hQ1 : Q.heap[wr.heap.size]? = some (.cells [.int .i64 q.1, .int .i64 q.2.1, .int .i64 (cv q), .slice la ln lc, .int .i64 (ch q), .bool (cr q)].toArray 29 (0, 0)) := by
          rw [hQ, Below.heap_alloc _ _ _ (by simp)]; exact six_heap _ _ _ _ _ _ _ _
        have hQ2 : Q.heap[wr.heap.size + 1]? = some (.cells [.int .i64 q.1, .int .i64 q.2.1, .int .i64 (cv q), .slice fa fn fc, .int .i64 (ch q), .bool (cr q)].toArray 29 (0, 0)) := by
          rw [hQ]
          have := six_heap (wr.alloc (.cells #[.int .i64 q.1, .int .i64 q.2.1, .int .i64 (cv q), .slice la ln lc, .int .i64 (ch q), .bool (cr q)] 29)) (.int .i64 q.1) (.int .i64 q.2.1) (.int .i64 (cv q)) (.slice fa fn fc) (.int .i64 (ch q)) (.bool (cr q)) 29
          rw [show (wr.alloc (.cells #[.int .i64 q.1, .int .i64 q.2.1, .int .i64 (cv q), .slice la ln lc, .int .i64 (ch q), .bool (cr q)] 29)).heap.size = wr.heap.size + 1 by simp] at this
          exact this
        have SS := hide (rsameCoins_is (some ⟨wr.heap.size, 0, none⟩) (some ⟨wr.heap.size + 1, 0, none⟩) 1 1 1 1 [q] [q] true Q (by unfold maxLen; omega) (coins_one q hQ1 ((unhide HO).later (bel_on (unhide HY7) (bel_on (unhide HB) hbQ))) (unhide HSO)) (coins_one q hQ2 ((unhide HFO).1.later (bel_on (unhide HB) hbQ)) (unhide HFO).2) (sameL_yes rfl))
        have HBQ := hide (bel_on (unhide HBX) (bel_on (unhide HXY) (bel_on (unhide HY7) (bel_on (unhide HB) hbQ))))
        clear hbQ hQ1 hQ2 hcr hfr hle A1 A2 A3 G1 G2 HQ HX
        go_wp2_with fail
        rw [← hQ]
        clear hQ
        go_wp2_with fail
        refine (unhide SS).mono ?_
        rintro e' w9 ⟨rfl, hb9⟩
        have HB9 := hide (bel_on (unhide HBQ) hb9)
        clear hb9
        go_wp2
        go_ret
        exact ⟨rfl, unhide HB9⟩
  · have hqb := fdD_bad (p := (p1, p2)) (by rw [unhide HX]; exact hx0)
    rw [unhide HX, unhide HQ] at hqb
    injection hqb with he hqq
    have g1 := unhide HS1
    have g2 := unhide HS2
    rw [if_neg hx0] at g1 g2
    subst he hqq g1 g2
    have gx : (e != 0) = true := by simp [hx0]
    have c0 := cell_of hc7 0 _ rfl
    have c1 := cell_of hc7 1 _ rfl
    have c2 := cell_of hc7 2 _ rfl
    have c3 := cell_of hc7 3 _ rfl
    have c4 := cell_of hc7 4 _ rfl
    have c5 := cell_of hc7 5 _ rfl
    have cl := lt_of_block hc7
    obtain ⟨Q, hQ⟩ : ∃ Q, Q = (w7.alloc (.cells #[.int .i64 zeroD.1, .int .i64 zeroD.2.1, .int .i64 (cv zeroD), .slice la ln lc, .int .i64 (ch zeroD), .bool (cr zeroD)] 29)).alloc (.cells #[.int .i64 0, .int .i64 0, .int .i64 0, .slice none 0 0, .int .i64 0, .bool false] 29) := ⟨_, rfl⟩
    have hbQ : Below w7.heap.size w7 Q := by rw [hQ]; exact bel_on (bel_new _ _) (bel_new _ _)
    have hQ1 : Q.heap[w7.heap.size]? = some (.cells [.int .i64 zeroD.1, .int .i64 zeroD.2.1, .int .i64 (cv zeroD), .slice la ln lc, .int .i64 (ch zeroD), .bool (cr zeroD)].toArray 29 (0, 0)) := by
      rw [hQ, Below.heap_alloc _ _ _ (by simp)]; exact six_heap _ _ _ _ _ _ _ _
    have hQ2 : Q.heap[w7.heap.size + 1]? = some (.cells [.int .i64 zeroD.1, .int .i64 zeroD.2.1, .int .i64 (cv zeroD), .slice none 0 0, .int .i64 (ch zeroD), .bool (cr zeroD)].toArray 29 (0, 0)) := by
      rw [hQ]
      have := six_heap (w7.alloc (.cells #[.int .i64 zeroD.1, .int .i64 zeroD.2.1, .int .i64 (cv zeroD), .slice la ln lc, .int .i64 (ch zeroD), .bool (cr zeroD)] 29)) (.int .i64 0) (.int .i64 0) (.int .i64 0) (.slice none 0 0) (.int .i64 0) (.bool false) 29
      rw [show (w7.alloc (.cells #[.int .i64 zeroD.1, .int .i64 zeroD.2.1, .int .i64 (cv zeroD), .slice la ln lc, .int .i64 (ch zeroD), .bool (cr zeroD)] 29)).heap.size = w7.heap.size + 1 by simp] at this
      exact this
    have SS := hide (rsameCoins_is (some ⟨w7.heap.size, 0, none⟩) (some ⟨w7.heap.size + 1, 0, none⟩) 1 1 1 1 [zeroD] [zeroD] true Q (by unfold maxLen; omega) (coins_one zeroD hQ1 ((unhide HO).later (bel_on (unhide HY7) hbQ)) (unhide HSO)) (coins_one zeroD hQ2 ⟨rfl, fun h => absurd h (by omega)⟩ slok_nil) (sameL_yes rfl))
    have HBQ := hide (bel_on (unhide HBX) (bel_on (unhide HXY) (bel_on (unhide HY7) hbQ)))
    clear hbQ hQ1 hQ2 hc7 HS1 HS2 HQ HX hx0
    go_wp2_with fail
    rw [← hQ]
    clear hQ
    go_wp2_with fail
    refine (unhide SS).mono ?_
    rintro e' w9 ⟨rfl, hb9⟩
    have HB9 := hide (bel_on (unhide HBQ) hb9)
    clear hb9
    go_wp2
    go_ret
    exact ⟨rfl, unhide HB9⟩

end Go.Proofs.Ytklpajhgfdpboaa
