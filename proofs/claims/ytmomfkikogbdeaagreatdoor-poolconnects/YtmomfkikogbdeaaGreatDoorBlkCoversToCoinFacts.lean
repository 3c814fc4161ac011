/- The contract of coversReward. -/
import Derived.Test.YtmomfkikogbdeaaGreatDoorBlkNamesToBlkReward
import Derived.Test.YtmomfkikogbdeaaGreatDoorTxPrintBToBlkPrint
import Derived.Test.YtmomfkikogbdeaaGreatDoorCoinCopyToCoinCovers
import Derived.Test.YtmomfkikogbdeaaGreatDoorBlkHeadToCoinDo
namespace Go.Proofs.YtmomfkikogbdeaaGreatDoor
open Go.RowKit

/-- Rows of undoings in memory. -/
def UndoAt (w : World) (b o : Nat) (s : List CoinD) : Prop := ∃ a n c, w.cell? ⟨b, o, none⟩ = some (.slice a n c) ∧ CoinsAt w a n s ∧ SlOk a n c
theorem UndoAt.kept {w w' : World} {b o : Nat} {s : List CoinD} (hb : Below w.heap.size w w') (h : UndoAt w b o s) : UndoAt w' b o s := by
  obtain ⟨a, n, c, h1, h2, h3⟩ := h
  exact ⟨a, n, c, cell_later hb h1, h2.later hb, h3⟩

/-- What is left behind the first k. -/
def leftD (r : Int) (T : List TxD) (S : List (List CoinD)) (k : Nat) : Int := r + sumC (S.take k).flatten - sumO ((T.take k).map (·.2.2)).flatten
theorem sumO_append (L M : List OutD) : sumO (L ++ M) = sumO L + sumO M := by simp [sumO]
theorem leftD_zero (r : Int) (T : List TxD) (S : List (List CoinD)) : leftD r T S 0 = r := by simp [leftD, sumC, sumO]
theorem leftD_succ (r : Int) (T : List TxD) (S : List (List CoinD)) (k : Nat) (hT : k < T.length) (hS : k < S.length) : leftD r T S (k + 1) = leftD r T S k + sumC S[k] - sumO T[k].2.2 := by
  unfold leftD
  rw [List.take_succ_eq_append_getElem hT, List.take_succ_eq_append_getElem hS, List.map_append, List.flatten_append, List.flatten_append, sumC_append, sumO_append]
  simp
  omega
set_option maxRecDepth 10000 in
set_option maxHeartbeats 12800000 in
theorem coversR_is (p h k n : Int) (b off m c : Nat) (T : List TxD) (ub uo um uc : Nat) (S : List (List CoinD)) (r : Int) (o : Bool) (w : World) (hz : T.length = m) (hm : m ≤ 4) (hcT : ∀ i (h : i < T.length), TxAt w b (off + i * 3) T[i]) (hzS : S.length = m) (hum : um = m)
    (hcS : ∀ i (h : i < S.length), UndoAt w ub (uo + i) S[i]) (hT : ∀ t ∈ T, t.2.2.length ≤ 6 ∧ ∀ x ∈ t.2.2, 0 ≤ x.1 ∧ x.1 ≤ 1000000000) (hS : ∀ s ∈ S, s.length ≤ 6 ∧ ∀ x ∈ s, 0 ≤ cv x ∧ cv x ≤ 1000000000) (hr : rwD h = (r, 0)) (ho : decide (0 ≤ leftD r T S m) = o) :
    Calls Tryz.prog 75 #[.agg #[.int .i64 p, .int .i64 h, .int .i64 k, .int .i64 n, .slice (some ⟨b, off, none⟩) m c], .slice (some ⟨ub, uo, none⟩) um uc] w fun e w' => e = .returned (.bool o) ∧ Below w.heap.size w w' := by
  subst hum
  have hr64 : 0 ≤ r ∧ r ≤ 64 := by
    unfold rwD at hr
    split at hr
    · injection hr with e _
      have := rwN_le ((h - 1).toNat / 8)
      omega
    · injection hr with _ e; cases e
  obtain ⟨X, hX⟩ : ∃ X, X = w.alloc (.cells #[.int .i64 p, .int .i64 h, .int .i64 k, .int .i64 n, .slice (some ⟨b, off, none⟩) um c] 39) := ⟨_, rfl⟩
  have hbX : Below w.heap.size w X := by rw [hX]; exact bel_new _ _
  have hX1 : X.heap[w.heap.size]? = some (.cells [.int .i64 p, .int .i64 h, .int .i64 k, .int .i64 n, .slice (some ⟨b, off, none⟩) um c].toArray 39 (0, 0)) := by rw [hX]; exact five_heap _ _ _ _ _ _ _
  have RW := hide (fun W => reward_is h r 0 W hr)
  have HX1 := hide hX1
  have HBX := hide hbX
  have HCT : Hid (∀ i (h : i < T.length), TxAt X b (off + i * 3) T[i]) := fun i hi => TxAt.kept _ _ _ _ _ hbX (hcT i hi)
  have HCS : Hid (∀ i (h : i < S.length), UndoAt X ub (uo + i) S[i]) := fun i hi => (hcS i hi).kept hbX
  have HT := hide hT
  have HS := hide hS
  have HZ := hide hz
  have HZS := hide hzS
  have HO := hide ho
  clear hX1 hbX hcT hcS hT hS hz hzS ho hr
  go_enter Tryz.func75, Tryz.ntmps75
  go_wp2_with fail
  rw [← hX]
  clear hX
  refine ((unhide RW) _).mono ?_
  rintro e w1 ⟨rfl, hb1⟩
  have hx1 := (hb1.block _ (lt_of_block (unhide HX1))).trans (unhide HX1)
  have c4 := cell_of hx1 4 _ rfl
  have cl := lt_of_block hx1
  have HB1 := hide hb1
  clear hb1 hx1
  go_wp2
  go_loopw [5, 22] (fun sv i wr => ∃ (j : Nat) (d : Int), j ≤ um ∧ sv = .int .i64 d ∧ i = .int .i64 j ∧ Hid (d = leftD r T S j) ∧ -(6000000000 * (j : Int)) ≤ d ∧ d ≤ 64 + 6000000000 * (j : Int) ∧ Hid (Below X.heap.size X wr)) (fun _ i _ => um - (intOf i).toNat)
  case atStart => exact ⟨0, r, Nat.zero_le _, rfl, rfl, (leftD_zero r T S).symm, by omega, by omega, HB1⟩
  case round =>
    obtain ⟨j, d, hj, rfl, rfl, A, d1, d2, HBr⟩ := hrel
    clear c4 cl HB1
    by_cases hlt : j < um
    · have hlT : j < T.length := by rw [unhide HZ]; exact hlt
      have hlS : j < S.length := by rw [unhide HZS]; exact hlt
      have hin := TxAt.kept _ _ _ _ _ (unhide HBr) ((unhide HCT) j hlT)
      have hun := ((unhide HCS) j hlS).kept (unhide HBr)
      have bT := (unhide HT) T[j] (List.getElem_mem _)
      have bS := (unhide HS) S[j] (List.getElem_mem _)
      have ST := hide (leftD_succ r T S j hlT hlS)
      obtain ⟨t, ht⟩ : ∃ t, T[j] = t := ⟨_, rfl⟩
      obtain ⟨s, hs⟩ : ∃ s, S[j] = s := ⟨_, rfl⟩
      rw [ht] at hin bT ST
      rw [hs] at hun bS ST
      obtain ⟨t1, I, O⟩ := t
      obtain ⟨g0, ⟨ai, ni, ci, g1, hI, _⟩, ao, no, co, g2, hO, _⟩ := hin
      obtain ⟨sa, sn, sc, gs, hC, _⟩ := hun
      simp only at g0 g1 g2 hI hO bT ST
      obtain ⟨Y, hY⟩ : ∃ Y, Y = wr.alloc (.cells #[.int .i64 t1, .slice ai ni ci, .slice ao no co] 59) := ⟨_, rfl⟩
      have hbY : Below wr.heap.size wr Y := by rw [hY]; exact bel_new _ _
      have hY1 : Y.heap[wr.heap.size]? = some (.cells [.int .i64 t1, .slice ai ni ci, .slice ao no co].toArray 59 (0, 0)) := by rw [hY]; exact three_heap _ _ _ _ _
      have HY1 := hide hY1
      have HBY := hide (bel_on (unhide HBr) hbY)
      have HCY := hide (hC.later hbY)
      have HOY := hide (hO.later hbY)
      have gsY := cell_later hbY gs
      have gl := World.block_lt_of_cell? _ _ gs
      have glY := World.block_lt_of_cell? _ _ gsY
      have HSB := hide (fun k => sumC_bd s k bS.2)
      have HOB := hide (fun k => sumO_bd O k bT.2)
      have hsn : sn ≤ 6 := by rw [← hC.1]; exact bS.1
      have hno : no ≤ 6 := by rw [← hO.1]; exact bT.1
      have hjI : (j : Int) < (um : Int) := by omega
      clear hbY hY1 hI hO hC ht hs bT bS
      go_wp2_with fail
      rw [← hY]
      clear hY
      go_wp2
      go_loopw [5, 33] (fun sv i w2 => ∃ (k2 : Nat) (d2 : Int), k2 ≤ sn ∧ sv = .int .i64 d2 ∧ i = .int .i64 k2 ∧ Hid (d2 = d + sumC (s.take k2)) ∧ Hid (Below Y.heap.size Y w2)) (fun _ i _ => sn - (intOf i).toNat)
      case atStart => exact ⟨0, d, Nat.zero_le _, rfl, rfl, (by simp [sumC] : d = d + sumC (s.take 0)), (Below.refl _ _ : Below Y.heap.size Y Y)⟩
      case round =>
        obtain ⟨q, e, hq, rfl, rfl, D, HD⟩ := hrel
        clear g0 g1 g2 gs gsY gl glY
        by_cases hlt2 : q < sn
        · have hlk : q < s.length := by rw [(unhide HCY).1]; exact hlt2
          obtain ⟨b2, o2, rfl, _, hcell⟩ := (unhide HCY).2 (by omega)
          have hin := CoinAt.kept _ _ _ _ _ (unhide HD) (hcell q hlk)
          have b1 := (unhide HSB) q
          have b2' := (unhide HSB) (q + 1)
          have hst := sumC_take s q hlk
          obtain ⟨y, hy⟩ : ∃ y, s[q] = y := ⟨_, rfl⟩
          rw [hy] at hin hst
          obtain ⟨la, ln, lc, f0, f1, f2, f3, f4, f5, _, _⟩ := hin.val
          obtain ⟨v, hv⟩ : ∃ v, cv y = v := ⟨_, rfl⟩
          rw [hv] at f2 hst
          have hd : e = d + sumC (s.take q) := unhide D
          have A2 : Hid (e + v = d + sumC (s.take (q + 1))) := by show _ = _; rw [hst]; omega
          have HB2 := hide (bel_on (unhide HD) (bel_new wr (.cells #[.int .i64 y.1, .int .i64 y.2.1, .int .i64 v, .slice la ln lc, .int .i64 (ch y), .bool (cr y)] 124)))
          have hw1 : IntKind.i64.wrap (e + v) = e + v := by rw [IntKind.wrap_i64]; omega
          clear hin hy hst D HD hd b1 b2' hcell
          go_wp2
          go_roundw
          case rel => exact ⟨q + 1, e + v, by omega, rfl, by go_num, A2, HB2⟩
          case measure => simp [intOf]; omega
        · have e0 : q = sn := by omega
          subst e0
          have A2 : Hid (e = d + sumC s) := by
            show _ = _
            rw [unhide D, List.take_of_length_le (by rw [(unhide HCY).1]; exact Nat.le_refl _)]
          have b1 := (unhide HSB) q
          have eb : 0 ≤ e - d ∧ e - d ≤ 6000000000 := by
            have := unhide D
            omega
          have hh := ((unhide HD).block _ (lt_of_block (unhide HY1))).trans (unhide HY1)
          have f2 := cell_of hh 2 _ rfl
          have hl := lt_of_block hh
          clear D hh b1
          go_wp2
          go_loopw [5, 46] (fun sv i w3 => ∃ (k3 : Nat) (d3 : Int), k3 ≤ no ∧ sv = .int .i64 d3 ∧ i = .int .i64 k3 ∧ Hid (d3 = e - sumO (O.take k3)) ∧ Hid (Below Y.heap.size Y w3)) (fun _ i _ => no - (intOf i).toNat)
          case atStart => exact ⟨0, e, Nat.zero_le _, rfl, rfl, (by simp [sumO] : e = e - sumO (O.take 0)), HD⟩
          case round =>
            obtain ⟨u, g, hu, rfl, rfl, G, HG⟩ := hrel
            clear f2 hl HD
            by_cases hlt3 : u < no
            · have hlk : u < O.length := by rw [(unhide HOY).1]; exact hlt3
              obtain ⟨b3, o3, rfl, _, hcell⟩ := (unhide HOY).2 (by omega)
              have hin := OutAt.kept _ _ _ _ _ (unhide HG) (hcell u hlk)
              have x1 := (unhide HOB) u
              have x2 := (unhide HOB) (u + 1)
              have hst := sumO_take O u hlk
              obtain ⟨y, hy⟩ : ∃ y, O[u] = y := ⟨_, rfl⟩
              rw [hy] at hin hst
              obtain ⟨q1, q2⟩ := y
              obtain ⟨f0, la, ln, lc, f1, _, _⟩ := hin
              simp only at f0 f1 hst
              have hd : g = e - sumO (O.take u) := unhide G
              have A3 : Hid (g - q1 = e - sumO (O.take (u + 1))) := by show _ = _; rw [hst]; omega
              have HB2 := hide (bel_on (unhide HG) (bel_new wr (.cells #[.int .i64 q1, .slice la ln lc] 122)))
              have hw1 : IntKind.i64.wrap (g - q1) = g - q1 := by rw [IntKind.wrap_i64]; omega
              clear hy hst G HG hd x1 x2 hcell
              go_wp2
              go_roundw
              case rel => exact ⟨u + 1, g - q1, by omega, rfl, by go_num, A3, HB2⟩
              case measure => simp [intOf]; omega
            · have e1 : u = no := by omega
              subst e1
              have hd : g = e - sumO O := by
                have := unhide G
                rw [List.take_of_length_le (by rw [(unhide HOY).1]; exact Nat.le_refl _)] at this
                exact this
              have x1 := (unhide HOB) u
              rw [List.take_of_length_le (by rw [(unhide HOY).1]; exact Nat.le_refl _)] at x1
              have A4 : Hid (g = leftD r T S (j + 1)) := by
                show _ = _
                rw [unhide ST, ← unhide A, hd, unhide A2]
              have HBF := hide (bel_on (unhide HBY) (unhide HG))
              have y1 : -(6000000000 * ((j + 1 : Nat) : Int)) ≤ g := by omega
              have y2 : g ≤ 64 + 6000000000 * ((j + 1 : Nat) : Int) := by omega
              clear hd x1 G HG A A2 ST
              go_wp2
              go_roundw
              case rel => exact ⟨j + 1, g, by omega, rfl, by go_num, A4, y1, y2, HBF⟩
              case measure => simp [intOf]; omega
    · have e0 : j = um := by omega
      subst e0
      have HBF := hide (bel_on (unhide HBX) (unhide HBr))
      have ho := unhide HO
      rw [← unhide A] at ho
      clear A
      by_cases hp : 0 ≤ d
      · obtain rfl : true = o := by rw [← ho, decide_eq_true hp]
        clear ho
        go_wp2
        go_ret
        exact ⟨rfl, unhide HBF⟩
      · obtain rfl : false = o := by rw [← ho, decide_eq_false hp]
        clear ho
        go_wp2
        go_ret
        exact ⟨rfl, unhide HBF⟩

end Go.Proofs.YtmomfkikogbdeaaGreatDoor

/- Contracts of what is checked ahead of doing a transaction. -/
namespace Go.Proofs.YtmomfkikogbdeaaGreatDoor
open Go.RowKit

set_option maxRecDepth 10000 in
set_option maxHeartbeats 1600000 in
theorem checkBoth_is (a : Option Addr) (n c : Nat) (L : List CoinD) (h : Int) (ai ao : Option Addr) (ni ci no co : Nat) (I : List InD) (O : List OutD) (x : Int) (w : World) (hL : CoinsAt w a n L) (hI : InsAt w ai ni I) (hO : OutsAt w ao no O) (sI : SlOk ai ni ci) (hx : ckBoth L (h, I, O) = x) :
    Calls Tryz.prog 202 #[.slice a n c, .agg #[.int .i64 h, .slice ai ni ci, .slice ao no co]] w fun e w' => e = .returned (.int .i64 x) ∧ Below w.heap.size w w' := by
  obtain ⟨X0, hX0⟩ : ∃ X0, X0 = w.alloc (.cells #[.int .i64 h, .slice ai ni ci, .slice ao no co] 59) := ⟨_, rfl⟩
  have hb0 : Below w.heap.size w X0 := by rw [hX0]; exact bel_new _ _
  have hX1 : X0.heap[w.heap.size]? = some (.cells [.int .i64 h, .slice ai ni ci, .slice ao no co].toArray 59 (0, 0)) := by rw [hX0]; exact three_heap _ _ _ _ _
  obtain ⟨y, hy⟩ : ∃ y, ckCoins L = y := ⟨_, rfl⟩
  have C1 := hide (uCheck_any a n c L y X0 (hL.later hb0) hy)
  have TX := hide (fun w' (hb : Below X0.heap.size X0 w') => txCheck_any h ai ao ni ci no co I O w' ((hI.later hb0).later hb) ((hO.later hb0).later hb) sI)
  have HX1 := hide hX1
  have HB0 := hide hb0
  unfold ckBoth at hx
  rw [hy] at hx
  clear hL hI hO sI hX1 hb0 hy
  by_cases h0 : y = 0
  · subst h0
    rw [if_neg (by decide)] at hx
    rw [hx] at TX
    clear hx
    go_enter Tryz.func202, Tryz.ntmps202
    go_wp2_with fail
    rw [← hX0]
    clear hX0
    refine (unhide C1).mono ?_
    rintro e w2 ⟨rfl, hb2⟩
    have hh := (hb2.block _ (lt_of_block (unhide HX1))).trans (unhide HX1)
    have c0 := cell_of hh 0 _ rfl
    have c1 := cell_of hh 1 _ rfl
    have c2 := cell_of hh 2 _ rfl
    have hl := lt_of_block hh
    have C2 := hide ((unhide TX) w2 hb2)
    have HB2 := hide (bel_on (unhide HB0) hb2)
    clear hh hb2
    go_wp2_with fail
    refine (unhide C2).mono ?_
    rintro e w3 ⟨rfl, hb3⟩
    have HB3 := hide (bel_on (unhide HB2) hb3)
    clear hb3
    go_wp2
    go_ret
    exact ⟨rfl, unhide HB3⟩
  · rw [if_pos h0] at hx
    subst hx
    have g : (y != 0) = true := by simp [h0]
    clear h0
    go_enter Tryz.func202, Tryz.ntmps202
    go_wp2_with fail
    rw [← hX0]
    clear hX0
    refine (unhide C1).mono ?_
    rintro e w2 ⟨rfl, hb2⟩
    have HB2 := hide (bel_on (unhide HB0) hb2)
    clear hb2
    go_wp2
    go_ret
    exact ⟨rfl, unhide HB2⟩

set_option maxRecDepth 10000 in
set_option maxHeartbeats 3200000 in
theorem checkApply_is (a : Option Addr) (n c : Nat) (L : List CoinD) (h : Int) (ai ao : Option Addr) (ni ci no co : Nat) (I : List InD) (O : List OutD) (name ht : Int) (x : Int) (w : World) (hL : CoinsAt w a n L) (hI : InsAt w ai ni I) (hO : OutsAt w ao no O) (sI : SlOk ai ni ci) (hx : ckApply L (h, I, O) name ht = x) :
    Calls Tryz.prog 144 #[.slice a n c, .agg #[.int .i64 h, .slice ai ni ci, .slice ao no co], .int .i64 name, .int .i64 ht] w fun e w' => e = .returned (.int .i64 x) ∧ Below w.heap.size w w' := by
  obtain ⟨X0, hX0⟩ : ∃ X0, X0 = w.alloc (.cells #[.int .i64 h, .slice ai ni ci, .slice ao no co] 59) := ⟨_, rfl⟩
  have hb0 : Below w.heap.size w X0 := by rw [hX0]; exact bel_new _ _
  have hX1 : X0.heap[w.heap.size]? = some (.cells [.int .i64 h, .slice ai ni ci, .slice ao no co].toArray 59 (0, 0)) := by rw [hX0]; exact three_heap _ _ _ _ _
  obtain ⟨y, hy⟩ : ∃ y, ckBoth L (h, I, O) = y := ⟨_, rfl⟩
  have C1 := hide (checkBoth_is a n c L h ai ao ni ci no co I O y X0 (hL.later hb0) (hI.later hb0) (hO.later hb0) sI hy)
  have hIl := hI.1
  have x0 := cell_of hX1 0 _ rfl
  have x1 := cell_of hX1 1 _ rfl
  have x2 := cell_of hX1 2 _ rfl
  have HX1 := hide hX1
  have HB0 := hide hb0
  unfold ckApply at hx
  rw [hy] at hx
  have hR : isR (h, I, O) = decide (ni = 0) := by unfold isR; rw [← hIl]
  rw [hR] at hx
  clear hL hI hO sI hX1 hb0 hy hR hIl
  by_cases h0 : y = 0
  · subst h0
    rw [if_neg (by decide)] at hx
    cases hN : okN name with
    | false =>
      rw [hN, Bool.false_and, if_pos rfl] at hx
      subst hx
      have W1 := hide (fun w => within_is name 1 120 false w (by rw [← hN]; rfl))
      clear hN
      go_enter Tryz.func144, Tryz.ntmps144
      go_wp2_with fail
      rw [← hX0]
      clear hX0
      refine (unhide C1).mono ?_
      rintro e w2 ⟨rfl, hb2⟩
      have HB2 := hide (bel_on (unhide HB0) hb2)
      clear hb2
      go_wp2_with fail
      refine ((unhide W1) _).mono ?_
      rintro e w3 ⟨rfl, rfl⟩
      go_wp2
      go_ret
      exact ⟨rfl, unhide HB2⟩
    | true =>
      rw [hN, Bool.true_and] at hx
      have W1 := hide (fun w => within_is name 1 120 true w (by rw [← hN]; rfl))
      cases hH : okH ht with
      | false =>
        rw [hH, if_pos rfl] at hx
        subst hx
        have W2 := hide (fun w => uisHeight_is ht false w hH)
        clear hN hH
        go_enter Tryz.func144, Tryz.ntmps144
        go_wp2_with fail
        rw [← hX0]
        clear hX0
        refine (unhide C1).mono ?_
        rintro e w2 ⟨rfl, hb2⟩
        have HB2 := hide (bel_on (unhide HB0) hb2)
        clear hb2
        go_wp2_with fail
        refine ((unhide W1) _).mono ?_
        rintro e w3 ⟨rfl, rfl⟩
        go_wp2_with fail
        refine ((unhide W2) _).mono ?_
        rintro e w3 ⟨rfl, rfl⟩
        go_wp2
        go_ret
        exact ⟨rfl, unhide HB2⟩
      | true =>
        rw [hH, if_neg (by decide)] at hx
        have W2 := hide (fun w => uisHeight_is ht true w hH)
        clear hN hH
        have body : ∀ (r : Bool) (q : Bool) (hr : decide (ni = 0) = r) (hq : (h != ht) = q) (hz : (if r = true ∧ q = true then (4 : Int) else 0) = x), Calls Tryz.prog 144 #[.slice a n c, .agg #[.int .i64 h, .slice ai ni ci, .slice ao no co], .int .i64 name, .int .i64 ht] w fun e w' => e = .returned (.int .i64 x) ∧ Below w.heap.size w w' := by
          intro r q hr hq hz
          have IR := hide (fun w => isReward_is h ai ao ni ci no co r w hr)
          cases r with
          | false =>
            rw [if_neg (by simp)] at hz
            subst hz
            clear hx hr
            go_enter Tryz.func144, Tryz.ntmps144
            go_wp2_with fail
            rw [← hX0]
            clear hX0
            refine (unhide C1).mono ?_
            rintro e w2 ⟨rfl, hb2⟩
            have hh := (hb2.block _ (lt_of_block (unhide HX1))).trans (unhide HX1)
            have c0 := cell_of hh 0 _ rfl
            have c1 := cell_of hh 1 _ rfl
            have c2 := cell_of hh 2 _ rfl
            have hl := lt_of_block hh
            have HB2 := hide (bel_on (unhide HB0) hb2)
            clear hb2 hh
            go_wp2_with fail
            refine ((unhide W1) _).mono ?_
            rintro e w3 ⟨rfl, rfl⟩
            go_wp2_with fail
            refine ((unhide W2) _).mono ?_
            rintro e w3 ⟨rfl, rfl⟩
            go_wp2_with fail
            refine ((unhide IR) _).mono ?_
            rintro e w3 ⟨rfl, hb3⟩
            have HB3 := hide (bel_on (unhide HB2) hb3)
            clear hb3
            go_wp2
            go_ret
            exact ⟨rfl, unhide HB3⟩
          | true =>
            cases q with
            | false =>
              rw [if_neg (by simp)] at hz
              subst hz
              clear hx hr
              go_enter Tryz.func144, Tryz.ntmps144
              go_wp2_with fail
              rw [← hX0]
              clear hX0
              refine (unhide C1).mono ?_
              rintro e w2 ⟨rfl, hb2⟩
              have hh := (hb2.block _ (lt_of_block (unhide HX1))).trans (unhide HX1)
              have c0 := cell_of hh 0 _ rfl
              have c1 := cell_of hh 1 _ rfl
              have c2 := cell_of hh 2 _ rfl
              have hl := lt_of_block hh
              have HH := hide hh
              have HB2 := hide (bel_on (unhide HB0) hb2)
              clear hb2 hh
              go_wp2_with fail
              refine ((unhide W1) _).mono ?_
              rintro e w3 ⟨rfl, rfl⟩
              go_wp2_with fail
              refine ((unhide W2) _).mono ?_
              rintro e w3 ⟨rfl, rfl⟩
              go_wp2_with fail
              refine ((unhide IR) _).mono ?_
              rintro e w4 ⟨rfl, hb4⟩
              have d0 := cell_later hb4 c0
              have hl4 := World.block_lt_of_cell? _ _ d0
              have HB4 := hide (bel_on (unhide HB2) hb4)
              clear hb4 c0 c1 c2
              go_wp2
              go_ret
              exact ⟨rfl, unhide HB4⟩
            | true =>
              rw [if_pos ⟨rfl, rfl⟩] at hz
              subst hz
              clear hx hr
              go_enter Tryz.func144, Tryz.ntmps144
              go_wp2_with fail
              rw [← hX0]
              clear hX0
              refine (unhide C1).mono ?_
              rintro e w2 ⟨rfl, hb2⟩
              have hh := (hb2.block _ (lt_of_block (unhide HX1))).trans (unhide HX1)
              have c0 := cell_of hh 0 _ rfl
              have c1 := cell_of hh 1 _ rfl
              have c2 := cell_of hh 2 _ rfl
              have hl := lt_of_block hh
              have HH := hide hh
              have HB2 := hide (bel_on (unhide HB0) hb2)
              clear hb2 hh
              go_wp2_with fail
              refine ((unhide W1) _).mono ?_
              rintro e w3 ⟨rfl, rfl⟩
              go_wp2_with fail
              refine ((unhide W2) _).mono ?_
              rintro e w3 ⟨rfl, rfl⟩
              go_wp2_with fail
              refine ((unhide IR) _).mono ?_
              rintro e w4 ⟨rfl, hb4⟩
              have d0 := cell_later hb4 c0
              have hl4 := World.block_lt_of_cell? _ _ d0
              have HB4 := hide (bel_on (unhide HB2) hb4)
              clear hb4 c0 c1 c2
              go_wp2
              go_ret
              exact ⟨rfl, unhide HB4⟩
        refine body (decide (ni = 0)) (h != ht) rfl rfl ?_
        rw [← hx]
        by_cases e1 : ni = 0 <;> by_cases e2 : h = ht <;> simp [e1, e2]
  · rw [if_pos h0] at hx
    subst hx
    have g : (y != 0) = true := by simp [h0]
    clear h0
    go_enter Tryz.func144, Tryz.ntmps144
    go_wp2_with fail
    rw [← hX0]
    clear hX0
    refine (unhide C1).mono ?_
    rintro e w2 ⟨rfl, hb2⟩
    have HB2 := hide (bel_on (unhide HB0) hb2)
    clear hb2
    go_wp2
    go_ret
    exact ⟨rfl, unhide HB2⟩

end Go.Proofs.YtmomfkikogbdeaaGreatDoor

/- What right transactions and coins have. Nothing of the program. -/
namespace Go.Proofs.YtmomfkikogbdeaaGreatDoor

theorem sm_zero : ∀ (l : List Int) (s : Int), (sm s l).2 = 0 → ∀ x ∈ l, 0 ≤ x ∧ x ≤ 1000000000
  | [], _, _ => by simp
  | y :: r, s, h => by
    intro x hx
    unfold sm at h
    split at h
    · rename_i hy
      split at h
      · rcases List.mem_cons.1 hx with rfl | hx
        · exact hy
        · exact sm_zero r _ h x hx
      · cases h
    · cases h
theorem chkTx_zero {t : TxD} (h : chkTx t = 0) : t.2.1.length ≤ 6 ∧ t.2.2.length ≤ 6 ∧ 0 < t.2.2.length ∧ hFit t = true ∧ chkIns [] t.2.1 = 0 ∧ chkOuts t.2.2 = 0 ∧ (sm 0 (t.2.2.map (·.1))).2 = 0 := by
  unfold chkTx at h
  split at h
  · cases h
  rename_i h1
  split at h
  · cases h
  rename_i h2
  split at h
  · cases h
  rename_i h3
  split at h
  · rename_i h4; exact absurd h h4
  rename_i h4
  unfold chkOutsAll at h
  split at h
  · rename_i h5
    exact ⟨by omega, by omega, by omega, by simpa using h3, by simpa using h4, h5, h⟩
  · rename_i h5; exact absurd h h5
theorem outs_bd {t : TxD} (h : chkTx t = 0) : ∀ o ∈ t.2.2, 0 ≤ o.1 ∧ o.1 ≤ 1000000000 := fun o ho =>
  sm_zero _ 0 (chkTx_zero h).2.2.2.2.2.2 o.1 (List.mem_map_of_mem ho)
theorem ckBoth_zero {L : List CoinD} {t : TxD} (h : ckBoth L t = 0) : RightC L ∧ chkTx t = 0 := by
  unfold ckBoth at h
  split at h
  · rename_i h1; exact absurd h h1
  · rename_i h1; exact ⟨(ckCoins_zero L).1 (by simpa using h1), h⟩
theorem ckApply_zero {L : List CoinD} {t : TxD} {name h : Int} (q : ckApply L t name h = 0) : RightC L ∧ chkTx t = 0 ∧ okN name = true ∧ okH h = true ∧ (t.2.1.length = 0 → t.1 = h) := by
  unfold ckApply at q
  split at q
  · rename_i h1; exact absurd q h1
  rename_i h1
  split at q
  · cases q
  rename_i h2
  split at q
  · cases q
  rename_i h3
  obtain ⟨r1, r2⟩ := ckBoth_zero (by simpa using h1)
  rw [Bool.not_eq_false, Bool.and_eq_true] at h2
  refine ⟨r1, r2, h2.1, h2.2, fun e => ?_⟩
  refine Decidable.byContradiction fun n => h3 ⟨by unfold isR; exact decide_eq_true e, n⟩
theorem apD_eq {L : List CoinD} {t : TxD} {name h x1 x2 x3 x4 x5 : Int} {S2 M2 M4 : List CoinD} (h1 : ckApply L t name h = x1) (h2 : spendGo h t.2.1 [] L = (x2, S2, M2)) (h3 : covD S2 t = x3) (h4 : giveGo name h (isR t) 0 t.2.2 M2 = (x4, M4)) (h5 : ckCoins M4 = x5) :
    apD L t name h = if x1 ≠ 0 then (x1, [], []) else if x2 ≠ 0 then (x2, [], []) else if x3 ≠ 0 then (x3, [], []) else if x4 ≠ 0 then (x4, [], []) else if x5 ≠ 0 then (x5, [], []) else (0, M4, S2) := by
  unfold apD
  simp only [h1, h2, h3, h4, h5]
theorem chk_len {l : List (Int × Int)} (h : chk l = 0) : l.length ≤ 16 := by
  unfold chk at h
  split at h
  · cases h
  · omega

end Go.Proofs.YtmomfkikogbdeaaGreatDoor
