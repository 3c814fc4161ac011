/- The contract of coversReward. -/
import Derived.Test.YtepmnpapdknocaaGreatDoorBlkReward
import Derived.Test.YtepmnpapdknocaaGreatDoorBlkPrint
import Derived.Test.YtepmnpapdknocaaGreatDoorCoinCovers
namespace Go.Proofs.YtepmnpapdknocaaGreatDoor
open Go.RowKit

/-- Rows of undoings in memory. -/
def UndoAt (w : World) (b o : Nat) (s : List CoinD) : Prop := ∃ a n c, w.cell? ⟨b, o, none⟩ = some (.slice a n c) ∧ CoinsAt w a n s ∧ SlOk a n c
theorem UndoAt.kept {w w' : World} {b o : Nat} {s : List CoinD} (hb : Below w.heap.size w w') (h : UndoAt w b o s) : UndoAt w' b o s := by
  obtain ⟨a, n, c, h1, h2, h3⟩ := h
  exact ⟨a, n, c, cell_later hb h1, h2.later hb, h3⟩

/-- What is left behind the first k. -/
def leftD (r : Int) (T : List TxD) (S : List (List CoinD)) (k : Nat) : Int := r + sumC (S.take k).flatten - sumO ((T.take k).map (·.2.2)).flatten
theorem sumO_append (L M : List OutD) : sumO (L ++ M) = sumO L + sumO M := by simp [sumO]
theorem leftD_zero (r : Int) (T : List TxD) (S : List (List CoinD)) : leftD r T S 0 = r := by simp [leftD, sumC, sumO]
theorem leftD_succ (r : Int) (T : List TxD) (S : List (List CoinD)) (k : Nat) (hT : k < T.length) (hS : k < S.length) : leftD r T S (k + 1) = leftD r T S k + sumC S[k] - sumO T[k].2.2 := by
  unfold leftD
  rw [List.take_succ_eq_append_getElem hT, List.take_succ_eq_append_getElem hS, List.map_append, List.flatten_append, List.flatten_append, sumC_append, sumO_append]
  simp
  omega
set_option maxRecDepth 10000 in
set_option maxHeartbeats 12800000 in
theorem coversR_is (p h k n : Int) (b off m c : Nat) (T : List TxD) (ub uo um uc : Nat) (S : List (List CoinD)) (r : Int) (o : Bool) (w : World) (hz : T.length = m) (hm : m ≤ 4) (hcT : ∀ i (h : i < T.length), TxAt w b (off + i * 3) T[i]) (hzS : S.length = m) (hum : um = m)
    (hcS : ∀ i (h : i < S.length), UndoAt w ub (uo + i) S[i]) (hT : ∀ t ∈ T, t.2.2.length ≤ 6 ∧ ∀ x ∈ t.2.2, 0 ≤ x.1 ∧ x.1 ≤ 1000000000) (hS : ∀ s ∈ S, s.length ≤ 6 ∧ ∀ x ∈ s, 0 ≤ cv x ∧ cv x ≤ 1000000000) (hr : rwD h = (r, 0)) (ho : decide (0 ≤ leftD r T S m) = o) :
    Calls Tryz.prog 29 #[.agg #[.int .i64 p, .int .i64 h, .int .i64 k, .int .i64 n, .slice (some ⟨b, off, none⟩) m c], .slice (some ⟨ub, uo, none⟩) um uc] w fun e w' => e = .returned (.bool o) ∧ Below w.heap.size w w' := by
  subst hum
  have hr64 : 0 ≤ r ∧ r ≤ 64 := by
    unfold rwD at hr
    split at hr
    · injection hr with e _
      have := rwN_le ((h - 1).toNat / 8)
      omega
    · injection hr with _ e; cases e
  obtain ⟨X, hX⟩ : ∃ X, X = w.alloc (.cells #[.int .i64 p, .int .i64 h, .int .i64 k, .int .i64 n, .slice (some ⟨b, off, none⟩) um c] 28) := ⟨_, rfl⟩
  have hbX : Below w.heap.size w X := by rw [hX]; exact bel_new _ _
  have hX1 : X.heap[w.heap.size]? = some (.cells [.int .i64 p, .int .i64 h, .int .i64 k, .int .i64 n, .slice (some ⟨b, off, none⟩) um c].toArray 28 (0, 0)) := by rw [hX]; exact five_heap _ _ _ _ _ _ _
  have RW := hide (fun W => reward_is h r 0 W hr)
  have HX1 := hide hX1
  have HBX := hide hbX
  have HCT : Hid (∀ i (h : i < T.length), TxAt X b (off + i * 3) T[i]) := fun i hi => TxAt.kept _ _ _ _ _ hbX (hcT i hi)
  have HCS : Hid (∀ i (h : i < S.length), UndoAt X ub (uo + i) S[i]) := fun i hi => (hcS i hi).kept hbX
  have HT := hide hT
  have HS := hide hS
  have HZ := hide hz
  have HZS := hide hzS
  have HO := hide ho
  clear hX1 hbX hcT hcS hT hS hz hzS ho hr
  go_enter Tryz.func29, Tryz.ntmps29
  go_wp2_with fail
  rw [← hX]
  clear hX
  refine ((unhide RW) _).mono ?_
  rintro e w1 ⟨rfl, hb1⟩
  have hx1 := (hb1.block _ (lt_of_block (unhide HX1))).trans (unhide HX1)
  have c4 := cell_of hx1 4 _ rfl
  have cl := lt_of_block hx1
  have HB1 := hide hb1
  clear hb1 hx1
  go_wp2
  go_loopw [5, 22] (fun sv i wr => ∃ (j : Nat) (d : Int), j ≤ um ∧ sv = .int .i64 d ∧ i = .int .i64 j ∧ Hid (d = leftD r T S j) ∧ -(6000000000 * (j : Int)) ≤ d ∧ d ≤ 64 + 6000000000 * (j : Int) ∧ Hid (Below X.heap.size X wr)) (fun _ i _ => um - (intOf i).toNat)
  case atStart => exact ⟨0, r, Nat.zero_le _, rfl, rfl, (leftD_zero r T S).symm, by omega, by omega, HB1⟩
  case round =>
    obtain ⟨j, d, hj, rfl, rfl, A, d1, d2, HBr⟩ := hrel
    clear c4 cl HB1
    by_cases hlt : j < um
    · have hlT : j < T.length := by rw [unhide HZ]; exact hlt
      have hlS : j < S.length := by rw [unhide HZS]; exact hlt
      have hin := TxAt.kept _ _ _ _ _ (unhide HBr) ((unhide HCT) j hlT)
      have hun := ((unhide HCS) j hlS).kept (unhide HBr)
      have bT := (unhide HT) T[j] (List.getElem_mem _)
      have bS := (unhide HS) S[j] (List.getElem_mem _)
      have ST := hide (leftD_succ r T S j hlT hlS)
      obtain ⟨t, ht⟩ : ∃ t, T[j] = t := ⟨_, rfl⟩
      obtain ⟨s, hs⟩ : ∃ s, S[j] = s := ⟨_, rfl⟩
      rw [ht] at hin bT ST
      rw [hs] at hun bS ST
      obtain ⟨t1, I, O⟩ := t
      obtain ⟨g0, ⟨ai, ni, ci, g1, hI, _⟩, ao, no, co, g2, hO, _⟩ := hin
      obtain ⟨sa, sn, sc, gs, hC, _⟩ := hun
      simp only at g0 g1 g2 hI hO bT ST
      obtain ⟨Y, hY⟩ : ∃ Y, Y = wr.alloc (.cells #[.int .i64 t1, .slice ai ni ci, .slice ao no co] 74) := ⟨_, rfl⟩
      have hbY : Below wr.heap.size wr Y := by rw [hY]; exact bel_new _ _
      have hY1 : Y.heap[wr.heap.size]? = some (.cells [.int .i64 t1, .slice ai ni ci, .slice ao no co].toArray 74 (0, 0)) := by rw [hY]; exact three_heap _ _ _ _ _
      have HY1 := hide hY1
      have HBY := hide (bel_on (unhide HBr) hbY)
      have HCY := hide (hC.later hbY)
      have HOY := hide (hO.later hbY)
      have gsY := cell_later hbY gs
      have gl := World.block_lt_of_cell? _ _ gs
      have glY := World.block_lt_of_cell? _ _ gsY
      have HSB := hide (fun k => sumC_bd s k bS.2)
      have HOB := hide (fun k => sumO_bd O k bT.2)
      have hsn : sn ≤ 6 := by rw [← hC.1]; exact bS.1
      have hno : no ≤ 6 := by rw [← hO.1]; exact bT.1
      have hjI : (j : Int) < (um : Int) := by omega
      clear hbY hY1 hI hO hC ht hs bT bS
      go_wp2_with fail
      rw [← hY]
      clear hY
      go_wp2
      go_loopw [5, 33] (fun sv i w2 => ∃ (k2 : Nat) (d2 : Int), k2 ≤ sn ∧ sv = .int .i64 d2 ∧ i = .int .i64 k2 ∧ Hid (d2 = d + sumC (s.take k2)) ∧ Hid (Below Y.heap.size Y w2)) (fun _ i _ => sn - (intOf i).toNat)
      case atStart => exact ⟨0, d, Nat.zero_le _, rfl, rfl, (by simp [sumC] : d = d + sumC (s.take 0)), (Below.refl _ _ : Below Y.heap.size Y Y)⟩
      case round =>
        obtain ⟨q, e, hq, rfl, rfl, D, HD⟩ := hrel
        clear g0 g1 g2 gs gsY gl glY
        by_cases hlt2 : q < sn
        · have hlk : q < s.length := by rw [(unhide HCY).1]; exact hlt2
          obtain ⟨b2, o2, rfl, _, hcell⟩ := (unhide HCY).2 (by omega)
          have hin := CoinAt.kept _ _ _ _ _ (unhide HD) (hcell q hlk)
          have b1 := (unhide HSB) q
          have b2' := (unhide HSB) (q + 1)
          have hst := sumC_take s q hlk
          obtain ⟨y, hy⟩ : ∃ y, s[q] = y := ⟨_, rfl⟩
          rw [hy] at hin hst
          obtain ⟨la, ln, lc, f0, f1, f2, f3, f4, f5, _, _⟩ := hin.val
          obtain ⟨v, hv⟩ : ∃ v, cv y = v := ⟨_, rfl⟩
          rw [hv] at f2 hst
          have hd : e = d + sumC (s.take q) := unhide D
          have A2 : Hid (e + v = d + sumC (s.take (q + 1))) := by show _ = _; rw [hst]; omega
          have HB2 := hide (bel_on (unhide HD) (bel_new wr (.cells #[.int .i64 y.1, .int .i64 y.2.1, .int .i64 v, .slice la ln lc, .int .i64 (ch y), .bool (cr y)] 88)))
          have hw1 : IntKind.i64.wrap (e + v) = e + v := by rw [IntKind.wrap_i64]; omega
          clear hin hy hst D HD hd b1 b2' hcell
          go_wp2
          go_roundw
          case rel => exact ⟨q + 1, e + v, by omega, rfl, by go_num, A2, HB2⟩
          case measure => simp [intOf]; omega
        · have e0 : q = sn := by omega
          subst e0
          have A2 : Hid (e = d + sumC s) := by
            show _ = _
            rw [unhide D, List.take_of_length_le (by rw [(unhide HCY).1]; exact Nat.le_refl _)]
          have b1 := (unhide HSB) q
          have eb : 0 ≤ e - d ∧ e - d ≤ 6000000000 := by
            have := unhide D
            omega
          have hh := ((unhide HD).block _ (lt_of_block (unhide HY1))).trans (unhide HY1)
          have f2 := cell_of hh 2 _ rfl
          have hl := lt_of_block hh
          clear D hh b1
          go_wp2
          go_loopw [5, 46] (fun sv i w3 => ∃ (k3 : Nat) (d3 : Int), k3 ≤ no ∧ sv = .int .i64 d3 ∧ i = .int .i64 k3 ∧ Hid (d3 = e - sumO (O.take k3)) ∧ Hid (Below Y.heap.size Y w3)) (fun _ i _ => no - (intOf i).toNat)
          case atStart => exact ⟨0, e, Nat.zero_le _, rfl, rfl, (by simp [sumO] : e = e - sumO (O.take 0)), HD⟩
          case round =>
            obtain ⟨u, g, hu, rfl, rfl, G, HG⟩ := hrel
            clear f2 hl HD
            by_cases hlt3 : u < no
            · have hlk : u < O.length := by rw [(unhide HOY).1]; exact hlt3
              obtain ⟨b3, o3, rfl, _, hcell⟩ := (unhide HOY).2 (by omega)
              have hin := OutAt.kept _ _ _ _ _ (unhide HG) (hcell u hlk)
              have x1 := (unhide HOB) u
              have x2 := (unhide HOB) (u + 1)
              have hst := sumO_take O u hlk
              obtain ⟨y, hy⟩ : ∃ y, O[u] = y := ⟨_, rfl⟩
              rw [hy] at hin hst
              obtain ⟨q1, q2⟩ := y
              obtain ⟨f0, la, ln, lc, f1, _, _⟩ := hin
              simp only at f0 f1 hst
              have hd : g = e - sumO (O.take u) := unhide G
              have A3 : Hid (g - q1 = e - sumO (O.take (u + 1))) := by show _ = _; rw [hst]; omega
              have HB2 := hide (bel_on (unhide HG) (bel_new wr (.cells #[.int .i64 q1, .slice la ln lc] 84)))
              have hw1 : IntKind.i64.wrap (g - q1) = g - q1 := by rw [IntKind.wrap_i64]; omega
              clear hy hst G HG hd x1 x2 hcell
              go_wp2
              go_roundw
              case rel => exact ⟨u + 1, g - q1, by omega, rfl, by go_num, A3, HB2⟩
              case measure => simp [intOf]; omega
            · have e1 : u = no := by omega
              subst e1
              have hd : g = e - sumO O := by
                have := unhide G
                rw [List.take_of_length_le (by rw [(unhide HOY).1]; exact Nat.le_refl _)] at this
                exact this
              have x1 := (unhide HOB) u
              rw [List.take_of_length_le (by rw [(unhide HOY).1]; exact Nat.le_refl _)] at x1
              have A4 : Hid (g = leftD r T S (j + 1)) := by
                show _ = _
                rw [unhide ST, ← unhide A, hd, unhide A2]
              have HBF := hide (bel_on (unhide HBY) (unhide HG))
              have y1 : -(6000000000 * ((j + 1 : Nat) : Int)) ≤ g := by omega
              have y2 : g ≤ 64 + 6000000000 * ((j + 1 : Nat) : Int) := by omega
              clear hd x1 G HG A A2 ST
              go_wp2
              go_roundw
              case rel => exact ⟨j + 1, g, by omega, rfl, by go_num, A4, y1, y2, HBF⟩
              case measure => simp [intOf]; omega
    · have e0 : j = um := by omega
      subst e0
      have HBF := hide (bel_on (unhide HBX) (unhide HBr))
      have ho := unhide HO
      rw [← unhide A] at ho
      clear A
      by_cases hp : 0 ≤ d
      · obtain rfl : true = o := by rw [← ho, decide_eq_true hp]
        clear ho
        go_wp2
        go_ret
        exact ⟨rfl, unhide HBF⟩
      · obtain rfl : false = o := by rw [← ho, decide_eq_false hp]
        clear ho
        go_wp2
        go_ret
        exact ⟨rfl, unhide HBF⟩

end Go.Proofs.YtepmnpapdknocaaGreatDoor
