/- Contracts of Best and Fork. -/
import Derived.Test.YtklekpbladmjhaaTrBest
import Derived.Test.YtklekpbladmjhaaTrEq
namespace Go.Proofs.Ytklekpbladmjhaa
open Go.RowKit

set_option maxRecDepth 10000 in
set_option maxHeartbeats 6400000 in
theorem best_is (a b : Option Addr) (n c m d : Nat) (N : List Int) (T : List BlkD) (z x : Int) (w : World) (hN : IntsAt w a n N) (hT : BlksAt w b m T) (sN : SlOk a n c) (sT : SlOk b m d) (hx : bstD N T = (z, x)) :
    Calls Try.prog 20 #[.agg #[.slice a n c, .slice b m d]] w fun e w' => e = .returned (.tuple #[.int .i64 z, .int .i64 x]) ∧ Below w.heap.size w w' := by
  obtain ⟨X, hX⟩ : ∃ X, X = w.alloc (.cells #[.slice a n c, .slice b m d] 25) := ⟨_, rfl⟩
  have hbX : Below w.heap.size w X := by rw [hX]; exact bel_new _ _
  have hX0 : X.heap[w.heap.size]? = some (.cells [.slice a n c, .slice b m d].toArray 25 (0, 0)) := by rw [hX]; exact two_heap _ _ _ _
  have HB := hide hbX
  have HX0 := hide hX0
  obtain ⟨y, hy⟩ : ∃ y, chkTr N T = y := ⟨_, rfl⟩
  have C1 := hide (trCheck_any a b n c m d N T y X (hN.later hbX) (hT.later hbX) sN sT hy)
  have x0 := cell_of hX0 0 _ rfl
  have x1 := cell_of hX0 1 _ rfl
  have xl := lt_of_block hX0
  unfold bstD at hx
  rw [hy] at hx
  by_cases q : y = 0
  · subst q
    rw [if_neg (by simp)] at hx
    obtain ⟨hl, h24, hH, _⟩ := chkTr_ok hy
    obtain rfl : n = m := by rw [← hN.1, ← hT.1, hl]
    have hn24 : n ≤ 24 := by rw [← hN.1]; exact h24
    have hnm : n ≤ maxLen := sN.len
    obtain ⟨hz, rfl⟩ : bstGo N T 0 0 N = z ∧ 0 = x := ⟨congrArg Prod.fst hx, congrArg Prod.snd hx⟩
    have HN := hide (hN.later hbX)
    have HZN := hide hN.1
    have HH := hide hH
    have CP := hide (fun s P pn W (hb : Below X.heap.size X W) (h1 : pthD N T s = P) (h2 : P.length = pn) => pathTo_at a b n c d N T s P pn W hnm (hN.later (bel_on hbX hb)) (hT.later (bel_on hbX hb)) hH h1 h2)
    have CW := hide (fun pa pc pn P v W (hb : Below X.heap.size X W) (hPA : IntsAt W pa pn P) (hpl : pn ≤ 1000) (hv : wkGo N T 0 P = v) => workOf_is a b pa n c d pn pc N T P v W hnm (hN.later (bel_on hbX hb)) (hT.later (bel_on hbX hb)) hPA hpl hH hv)
    have HZ : Hid (bstGo N T 0 0 (N.drop 0) = z) := hz
    clear hbX hX0 hN hT sN sT hx hy hl h24 hH hnm hz
    go_enter Try.func20, Try.ntmps20
    go_wp2_with fail
    rw [← hX]
    clear hX
    refine (unhide C1).mono ?_
    rintro e w1 ⟨rfl, hb1⟩
    have hc := (hb1.block _ (lt_of_block (unhide HX0))).trans (unhide HX0)
    have t0 := cell_of hc 0 _ rfl
    have tl := lt_of_block hc
    have HB1 := hide hb1
    clear hb1 x0 x1 xl hc C1
    go_wp2
    go_loopw [5, 6, 18] (fun bv mv i wr => ∃ (k : Nat) (bb mm : Int), k ≤ n ∧ bv = .int .i64 bb ∧ mv = .int .i64 mm ∧ i = .int .i64 k ∧ Hid (bstGo N T bb mm (N.drop k) = z) ∧ Hid (Below X.heap.size X wr)) (fun _ _ i _ => n - (intOf i).toNat)
    case atStart => exact ⟨0, 0, 0, Nat.zero_le _, rfl, rfl, rfl, HZ, HB1⟩
    case round =>
      obtain ⟨k, bb, mm, hk, rfl, rfl, rfl, A, HBr⟩ := hrel
      clear t0 tl HZ
      by_cases hlt : k < n
      · have h1 : k < N.length := by rw [unhide HZN]; exact hlt
        obtain ⟨b1, off1, rfl, hl1, hc1⟩ := (unhide HN).2 (by omega)
        have f1 := cell_later (unhide HBr) (hc1 k h1)
        have AT := hide (bstGo_at N T bb mm N k h1)
        obtain ⟨s, hs⟩ : ∃ s, N[k] = s := ⟨_, rfl⟩
        rw [hs] at f1 AT
        have ll := Nat.lt_of_lt_of_le hl1 (unhide HBr).size
        have hcx := ((unhide HBr).block _ (lt_of_block (unhide HX0))).trans (unhide HX0)
        have t0 := cell_of hcx 0 _ rfl
        have t1 := cell_of hcx 1 _ rfl
        have tl := lt_of_block hcx
        obtain ⟨P, hP⟩ : ∃ P, pthD N T s = P := ⟨_, rfl⟩
        obtain ⟨pn, hpn⟩ : ∃ pn, P.length = pn := ⟨_, rfl⟩
        obtain ⟨v, hv⟩ : ∃ v, wkGo N T 0 P = v := ⟨_, rfl⟩
        have hwv : wrkD N T s = v := by unfold wrkD; rw [hP, hv]
        rw [hwv] at AT
        have hpl : pn ≤ 1000 := by rw [← hpn, ← hP]; exact pth_len (unhide HH) s
        have CC := hide ((unhide CP) s P pn wr.drew (bel_on (unhide HBr) (bel_draw1 _)) hP hpn)
        have CV := hide (fun pa pc W hb hPA => (unhide CW) pa pc pn P v W hb hPA hpl hv)
        have hkI : (k : Int) < (n : Int) := by omega
        clear hc1 hcx hs hP hpn hv hwv hl1 hpl
        go_wp2_with fail
        go_region_with (first
          | (go_at_call 40
             refine (unhide CC).mono ?_
             rintro e w5 ⟨vv, rfl, ho5, hb5⟩
             obtain ⟨pa, pc, rfl, _, hpa⟩ := ints_of_own ho5
             have e0 := cell_later hb5 (cell_later (bel_draw1 _) t0)
             have e1 := cell_later hb5 (cell_later (bel_draw1 _) t1)
             have el := Nat.lt_of_lt_of_le tl hb5.size
             have H5 := hide (bel_on (unhide HBr) (bel_on (bel_draw1 _) hb5))
             have C5 := hide ((unhide CV) pa pc _ (unhide H5) hpa)
             clear ho5 hpa hb5)
          | (go_at_call 41
             refine (unhide C5).mono ?_
             rintro e w6 ⟨rfl, hb6⟩
             have H6 := hide (bel_on (unhide H5) hb6)
             clear hb6 C5 H5))
        all_goals
          by_cases q1 : mm < v
          · have R : Hid (bstGo N T s v (N.drop (k + 1)) = z) := by show _ = _; rw [← unhide A, unhide AT, if_pos (.inl q1)]
            clear A AT
            go_wp2
            go_roundw
            case rel => exact ⟨k + 1, s, v, by omega, rfl, rfl, by go_num, R, H6⟩
            case measure => simp [intOf]; omega
          · by_cases q2 : v = mm
            · subst q2
              by_cases q3 : s < bb
              · have R : Hid (bstGo N T s v (N.drop (k + 1)) = z) := by show _ = _; rw [← unhide A, unhide AT, if_pos (.inr ⟨rfl, q3⟩)]
                clear A AT
                go_wp2
                go_roundw
                case rel => exact ⟨k + 1, s, v, by omega, rfl, rfl, by go_num, R, H6⟩
                case measure => simp [intOf]; omega
              · have R : Hid (bstGo N T bb v (N.drop (k + 1)) = z) := by
                  show _ = _
                  rw [← unhide A, unhide AT, if_neg (by omega)]
                clear A AT
                go_wp2
                go_roundw
                case rel => exact ⟨k + 1, bb, v, by omega, rfl, rfl, by go_num, R, H6⟩
                case measure => simp [intOf]; omega
            · have R : Hid (bstGo N T bb mm (N.drop (k + 1)) = z) := by
                show _ = _
                rw [← unhide A, unhide AT, if_neg (by omega)]
              have g2 : (v == mm) = false := by simp [q2]
              clear A AT q2
              go_wp2
              go_roundw
              case rel => exact ⟨k + 1, bb, mm, by omega, rfl, rfl, by go_num, R, H6⟩
              case measure => simp [intOf]; omega
      · have R : Hid (bb = z) := by show _ = _; rw [← unhide A, bstGo_end N T bb mm N k (by rw [unhide HZN]; omega)]
        have HBF := hide (bel_on (unhide HB) (unhide HBr))
        clear A
        go_wp2
        go_ret2
        exact ⟨by rw [← unhide R]; rfl, unhide HBF⟩
  · rw [if_pos q] at hx
    obtain ⟨rfl, rfl⟩ : 0 = z ∧ y = x := ⟨congrArg Prod.fst hx, congrArg Prod.snd hx⟩
    have g : (y != 0) = true := by simp [q]
    clear hbX hX0 hN hT sN sT hy hx q
    go_enter Try.func20, Try.ntmps20
    go_wp2_with fail
    rw [← hX]
    clear hX
    refine (unhide C1).mono ?_
    rintro e w1 ⟨rfl, hb1⟩
    have HB1 := hide (bel_on (unhide HB) hb1)
    clear hb1 x0 x1 xl
    go_wp2
    go_ret2
    exact ⟨rfl, unhide HB1⟩

set_option maxRecDepth 10000 in
set_option maxHeartbeats 3200000 in
theorem fork_is (a b : Option Addr) (n c m d : Nat) (N : List Int) (T : List BlkD) (s t z x : Int) (w : World) (hN : IntsAt w a n N) (hT : BlksAt w b m T) (sN : SlOk a n c) (sT : SlOk b m d) (hx : forkE N T s t = (z, x)) :
    Calls Try.prog 19 #[.agg #[.slice a n c, .slice b m d], .int .i64 s, .int .i64 t] w fun e w' => e = .returned (.tuple #[.int .i64 z, .int .i64 x]) ∧ Below w.heap.size w w' := by
  obtain ⟨X, hX⟩ : ∃ X, X = w.alloc (.cells #[.slice a n c, .slice b m d] 25) := ⟨_, rfl⟩
  have hbX : Below w.heap.size w X := by rw [hX]; exact bel_new _ _
  have hX0 : X.heap[w.heap.size]? = some (.cells [.slice a n c, .slice b m d].toArray 25 (0, 0)) := by rw [hX]; exact two_heap _ _ _ _
  have HB := hide hbX
  have HX0 := hide hX0
  obtain ⟨P, y, hP⟩ : ∃ P y, pathE N T s = (P, y) := ⟨_, _, rfl⟩
  obtain ⟨Q, y2, hQ⟩ : ∃ P y, pathE N T t = (P, y) := ⟨_, _, rfl⟩
  obtain ⟨pn, hpn⟩ : ∃ pn, P.length = pn := ⟨_, rfl⟩
  obtain ⟨qn, hqn⟩ : ∃ pn, Q.length = pn := ⟨_, rfl⟩
  have C1 := hide (path_is a b n c m d N T s P pn y X (hN.later hbX) (hT.later hbX) sN sT hP hpn)
  have C2 := hide (fun W (hb : Below X.heap.size X W) => path_is a b n c m d N T t Q qn y2 W (hN.later (bel_on hbX hb)) (hT.later (bel_on hbX hb)) sN sT hQ hqn)
  have x0 := cell_of hX0 0 _ rfl
  have x1 := cell_of hX0 1 _ rfl
  have xl := lt_of_block hX0
  unfold forkE at hx
  rw [hP, hQ] at hx
  have HPN := hide hpn
  have HQN := hide hqn
  by_cases q : y = 0
  · subst q
    rw [if_neg (by simp)] at hx
    by_cases q2 : y2 = 0
    · subst q2
      rw [if_neg (by simp)] at hx
      obtain ⟨hz, rfl⟩ : frkGo 0 P Q = z ∧ 0 = x := ⟨congrArg Prod.fst hx, congrArg Prod.snd hx⟩
      have hp1 : pn ≤ 1000 := by
        obtain ⟨h1, _, h3⟩ := pathE_ok (N := N) (T := T) (s := s) (by rw [hP])
        rw [hP] at h3; simp only at h3
        rw [← hpn, h3]; exact pth_len (chkTr_ok h1).2.2.1 s
      have hq1 : qn ≤ 1000 := by
        obtain ⟨h1, _, h3⟩ := pathE_ok (N := N) (T := T) (s := t) (by rw [hQ])
        rw [hQ] at h3; simp only at h3
        rw [← hqn, h3]; exact pth_len (chkTr_ok h1).2.2.1 t
      have HZ : Hid (frkGo 0 (P.drop 0) (Q.drop 0) = z) := hz
      clear hbX hX0 hN hT sN sT hx hP hQ hz hpn hqn
      go_enter Try.func19, Try.ntmps19
      go_wp2_with fail
      rw [← hX]
      clear hX
      refine (unhide C1).mono ?_
      rintro e w1 ⟨v1, rfl, ho1, hb1⟩
      obtain ⟨pa, pc, rfl, _, hpa⟩ := ints_of_own ho1
      have hc := (hb1.block _ (lt_of_block (unhide HX0))).trans (unhide HX0)
      have t0 := cell_of hc 0 _ rfl
      have t1 := cell_of hc 1 _ rfl
      have tl := lt_of_block hc
      have HB1 := hide hb1
      have HPA := hide hpa
      clear hb1 x0 x1 xl hc C1 ho1 hpa
      go_wp2_with fail
      refine ((unhide C2) _ (unhide HB1)).mono ?_
      rintro e w2 ⟨v2, rfl, ho2, hb2⟩
      obtain ⟨qa, qc, rfl, _, hqa⟩ := ints_of_own ho2
      have HQA := hide hqa
      have HPA2 := hide ((unhide HPA).later hb2)
      have HB2 := hide (bel_on (unhide HB) (bel_on (unhide HB1) hb2))
      clear hb2 t0 t1 tl C2 ho2 hqa HPA
      obtain ⟨r, hr⟩ : ∃ r, r = min pn qn := ⟨_, rfl⟩
      have hmin : (if (qn : Int) < (pn : Int) then (qn : Int) else (pn : Int)) = (r : Int) := by split <;> omega
      have hmin2 : (if qn < pn then (qn : Int) else (pn : Int)) = (r : Int) := by split <;> omega
      have hrp : r ≤ pn := by omega
      have hrq : r ≤ qn := by omega
      have hrr : r = pn ∨ r = qn := by omega
      have HRR := hide hrr
      clear hr hrr
      go_wp2
      go_loopw [11, 36] (fun lv i wr => ∃ (k j : Nat) (l : Int), k ≤ r ∧ lv = .int .i64 l ∧ i = .int .i64 k ∧ wr = w2.drewN j ∧ Hid (frkGo l (P.drop k) (Q.drop k) = z)) (fun _ i _ => r - (intOf i).toNat)
      case atStart => exact ⟨0, 0, 0, Nat.zero_le _, rfl, rfl, rfl, HZ⟩
      case round =>
        obtain ⟨k, j, l, hk, rfl, rfl, rfl, A⟩ := hrel
        clear HZ
        by_cases hlt : k < r
        · have h1 : k < P.length := by rw [unhide HPN]; omega
          have h2 : k < Q.length := by rw [unhide HQN]; omega
          have hkp : (k : Int) < (pn : Int) := by omega
          have hkq : (k : Int) < (qn : Int) := by omega
          obtain ⟨b1, off1, rfl, hl1, hc1⟩ := (unhide HPA2).2 (by omega)
          obtain ⟨b2, off2, rfl, hl2, hc2⟩ := (unhide HQA).2 (by omega)
          have f1 := hc1 k h1
          have f2 := hc2 k h2
          have AT := hide (frkGo_at l P Q k h1 h2)
          obtain ⟨u, hu⟩ : ∃ u, P[k] = u := ⟨_, rfl⟩
          obtain ⟨v, hv⟩ : ∃ v, Q[k] = v := ⟨_, rfl⟩
          rw [hu] at f1 AT
          rw [hv] at f2 AT
          clear hc1 hc2 hu hv
          by_cases e : u = v
          · subst e
            have R : Hid (frkGo u (P.drop (k + 1)) (Q.drop (k + 1)) = z) := by show _ = _; rw [← unhide A, unhide AT, if_pos rfl]
            clear A AT
            go_wp2
            go_quiet (fail)
            go_wp2
            go_roundw
            case rel => exact ⟨k + 1, j + nq, u, by omega, rfl, by go_num, rfl, R⟩
            case measure => simp [intOf]; omega
          · have R : Hid (frkGo l (P.drop (k + 1)) (Q.drop (k + 1)) = z) := by show _ = _; rw [← unhide A, unhide AT, if_neg e]
            have g : (u == v) = false := by simp [e]
            clear A AT e
            go_wp2
            go_quiet (fail)
            go_wp2
            go_roundw
            case rel => exact ⟨k + 1, j + nq, l, by omega, rfl, by go_num, rfl, R⟩
            case measure => simp [intOf]; omega
        · have R : Hid (l = z) := by show _ = _; rw [← unhide A, frkGo_end l P Q k (by rw [unhide HPN, unhide HQN]; have := unhide HRR; omega)]
          clear A
          go_wp2
          go_ret2
          exact ⟨by rw [← unhide R]; rfl, bel_on (unhide HB2) (below_dn _ _)⟩
    · rw [if_pos q2] at hx
      obtain ⟨rfl, rfl⟩ : 0 = z ∧ y2 = x := ⟨congrArg Prod.fst hx, congrArg Prod.snd hx⟩
      have g : (y2 != 0) = true := by simp [q2]
      clear hbX hX0 hN hT sN sT hx hP hQ hpn hqn q2
      go_enter Try.func19, Try.ntmps19
      go_wp2_with fail
      rw [← hX]
      clear hX
      refine (unhide C1).mono ?_
      rintro e w1 ⟨v1, rfl, ho1, hb1⟩
      obtain ⟨pa, pc, rfl, _, hpa⟩ := ints_of_own ho1
      have hc := (hb1.block _ (lt_of_block (unhide HX0))).trans (unhide HX0)
      have t0 := cell_of hc 0 _ rfl
      have t1 := cell_of hc 1 _ rfl
      have tl := lt_of_block hc
      have HB1 := hide hb1
      clear hb1 x0 x1 xl hc C1 ho1 hpa
      go_wp2_with fail
      refine ((unhide C2) _ (unhide HB1)).mono ?_
      rintro e w2 ⟨v2, rfl, ho2, hb2⟩
      have HB2 := hide (bel_on (unhide HB) (bel_on (unhide HB1) hb2))
      clear hb2 t0 t1 tl C2 ho2
      go_wp2
      go_ret2
      exact ⟨rfl, unhide HB2⟩
  · rw [if_pos q] at hx
    obtain ⟨rfl, rfl⟩ : 0 = z ∧ y = x := ⟨congrArg Prod.fst hx, congrArg Prod.snd hx⟩
    have g : (y != 0) = true := by simp [q]
    clear hbX hX0 hN hT sN sT hx hP hQ hpn hqn q
    go_enter Try.func19, Try.ntmps19
    go_wp2_with fail
    rw [← hX]
    clear hX
    refine (unhide C1).mono ?_
    rintro e w1 ⟨v1, rfl, _, hb1⟩
    have HB1 := hide (bel_on (unhide HB) hb1)
    clear hb1 x0 x1 xl C1
    go_wp2
    go_ret2
    exact ⟨rfl, unhide HB1⟩

end Go.Proofs.Ytklekpbladmjhaa
