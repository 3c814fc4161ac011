/- The walk of the law TreeForks. -/
import Derived.Test.YtklekpbladmjhaaTrForkM
import Derived.Test.YtklekpbladmjhaaTrGrown
namespace Go.Proofs.Ytklekpbladmjhaa
open Go.RowKit

set_option maxRecDepth 10000 in
set_option maxHeartbeats 3200000 in
theorem forks_bad (a b : Option Addr) (n c m d : Nat) (N : List Int) (T : List BlkD) (s t z x : Int) (w : World) (hN : IntsAt w a n N) (hT : BlksAt w b m T) (sN : SlOk a n c) (sT : SlOk b m d) (hx : forkE N T s t = (z, x)) (h0 : x ≠ 0) :
    Calls Try.prog 7 #[.agg #[.slice a n c, .slice b m d], .int .i64 s, .int .i64 t] w fun e w' => e = .returned (.bool true) ∧ Below w.heap.size w w' := by
  obtain ⟨X, hX⟩ : ∃ X, X = w.alloc (.cells #[.slice a n c, .slice b m d] 25) := ⟨_, rfl⟩
  have hbX : Below w.heap.size w X := by rw [hX]; exact bel_new _ _
  have C := hide (fork_is a b n c m d N T s t z x X (hN.later hbX) (hT.later hbX) sN sT hx)
  have GR := hide grown_yes
  have g : (x != 0) = true := by simp [h0]
  have HB := hide hbX
  clear hbX hN hT sN sT hx h0
  go_enter Try.func7, Try.ntmps7
  go_wp2_with fail
  rw [← hX]
  clear hX
  refine (unhide C).mono ?_
  rintro e w1 ⟨rfl, hb1⟩
  have HB1 := hide (bel_on (unhide HB) hb1)
  clear hb1 C
  go_wp2_with fail
  refine ((unhide GR) _).mono ?_
  rintro e w2 ⟨rfl, hb2⟩
  have HB2 := hide (bel_on (unhide HB1) hb2)
  clear hb2
  go_wp2_with fail
  refine ((unhide GR) _).mono ?_
  rintro e w3 ⟨rfl, hb3⟩
  have HB3 := hide (bel_on (unhide HB2) hb3)
  clear hb3
  go_wp2
  go_ret
  exact ⟨rfl, unhide HB3⟩

set_option maxRecDepth 10000 in
set_option maxHeartbeats 12800000 in
theorem forks_ok (a b : Option Addr) (n c m d : Nat) (N : List Int) (T : List BlkD) (s t z : Int) (w : World) (hN : IntsAt w a n N) (hT : BlksAt w b m T) (sN : SlOk a n c) (sT : SlOk b m d) (hx : forkE N T s t = (z, 0)) :
    Calls Try.prog 7 #[.agg #[.slice a n c, .slice b m d], .int .i64 s, .int .i64 t] w fun e w' => e = .returned (.bool true) ∧ Below w.heap.size w w' := by
  obtain ⟨X, hX⟩ : ∃ X, X = w.alloc (.cells #[.slice a n c, .slice b m d] 25) := ⟨_, rfl⟩
  have hbX : Below w.heap.size w X := by rw [hX]; exact bel_new _ _
  have hX0 : X.heap[w.heap.size]? = some (.cells [.slice a n c, .slice b m d].toArray 25 (0, 0)) := by rw [hX]; exact two_heap _ _ _ _
  obtain ⟨f1, f2, f3, f4, f5, f6, f7⟩ := fork_facts hx
  have hcoh : Coh (pthD N T s) (pthD N T t) := upD_coh N T _ _ s t
  obtain ⟨P, hP⟩ : ∃ P, pthD N T s = P := ⟨_, rfl⟩
  obtain ⟨Q, hQ⟩ : ∃ Q, pthD N T t = Q := ⟨_, rfl⟩
  rw [hP] at f3 f5 f6 hcoh
  rw [hQ] at f4 f5 f7 hcoh
  obtain ⟨pn, hpn⟩ : ∃ pn, P.length = pn := ⟨_, rfl⟩
  obtain ⟨qn, hqn⟩ : ∃ qn, Q.length = qn := ⟨_, rfl⟩
  have hp1 : pn ≤ 1000 := by rw [← hpn]; exact f6
  have hq1 : qn ≤ 1000 := by rw [← hqn]; exact f7
  have C1 := hide (fork_is a b n c m d N T s t z 0 X (hN.later hbX) (hT.later hbX) sN sT hx)
  have C2 := hide (fun W (hb : Below X.heap.size X W) => fork_is a b n c m d N T t s z 0 W (hN.later (bel_on hbX hb)) (hT.later (bel_on hbX hb)) sN sT f1)
  have C3 := hide (fun W (hb : Below X.heap.size X W) => fork_is a b n c m d N T s s s 0 W (hN.later (bel_on hbX hb)) (hT.later (bel_on hbX hb)) sN sT f2)
  have C4 := hide (fun W (hb : Below X.heap.size X W) => path_is a b n c m d N T s P pn 0 W (hN.later (bel_on hbX hb)) (hT.later (bel_on hbX hb)) sN sT f3 hpn)
  have C5 := hide (fun W (hb : Below X.heap.size X W) => path_is a b n c m d N T t Q qn 0 W (hN.later (bel_on hbX hb)) (hT.later (bel_on hbX hb)) sN sT f4 hqn)
  have GR := hide grown_yes
  have HCO := hide hcoh
  have HZ := hide f5
  have HPN := hide hpn
  have HQN := hide hqn
  have HB := hide hbX
  have HX0 := hide hX0
  have BX : Hid (∀ W, Below X.heap.size X W → W.cell? ⟨w.heap.size, 0, none⟩ = some (.slice a n c) ∧ W.cell? ⟨w.heap.size, 1, none⟩ = some (.slice b m d) ∧ w.heap.size < W.heap.size) := fun W hb => by
    have h := (hb.block _ (lt_of_block hX0)).trans hX0
    exact ⟨cell_of h 0 _ rfl, cell_of h 1 _ rfl, lt_of_block h⟩
  clear hbX hX0 hN hT sN sT hx f1 f2 f3 f4 f5 f6 f7 hP hQ hpn hqn hcoh
  go_enter Try.func7, Try.ntmps7
  go_wp2_with fail
  rw [← hX]
  clear hX
  refine (unhide C1).mono ?_
  rintro e w1 ⟨rfl, hb1⟩
  have HB1 := hide hb1
  clear hb1 C1
  go_wp2_with fail
  refine ((unhide GR) _).mono ?_
  rintro e w2 ⟨rfl, hb2⟩
  have HB2 := hide (bel_on (unhide HB1) hb2)
  obtain ⟨x0, x1, xl⟩ := (unhide BX) _ (unhide HB2)
  clear hb2 HB1
  go_wp2_with fail
  refine ((unhide C2) _ (unhide HB2)).mono ?_
  rintro e w3 ⟨rfl, hb3⟩
  have HB3 := hide (bel_on (unhide HB2) hb3)
  clear hb3 HB2 x0 x1 xl C2
  obtain ⟨x0, x1, xl⟩ := (unhide BX) _ (unhide HB3)
  go_wp2_with fail
  refine ((unhide C3) _ (unhide HB3)).mono ?_
  rintro e w4 ⟨rfl, hb4⟩
  have HB4 := hide (bel_on (unhide HB3) hb4)
  clear hb4 HB3 x0 x1 xl C3
  obtain ⟨x0, x1, xl⟩ := (unhide BX) _ (unhide HB4)
  go_wp2_with fail
  refine ((unhide C4) _ (unhide HB4)).mono ?_
  rintro e w5 ⟨v5, rfl, ho5, hb5⟩
  obtain ⟨pa, pc, rfl, _, hpa⟩ := ints_of_own ho5
  have HB5 := hide (bel_on (unhide HB4) hb5)
  have HPA := hide hpa
  clear hb5 HB4 x0 x1 xl C4 ho5 hpa
  obtain ⟨x0, x1, xl⟩ := (unhide BX) _ (unhide HB5)
  go_wp2_with fail
  refine ((unhide C5) _ (unhide HB5)).mono ?_
  rintro e w6 ⟨v6, rfl, ho6, hb6⟩
  obtain ⟨qa, qc, rfl, _, hqa⟩ := ints_of_own ho6
  have HB6 := hide (bel_on (unhide HB) (bel_on (unhide HB5) hb6))
  have HPA6 := hide ((unhide HPA).later hb6)
  have HQA := hide hqa
  clear hb6 HB5 x0 x1 xl C5 ho6 hqa HPA BX
  have gz : (z != z) = false := by simp
  have gs : (s != s) = false := by simp
  go_wp2
  go_loopw [16] (fun i wr => ∃ (k j : Nat), k ≤ pn ∧ k ≤ qn ∧ i = .int .i64 k ∧ wr = w6.drewN j ∧ Hid (P.take k = Q.take k)) (fun i _ => pn - (intOf i).toNat)
  case atStart => exact ⟨0, 0, Nat.zero_le _, Nat.zero_le _, rfl, rfl, rfl⟩
  case round =>
    obtain ⟨k, j, hk1, hk2, rfl, rfl, A⟩ := hrel
    have END : Hid ((P.length ≤ k ∨ Q.length ≤ k ∨ P.getD k 0 ≠ Q.getD k 0) → z = if k = 0 then 0 else P.getD (k - 1) 0) := fun h => by
      rw [← unhide HZ]
      exact frk_at (unhide HCO) k (by rw [unhide HPN]; exact hk1) (by rw [unhide HQN]; exact hk2) (unhide A) h
    by_cases h1 : k < pn
    · by_cases h2 : k < qn
      · have hp : k < P.length := by rw [unhide HPN]; exact h1
        have hq : k < Q.length := by rw [unhide HQN]; exact h2
        obtain ⟨b1, off1, rfl, hl1, hc1⟩ := (unhide HPA6).2 (by omega)
        obtain ⟨b2, off2, rfl, hl2, hc2⟩ := (unhide HQA).2 (by omega)
        have c1 := hc1 k hp
        have c2 := hc2 k hq
        have TM := hide (take_more hp hq (unhide A))
        have G1 : Hid (P.getD k 0 = P[k]) := by show _ = _; simp [List.getD, hp]
        have G2 : Hid (Q.getD k 0 = Q[k]) := by show _ = _; simp [List.getD, hq]
        obtain ⟨u, hu⟩ : ∃ u, P[k] = u := ⟨_, rfl⟩
        obtain ⟨v, hv⟩ : ∃ v, Q[k] = v := ⟨_, rfl⟩
        rw [hu] at c1 TM G1
        rw [hv] at c2 TM G2
        have hkp : (k : Int) < (pn : Int) := by omega
        have hkq : (k : Int) < (qn : Int) := by omega
        clear hu hv A
        by_cases e : u = v
        · subst e
          have R := hide ((unhide TM) rfl)
          clear TM G1 G2 END hc1 hc2
          go_wp2
          go_quiet (fail)
          go_wp2
          go_roundw
          case rel => exact ⟨k + 1, j + nq, by omega, by omega, by go_num, rfl, R⟩
          case measure => simp [intOf]; omega
        · have R := hide ((unhide END) (.inr (.inr (by rw [unhide G1, unhide G2]; exact e))))
          have g : (u == v) = false := by simp [e]
          clear TM G1 G2 END e hc2
          by_cases hk0 : k = 0
          · have gk : ((k : Int) == 0) = true := by simp [hk0]
            obtain rfl : z = 0 := by have q := unhide R; rw [if_pos hk0] at q; exact q
            clear R hk0 hc1
            go_wp2
            go_quiet (fail)
            go_wp2
            go_ret
            exact ⟨rfl, by first | exact bel_on (unhide HB6) (below_dn _ _) | (simp only [World.drewN_drewN]; exact bel_on (unhide HB6) (below_dn _ _))⟩
          · obtain ⟨r, hr⟩ : ∃ r, k = r + 1 := ⟨k - 1, by omega⟩
            have hrp : r < P.length := by rw [unhide HPN]; omega
            have c3 := hc1 r hrp
            obtain rfl : z = P[r] := by
              have q := unhide R
              rw [if_neg (by omega), hr, Nat.add_sub_cancel] at q
              simpa [List.getD, hrp] using q
            obtain ⟨z, hz⟩ : ∃ z, P[r] = z := ⟨_, rfl⟩
            rw [hz] at c3 ⊢
            have gk : ((k : Int) == 0) = false := by simp; omega
            have hk1 : (0 : Int) < (k : Int) := by omega
            have hw : IntKind.i64.wrap ((k : Int) - 1) = (r : Int) := by rw [IntKind.wrap_i64]; omega
            have hrI : (r : Int) < (pn : Int) := by omega
            clear R hz hc1 hr hk0
            go_wp2
            go_quiet (fail)
            go_wp2
            go_ret
            exact ⟨rfl, by first | exact bel_on (unhide HB6) (below_dn _ _) | (simp only [World.drewN_drewN]; exact bel_on (unhide HB6) (below_dn _ _))⟩
      · have R := hide ((unhide END) (.inr (.inl (by rw [unhide HQN]; omega))))
        have hkp : (k : Int) < (pn : Int) := by omega
        have hkq : ¬ (k : Int) < (qn : Int) := by omega
        clear END A
        by_cases hk0 : k = 0
        · have gk : ((k : Int) == 0) = true := by simp [hk0]
          obtain rfl : z = 0 := by have q := unhide R; rw [if_pos hk0] at q; exact q
          clear R hk0
          go_wp2
          go_quiet (fail)
          go_wp2
          go_ret
          exact ⟨rfl, by first | exact bel_on (unhide HB6) (below_dn _ _) | (simp only [World.drewN_drewN]; exact bel_on (unhide HB6) (below_dn _ _))⟩
        · obtain ⟨r, hr⟩ : ∃ r, k = r + 1 := ⟨k - 1, by omega⟩
          obtain ⟨b1, off1, rfl, hl1, hc1⟩ := (unhide HPA6).2 (by omega)
          have hrp : r < P.length := by rw [unhide HPN]; omega
          have c3 := hc1 r hrp
          obtain rfl : z = P[r] := by
            have q := unhide R
            rw [if_neg (by omega), hr, Nat.add_sub_cancel] at q
            simpa [List.getD, hrp] using q
          obtain ⟨z, hz⟩ : ∃ z, P[r] = z := ⟨_, rfl⟩
          rw [hz] at c3 ⊢
          have gk : ((k : Int) == 0) = false := by simp; omega
          have hk1 : (0 : Int) < (k : Int) := by omega
          have hw : IntKind.i64.wrap ((k : Int) - 1) = (r : Int) := by rw [IntKind.wrap_i64]; omega
          have hrI : (r : Int) < (pn : Int) := by omega
          clear R hz hc1 hr hk0
          go_wp2
          go_quiet (fail)
          go_wp2
          go_ret
          exact ⟨rfl, by first | exact bel_on (unhide HB6) (below_dn _ _) | (simp only [World.drewN_drewN]; exact bel_on (unhide HB6) (below_dn _ _))⟩
    · have R := hide ((unhide END) (.inl (by rw [unhide HPN]; omega)))
      have hkp : ¬ (k : Int) < (pn : Int) := by omega
      clear END A
      by_cases hk0 : k = 0
      · have gk : ((k : Int) == 0) = true := by simp [hk0]
        obtain rfl : z = 0 := by have q := unhide R; rw [if_pos hk0] at q; exact q
        clear R hk0
        go_wp2
        go_quiet (fail)
        go_wp2
        go_ret
        exact ⟨rfl, by first | exact bel_on (unhide HB6) (below_dn _ _) | (simp only [World.drewN_drewN]; exact bel_on (unhide HB6) (below_dn _ _))⟩
      · obtain ⟨r, hr⟩ : ∃ r, k = r + 1 := ⟨k - 1, by omega⟩
        obtain ⟨b1, off1, rfl, hl1, hc1⟩ := (unhide HPA6).2 (by omega)
        have hrp : r < P.length := by rw [unhide HPN]; omega
        have c3 := hc1 r hrp
        obtain rfl : z = P[r] := by
          have q := unhide R
          rw [if_neg (by omega), hr, Nat.add_sub_cancel] at q
          simpa [List.getD, hrp] using q
        obtain ⟨z, hz⟩ : ∃ z, P[r] = z := ⟨_, rfl⟩
        rw [hz] at c3 ⊢
        have gk : ((k : Int) == 0) = false := by simp; omega
        have hk1 : (0 : Int) < (k : Int) := by omega
        have hw : IntKind.i64.wrap ((k : Int) - 1) = (r : Int) := by rw [IntKind.wrap_i64]; omega
        have hrI : (r : Int) < (pn : Int) := by omega
        clear R hz hc1 hr hk0
        go_wp2
        go_quiet (fail)
        go_wp2
        go_ret
        exact ⟨rfl, by first | exact bel_on (unhide HB6) (below_dn _ _) | (simp only [World.drewN_drewN]; exact bel_on (unhide HB6) (below_dn _ _))⟩

end Go.Proofs.Ytklekpbladmjhaa
