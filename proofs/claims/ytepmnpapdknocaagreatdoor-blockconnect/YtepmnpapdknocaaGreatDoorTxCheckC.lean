/- Contracts of what checks a transaction: the outs one by one, and all of it. -/
import Derived.Test.YtepmnpapdknocaaGreatDoorTxCheckB
namespace Go.Proofs.YtepmnpapdknocaaGreatDoor
open Go.RowKit

set_option maxHeartbeats 400000 in
theorem checkIns_none (a : Option Addr) (c : Nat) (w : World) :
    Calls Tryz.prog 127 #[.slice a 0 c] w fun e w' => e = .returned (.int .i64 0) ∧ w = w' := by
  go_enter Tryz.func127, Tryz.ntmps127
  go_wp2
  refine wp_loop_rounds 1 ?_
  rw [rounds_succ]
  go_wp2
  go_ret
  exact ⟨rfl, rfl⟩
theorem checkIns_is (a : Option Addr) (n c : Nat) (L : List InD) (x : Int) (w : World) (hn : n ≤ 6) (hs : SlOk a n c) (h : InsAt w a n L) (hx : chkIns [] L = x) :
    Calls Tryz.prog 127 #[.slice a n c] w fun e w' => e = .returned (.int .i64 x) ∧ Below w.heap.size w w' := by
  subst hx
  obtain ⟨hz, hc⟩ := h
  by_cases h0 : n = 0
  · subst h0
    have e : L = [] := List.length_eq_zero_iff.1 hz
    subst e
    exact (checkIns_none a c w).mono fun e w' ⟨q1, q2⟩ => ⟨q1, q2 ▸ Below.refl _ _⟩
  · obtain ⟨b, off, rfl, hl, hcell⟩ := hc (by omega)
    exact checkIns_some b off n c L w hn hs.1 hz hl hcell

theorem Tryz.infoInt : (Tryz.prog.info? 3).map (fun i => (i.zero, i.size, i.bytes)) = some (some (.int .i64 0), 1, 8) := by kernel_rfl

def coinV (L : List OutD) (j : Nat) : Value := .int .i64 ((L.map (·.1)).getD j 0)

theorem chkOut1_lo {x : OutD} (h : x.1 < 1) : chkOut1 x = 3 := by unfold chkOut1; rw [if_pos h]
theorem chkOut1_hi {x : OutD} (h : ¬ x.1 < 1) : chkOut1 x = chk x.2 := by unfold chkOut1; rw [if_neg h]

set_option maxRecDepth 10000 in
set_option maxHeartbeats 3200000 in
theorem checkOuts_some (b off n c : Nat) (L : List OutD) (w : World) (hn : n ≤ 6) (hpos : 0 < n) (hz : L.length = n) (hc : ∀ i (h : i < L.length), OutAt w b (off + i * 2) L[i]) :
    Calls Tryz.prog 128 #[.slice (some ⟨b, off, none⟩) n c] w fun e w' => e = .returned (.int .i64 (chkOutsAll L)) ∧ Below w.heap.size w w' := by
  obtain ⟨i0, hi, hz0, hz1, hz2⟩ := info_parts Tryz.infoInt
  have HC := hide hc
  have HZ := hide hz
  have HP := hide hpos
  clear hc hz hpos
  go_enter Tryz.func128, Tryz.ntmps128
  go_wp2_with (at_make; refine wpList_make_full _ rfl _ _ 30 rfl w.heap.size 3 i0 (.int .i64 0) 1 Tryz.underlying30 hi hz0 hz1 .i64 .i64 _ _ n rfl rfl rfl rfl (by rw [hz2]; omega) (by unfold maxLen; omega) (Nat.le_refl _) ?_; intro w2 hown2 hgrow2)
  have hst : FillV w.heap.size 3 n (coinV L) w w2 0 := ⟨⟨_, hown2, fun j hj => absurd hj (by omega)⟩, (Below.refl _ _).grown hgrow2 (Nat.le_refl _) (fun k h => by cases h)⟩
  have HST := hide hst
  clear hst hown2 hgrow2
  go_loopw [14] (fun i wr => ∃ k : Nat, k ≤ n ∧ i = .int .i64 k ∧ Hid (chkOuts L = chkOuts (L.drop k)) ∧ FillV w.heap.size 3 n (coinV L) w wr k) (fun i _ => n - (intOf i).toNat)
  case atStart => exact ⟨0, Nat.zero_le _, rfl, rfl, unhide HST⟩
  case round =>
    obtain ⟨k, hk, rfl, A, hfl⟩ := hrel
    have HF := hide hfl
    have hb : Below w.heap.size w wr := hfl.bel
    have HB := hide hb
    by_cases hlt : k < n
    · have hlk : k < L.length := by rw [unhide HZ]; exact hlt
      have hin := OutAt.kept _ _ _ _ _ hb ((unhide HC) k hlk)
      have ST := hide (chkOuts_stop L k hlk)
      have SS := hide (chkOuts_step L k hlk)
      have hcv : coinV L k = .int .i64 (L[k]).1 := by unfold coinV; simp [hlk]
      obtain ⟨x, hx⟩ : ∃ x, L[k] = x := ⟨_, rfl⟩
      rw [hx] at hin ST SS hcv
      have HCV := hide hcv
      obtain ⟨x1, key⟩ := x
      obtain ⟨g1, ka, kn, kc, g3, g4, _⟩ := hin
      simp only at g1 g3 g4
      have hba := bel_new wr (.cells #[.int .i64 x1, .slice ka kn kc] 84)
      obtain ⟨n1, n2⟩ := two_fresh wr (.int .i64 x1) (.slice ka kn kc) 84
      have HBA := hide hba
      have KO := hide (g4.later hba)
      have N1 := hide n1
      have N2 := hide n2
      clear hb hx g4 hba n1 n2 hfl hcv
      by_cases hlo : x1 < 1
      · have R : Hid (chkOutsAll L = 3) := by
          have e : chkOut1 (x1, key) = 3 := chkOut1_lo hlo
          have e2 : chkOuts L = 3 := by rw [unhide A, (unhide ST) (by rw [e]; decide), e]
          show _ = _
          unfold chkOutsAll; rw [e2]; rfl
        have HB2 := hide (bel_on (unhide HB) (unhide HBA))
        clear A ST SS
        go_wp2
        go_ret
        exact ⟨by rw [unhide R]; rfl, unhide HB2⟩
      · by_cases hk0 : chk key = 0
        · have R : Hid (chkOuts L = chkOuts (L.drop (k + 1))) := by
            have e : chkOut1 (x1, key) = 0 := by rw [chkOut1_hi hlo]; exact hk0
            show _ = _
            rw [unhide A, (unhide SS) e]
          have HK := hide hk0
          clear A ST SS hk0
          go_wp2_with fail
          refine (chk_at ka kn kc key 0 _ (unhide HK) (unhide KO)).mono ?_
          rintro e w3 ⟨rfl, hb3⟩
          have m1 := cell_later hb3 (unhide N1)
          have hf3 := ((unhide HF).keep (unhide HBA)).keep hb3
          obtain ⟨v, hold⟩ := hf3.old hlt
          have hfree := hf3.free k
          have HF3 := hide hf3
          have hs3 : wr.heap.size < w3.heap.size := World.block_lt_of_cell? _ _ m1
          clear hb3 hf3
          go_wp2
          go_roundw
          case rel => exact ⟨k + 1, by omega, by go_num, R, (unhide HF3).step hlt (unhide HCV).symm⟩
          case measure => simp [intOf]; omega
        · obtain ⟨z, hz⟩ : ∃ z, chk key = z := ⟨_, rfl⟩
          have R : Hid (chkOutsAll L = z) := by
            have e : chkOut1 (x1, key) = chk key := chkOut1_hi hlo
            have e2 : chkOuts L = z := by rw [unhide A, (unhide ST) (by rw [e]; exact hk0), e]; exact hz
            show _ = _
            unfold chkOutsAll; rw [e2, if_neg (by rw [← hz]; exact hk0)]
          have HK := hide hz
          rw [hz] at hk0
          have gz : (z != 0) = true := by simp [hk0]
          clear A ST SS hz hk0
          go_wp2_with fail
          refine (chk_at ka kn kc key z _ (unhide HK) (unhide KO)).mono ?_
          rintro e w3 ⟨rfl, hb3⟩
          have HB3 := hide (bel_on (bel_on (unhide HB) (unhide HBA)) hb3)
          clear hb3
          go_wp2
          go_ret
          exact ⟨by rw [unhide R]; rfl, unhide HB3⟩
    · have e : k = n := by omega
      subst e
      have R : Hid (chkOutsAll L = (sm 0 (L.map (·.1))).2) := by
        show _ = _
        unfold chkOutsAll; rw [unhide A, chkOuts_end L k (by rw [unhide HZ]; exact Nat.le_refl _)]; rfl
      have hrow : RowAt wr (some ⟨w.heap.size, 0, none⟩) k (L.map (·.1)) := by
        refine ⟨by rw [List.length_map]; exact unhide HZ, by unfold maxLen; omega, fun _ => ⟨w.heap.size, 0, rfl, fun i hi => ?_⟩⟩
        rw [Nat.zero_add, hfl.cells (Nat.le_refl _) i hi]; rfl
      have SM := hide (sum_any (some ⟨w.heap.size, 0, none⟩) k k (L.map (·.1)) wr hrow)
      obtain ⟨s, hs⟩ : ∃ s, sm 0 (L.map (·.1)) = s := ⟨_, rfl⟩
      rw [hs] at SM R
      obtain ⟨s1, s2⟩ := s
      clear A hb hfl hrow hs hlt hk
      go_wp2_with fail
      refine (unhide SM).mono ?_
      rintro e w' ⟨rfl, rfl⟩
      go_wp2
      go_ret
      exact ⟨by rw [unhide R]; rfl, unhide HB⟩

theorem checkOuts_is (a : Option Addr) (n c : Nat) (L : List OutD) (x : Int) (w : World) (hn : n ≤ 6) (hpos : 0 < n) (h : OutsAt w a n L) (hx : chkOutsAll L = x) :
    Calls Tryz.prog 128 #[.slice a n c] w fun e w' => e = .returned (.int .i64 x) ∧ Below w.heap.size w w' := by
  subst hx
  obtain ⟨hz, hc⟩ := h
  obtain ⟨b, off, rfl, _, hcell⟩ := hc hpos
  exact checkOuts_some b off n c L w hn hpos hz hcell

set_option maxHeartbeats 800000 in
theorem heightFits_is (h : Int) (ai ao : Option Addr) (ni ci no co : Nat) (o : Bool) (w : World) (ho : (if ni = 0 then decide (1 ≤ h) && decide (h ≤ 1000) else decide (h = 0)) = o) :
    Calls Tryz.prog 126 #[.agg #[.int .i64 h, .slice ai ni ci, .slice ao no co]] w fun e w' => e = .returned (.bool o) ∧ Below w.heap.size w w' := by
  have HB := hide (bel_new w (.cells #[.int .i64 h, .slice ai ni ci, .slice ao no co] 74))
  by_cases h0 : ni = 0
  · subst h0
    rw [if_pos rfl] at ho
    have C : Hid (∀ w, Calls Tryz.prog 62 #[.int .i64 h, .int .i64 1, .int .i64 1000] w fun e w' => e = .returned (.bool o) ∧ w = w') := fun w => within_is h 1 1000 o w ho.symm
    clear ho
    go_enter Tryz.func126, Tryz.ntmps126
    go_wp2_with fail
    refine ((unhide C) _).mono ?_
    rintro e w' ⟨rfl, rfl⟩
    go_wp2
    go_ret
    exact ⟨rfl, unhide HB⟩
  · rw [if_neg h0] at ho
    have g : ((ni : Int) == 0) = false := by simp; omega
    by_cases hh : h = 0
    · rw [decide_eq_true hh] at ho
      subst ho hh
      go_enter Tryz.func126, Tryz.ntmps126
      go_wp2
      go_ret
      exact ⟨rfl, unhide HB⟩
    · rw [decide_eq_false hh] at ho
      subst ho
      have g2 : (h == 0) = false := by simp [hh]
      go_enter Tryz.func126, Tryz.ntmps126
      go_wp2
      go_ret
      exact ⟨rfl, unhide HB⟩

end Go.Proofs.YtepmnpapdknocaaGreatDoor
