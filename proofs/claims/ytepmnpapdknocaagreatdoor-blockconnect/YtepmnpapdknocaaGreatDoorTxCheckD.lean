/- The contract of Check of transactions. -/
import Derived.Test.YtepmnpapdknocaaGreatDoorTxCheckC
namespace Go.Proofs.YtepmnpapdknocaaGreatDoor
open Go.RowKit

theorem hFit_eq (h : Int) (I : List InD) (O : List OutD) (ni : Nat) (hz : I.length = ni) : hFit (h, I, O) = if ni = 0 then decide (1 ≤ h) && decide (h ≤ 1000) else decide (h = 0) := by
  unfold hFit; simp only [hz]

set_option maxRecDepth 10000 in
set_option maxHeartbeats 3200000 in
theorem txCheck_any (h : Int) (ai ao : Option Addr) (ni ci no co : Nat) (I : List InD) (O : List OutD) (w : World) (hI : InsAt w ai ni I) (hO : OutsAt w ao no O) (sI : SlOk ai ni ci) :
    Calls Tryz.prog 92 #[.agg #[.int .i64 h, .slice ai ni ci, .slice ao no co]] w fun e w' => e = .returned (.int .i64 (chkTx (h, I, O))) ∧ Below w.heap.size w w' := by
  have hb := bel_new w (.cells #[.int .i64 h, .slice ai ni ci, .slice ao no co] 74)
  obtain ⟨n0, n1, n2⟩ := three_new w (.int .i64 h) (.slice ai ni ci) (.slice ao no co) 74
  have HB := hide hb
  have N0 := hide n0
  have N1 := hide n1
  have N2 := hide n2
  have HI := hide (hI.later hb)
  have HO := hide (hO.later hb)
  have HS := hide sI
  have zi := hI.1
  have zo := hO.1
  clear hb n0 n1 n2 hI hO sI
  by_cases h1 : 6 < ni
  · have e : chkTx (h, I, O) = 2 := by unfold chkTx; rw [if_pos (Or.inl (by show 6 < I.length; omega))]
    rw [e]
    have g : (6 : Int) < (ni : Int) := by omega
    clear e h1 zi zo
    go_enter Tryz.func92, Tryz.ntmps92
    go_wp2
    go_ret
    exact ⟨rfl, unhide HB⟩
  · by_cases h2 : 6 < no
    · have e : chkTx (h, I, O) = 2 := by unfold chkTx; rw [if_pos (Or.inr (by show 6 < O.length; omega))]
      rw [e]
      have g : ¬ (6 : Int) < (ni : Int) := by omega
      have g' : (6 : Int) < (no : Int) := by omega
      clear e h1 h2 zi zo
      go_enter Tryz.func92, Tryz.ntmps92
      go_wp2
      go_ret
      exact ⟨rfl, unhide HB⟩
    · have g : ¬ (6 : Int) < (ni : Int) := by omega
      have g' : ¬ (6 : Int) < (no : Int) := by omega
      have e1 : ¬ (6 < I.length ∨ 6 < O.length) := by omega
      by_cases h3 : no = 0
      · have e : chkTx (h, I, O) = 4 := by unfold chkTx; rw [if_neg e1, if_pos (by show O.length = 0; omega)]
        rw [e]
        subst h3
        clear e e1 h1 h2 zi zo
        go_enter Tryz.func92, Tryz.ntmps92
        go_wp2
        go_ret
        exact ⟨rfl, unhide HB⟩
      · have g3 : ((no : Int) == 0) = false := by simp; omega
        have e3 : ¬ O.length = 0 := by omega
        cases hf : hFit (h, I, O) with
        | false =>
          have e : chkTx (h, I, O) = 3 := by unfold chkTx; rw [if_neg e1, if_neg e3, if_pos hf]
          rw [e]
          have C := hide (heightFits_is h ai ao ni ci no co false (w.alloc (.cells #[.int .i64 h, .slice ai ni ci, .slice ao no co] 74)) (by rw [← hFit_eq h I O ni zi]; exact hf))
          clear e e1 e3 h1 h2 h3 zi zo hf
          go_enter Tryz.func92, Tryz.ntmps92
          go_wp2_with fail
          refine (unhide C).mono ?_
          rintro e w2 ⟨rfl, hb2⟩
          have HB2 := hide (bel_on (unhide HB) hb2)
          clear hb2
          go_wp2
          go_ret
          exact ⟨rfl, unhide HB2⟩
        | true =>
          have C := hide (heightFits_is h ai ao ni ci no co true (w.alloc (.cells #[.int .i64 h, .slice ai ni ci, .slice ao no co] 74)) (by rw [← hFit_eq h I O ni zi]; exact hf))
          have e4 : ¬ hFit (h, I, O) = false := by rw [hf]; decide
          by_cases h5 : chkIns [] I = 0
          · obtain ⟨z, hz⟩ : ∃ z, chkOutsAll O = z := ⟨_, rfl⟩
            have e : chkTx (h, I, O) = z := by
              unfold chkTx; rw [if_neg e1, if_neg e3, if_neg e4, if_neg (by intro q; exact q h5)]; exact hz
            rw [e]
            have H5 := hide h5
            have HZ := hide hz
            have H6i : Hid (ni ≤ 6) := by show _ ≤ _; omega
            have H6o : Hid (no ≤ 6 ∧ 0 < no) := ⟨by omega, by omega⟩
            clear e e1 e3 e4 h1 h2 h3 zi zo hf h5 hz
            go_enter Tryz.func92, Tryz.ntmps92
            go_wp2_with fail
            refine (unhide C).mono ?_
            rintro e w2 ⟨rfl, hb2⟩
            have m1 := cell_later hb2 (unhide N1)
            have M2 := hide (cell_later hb2 (unhide N2))
            have hs2 : w.heap.size < w2.heap.size := World.block_lt_of_cell? _ _ m1
            have CI := hide (checkIns_is ai ni ci I 0 w2 (unhide H6i) (unhide HS) ((unhide HI).later hb2) (unhide H5))
            have HB2 := hide hb2
            clear hb2
            go_wp2_with fail
            refine (unhide CI).mono ?_
            rintro e w3 ⟨rfl, hb3⟩
            have m2 := cell_later hb3 (unhide M2)
            have hs3 : w.heap.size < w3.heap.size := World.block_lt_of_cell? _ _ m2
            have CO := hide (checkOuts_is ao no co O z w3 (unhide H6o).1 (unhide H6o).2 (((unhide HO).later (unhide HB2)).later hb3) (unhide HZ))
            have HB3 := hide (bel_on (bel_on (unhide HB) (unhide HB2)) hb3)
            clear hb3 m1 hs2
            go_wp2_with fail
            refine (unhide CO).mono ?_
            rintro e w4 ⟨rfl, hb4⟩
            have HB4 := hide (bel_on (unhide HB3) hb4)
            clear hb4
            go_wp2
            go_ret
            exact ⟨rfl, unhide HB4⟩
          · obtain ⟨z, hz⟩ : ∃ z, chkIns [] I = z := ⟨_, rfl⟩
            have e : chkTx (h, I, O) = z := by
              unfold chkTx; rw [if_neg e1, if_neg e3, if_neg e4, if_pos h5]; exact hz
            rw [e]
            have HZ := hide hz
            rw [hz] at h5
            have gz : (z != 0) = true := by simp [h5]
            have H6i : Hid (ni ≤ 6) := by show _ ≤ _; omega
            clear e e1 e3 e4 h1 h2 h3 zi zo hf h5 hz
            go_enter Tryz.func92, Tryz.ntmps92
            go_wp2_with fail
            refine (unhide C).mono ?_
            rintro e w2 ⟨rfl, hb2⟩
            have m1 := cell_later hb2 (unhide N1)
            have hs2 : w.heap.size < w2.heap.size := World.block_lt_of_cell? _ _ m1
            have CI := hide (checkIns_is ai ni ci I z w2 (unhide H6i) (unhide HS) ((unhide HI).later hb2) (unhide HZ))
            have HB2 := hide hb2
            clear hb2
            go_wp2_with fail
            refine (unhide CI).mono ?_
            rintro e w3 ⟨rfl, hb3⟩
            have HB3 := hide (bel_on (bel_on (unhide HB) (unhide HB2)) hb3)
            clear hb3
            go_wp2
            go_ret
            exact ⟨rfl, unhide HB3⟩

end Go.Proofs.YtepmnpapdknocaaGreatDoor
