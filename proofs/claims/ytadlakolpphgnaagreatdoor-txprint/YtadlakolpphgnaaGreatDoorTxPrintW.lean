/- The walk of the law TxPrint: it returns true, whatever the two transactions. -/
import Derived.Test.YtadlakolpphgnaaGreatDoorRefTxText
import Derived.Test.YtadlakolpphgnaaGreatDoorRefSameU
import Derived.Test.YtadlakolpphgnaaGreatDoorRefCheckB
import Derived.Test.YtadlakolpphgnaaGreatDoorTxWritten
import Derived.Test.YtadlakolpphgnaaGreatDoorTxSameB
namespace Go.Proofs.YtadlakolpphgnaaGreatDoor
open Go.RowKit

set_option maxRecDepth 10000 in
set_option maxHeartbeats 6400000 in
theorem tp_bad (h h' : Int) (ai ao bi bo : Option Addr) (ni ci no co mi di mo eo : Nat) (I I' : List InD) (O O' : List OutD) (x : Int) (w : World) (hE : EnvF w)
    (hI : InsAt w ai ni I) (hO : OutsAt w ao no O) (sI : SlOk ai ni ci) (sO : SlOk ao no co)
    (hI' : InsAt w bi mi I') (hO' : OutsAt w bo mo O') (hx : chkTx (h, I, O) = x) (h0 : x ≠ 0) :
    Calls Tryz.prog 3 #[.agg #[.int .i64 h, .slice ai ni ci, .slice ao no co], .agg #[.int .i64 h', .slice bi mi di, .slice bo mo eo]] w fun e w' => e = .returned (.bool true) ∧ Below w.heap.size w w' := by
  obtain ⟨W, hW⟩ : ∃ W, W = (w.alloc (.cells #[.int .i64 h, .slice ai ni ci, .slice ao no co] 25)).alloc (.cells #[.int .i64 h', .slice bi mi di, .slice bo mo eo] 25) := ⟨_, rfl⟩
  have hb1 := bel_new w (.cells #[.int .i64 h, .slice ai ni ci, .slice ao no co] 25)
  have hb2 := bel_new (w.alloc (.cells #[.int .i64 h, .slice ai ni ci, .slice ao no co] 25)) (.cells #[.int .i64 h', .slice bi mi di, .slice bo mo eo] 25)
  have hbW : Below w.heap.size w W := by rw [hW]; exact bel_on hb1 hb2
  have eW : (w.alloc (.cells #[.int .i64 h, .slice ai ni ci, .slice ao no co] 25)).heap.size = w.heap.size + 1 := by simp
  have c1 := three_new w (.int .i64 h) (.slice ai ni ci) (.slice ao no co) 25
  have c2 := three_new (w.alloc (.cells #[.int .i64 h, .slice ai ni ci, .slice ao no co] 25)) (.int .i64 h') (.slice bi mi di) (.slice bo mo eo) 25
  rw [eW] at c2
  have CT : Hid (W.cell? ⟨w.heap.size, 0, none⟩ = some (.int .i64 h) ∧ W.cell? ⟨w.heap.size, 1, none⟩ = some (.slice ai ni ci) ∧ W.cell? ⟨w.heap.size, 2, none⟩ = some (.slice ao no co)) := by
    rw [hW]; exact ⟨cell_later hb2 c1.1, cell_later hb2 c1.2.1, cell_later hb2 c1.2.2⟩
  have CU : Hid (W.cell? ⟨w.heap.size + 1, 0, none⟩ = some (.int .i64 h') ∧ W.cell? ⟨w.heap.size + 1, 1, none⟩ = some (.slice bi mi di) ∧ W.cell? ⟨w.heap.size + 1, 2, none⟩ = some (.slice bo mo eo)) := by
    rw [hW]; exact c2
  obtain ⟨T, hT⟩ : ∃ T, txT (h, I, O) = T := ⟨_, rfl⟩
  obtain ⟨o, ho⟩ : ∃ o, sameT (h, I, O) (h', I', O') = o := ⟨_, rfl⟩
  have PA := hide (txPrint_is h ai ao ni ci no co I O T x W (hE.later hbW).envp.env (hI.later hbW) (hO.later hbW) sI hx hT)
  have RC : Hid (∀ w', Below W.heap.size W w' → Calls Tryz.prog 6 #[.agg #[.int .i64 h, .slice ai ni ci, .slice ao no co]] w' fun e w'' => e = .returned (.int .i64 x) ∧ Below w'.heap.size w' w'') := fun w' hb => by
    have := rcheckTx_any h ai ao ni ci no co I O w' ((hI.later hbW).later hb) ((hO.later hbW).later hb)
    rw [hx] at this; exact this
  have CK : Hid (∀ w', Below W.heap.size W w' → Calls Tryz.prog 8 #[.agg #[.int .i64 h, .slice ai ni ci, .slice ao no co]] w' fun e w'' => e = .returned (.int .i64 x) ∧ Below w'.heap.size w' w'') := fun w' hb => by
    have := txCheck_any h ai ao ni ci no co I O w' ((hI.later hbW).later hb) ((hO.later hbW).later hb) sI
    rw [hx] at this; exact this
  have SM : Hid (∀ w', Below W.heap.size W w' → Calls Tryz.prog 9 #[.agg #[.int .i64 h, .slice ai ni ci, .slice ao no co], .agg #[.int .i64 h', .slice bi mi di, .slice bo mo eo]] w' fun e w'' => e = .returned (.bool o) ∧ Below w'.heap.size w' w'') := fun w' hb =>
    txSame_is h h' ai ao bi bo ni ci no co mi di mo eo I I' O O' o w' sI.len sO.len ((hI.later hbW).later hb) ((hO.later hbW).later hb) ((hI'.later hbW).later hb) ((hO'.later hbW).later hb) ho
  have RS : Hid (∀ w', Below W.heap.size W w' → Calls Tryz.prog 10 #[.agg #[.int .i64 h, .slice ai ni ci, .slice ao no co], .agg #[.int .i64 h', .slice bi mi di, .slice bo mo eo]] w' fun e w'' => e = .returned (.bool o) ∧ Below w'.heap.size w' w'') := fun w' hb =>
    rsameTx_is h h' ai ao bi bo ni ci no co mi di mo eo I I' O O' o w' sI.len sO.len ((hI.later hbW).later hb) ((hO.later hbW).later hb) ((hI'.later hbW).later hb) ((hO'.later hbW).later hb) ho
  have WR : Hid (∀ w', Below W.heap.size W w' → Calls Tryz.prog 7 #[] w' fun e w'' => e = .returned (.bool true) ∧ Below w'.heap.size w' w'') := fun w' hb =>
    written_yes w' ((hE.later hbW).later hb).envp
  have HBW := hide hbW
  have gx1 : (x != x) = false := by simp
  have gx2 : (x == x) = true := by simp
  have go1 : (o != o) = false := by simp
  have go2 : (o == o) = true := by simp
  have gx : (x != 0) = true := by simp [h0]
  have eT : T = ⟨#[]⟩ := by rw [← hT]; unfold txT; rw [if_neg (by rw [hx]; exact h0)]
  subst eT

  clear hE hI hO sI sO hI' hO' hx hT ho hb1 hb2 hbW c1 c2 eW
  go_enter Tryz.func3, Tryz.ntmps3
  go_wp2_with fail
  rw [← hW]
  refine (unhide PA).mono ?_
  rintro e w1 ⟨rfl, hb1⟩
  have m0 := cell_later hb1 (unhide CT).1
  have m1 := cell_later hb1 (unhide CT).2.1
  have m2 := cell_later hb1 (unhide CT).2.2
  have hs1 : w.heap.size < w1.heap.size := World.block_lt_of_cell? _ _ m0
  have HB1 := hide hb1
  clear hb1 hW
  go_wp2_with fail
  refine ((unhide RC) w1 (unhide HB1)).mono ?_
  rintro e w2 ⟨rfl, hb2⟩
  have hbb : Below W.heap.size W w2 := bel_on (unhide HB1) hb2
  have p0 := cell_later hbb (unhide CU).1
  have p1 := cell_later hbb (unhide CU).2.1
  have p2 := cell_later hbb (unhide CU).2.2
  have q0 := cell_later hbb (unhide CT).1
  have q1 := cell_later hbb (unhide CT).2.1
  have q2 := cell_later hbb (unhide CT).2.2
  clear hb2 m0 m1 m2
  go_wp2_with fail
  go_region_held3 (fun w' => Below W.heap.size W w' ∧ w'.cell? ⟨w.heap.size + 1, 0, none⟩ = some (.int .i64 h') ∧ w'.cell? ⟨w.heap.size + 1, 1, none⟩ = some (.slice bi mi di) ∧ w'.cell? ⟨w.heap.size + 1, 2, none⟩ = some (.slice bo mo eo) ∧ w'.cell? ⟨w.heap.size, 0, none⟩ = some (.int .i64 h) ∧ w'.cell? ⟨w.heap.size, 1, none⟩ = some (.slice ai ni ci) ∧ w'.cell? ⟨w.heap.size, 2, none⟩ = some (.slice ao no co))
    (first
      | exact ⟨bel_on hbb (bel_draws _), p0, p1, p2, q0, q1, q2⟩
      | (go_split_ands
         refine ⟨bel_on (by assumption) hbc, cell_later hbc (by assumption), cell_later hbc (by assumption), cell_later hbc (by assumption), cell_later hbc (by assumption), cell_later hbc (by assumption), cell_later hbc (by assumption)⟩))
    (first
      | (go_at_call 7; go_split_ands; refine ((unhide WR) _ (by first | assumption | exact bel_on hbb (bel_draws _))).mono ?_; rintro e w' ⟨rfl, hbc⟩)
      | (go_at_call 8; go_split_ands; refine ((unhide CK) _ (by first | assumption | exact bel_on hbb (bel_draws _))).mono ?_; rintro e w' ⟨rfl, hbc⟩)
      | (go_at_call 9; go_split_ands; refine ((unhide SM) _ (by first | assumption | exact bel_on hbb (bel_draws _))).mono ?_; rintro e w' ⟨rfl, hbc⟩)
      | (go_at_call 10; go_split_ands; refine ((unhide RS) _ (by first | assumption | exact bel_on hbb (bel_draws _))).mono ?_; rintro e w' ⟨rfl, hbc⟩))
  rename_i hH
  have hbb3 := hH.1
  have p0 := cell_later hbb3 (unhide CU).1
  have p1 := cell_later hbb3 (unhide CU).2.1
  have p2 := cell_later hbb3 (unhide CU).2.2
  have q0 := cell_later hbb3 (unhide CT).1
  have q1 := cell_later hbb3 (unhide CT).2.1
  have q2 := cell_later hbb3 (unhide CT).2.2
  have hbb := hbb3
  have hs5 := World.block_lt_of_cell? _ _ q0
  have hs6 := World.block_lt_of_cell? _ _ p0
  clear hH
  go_wp2_with fail
  go_region_held3 (fun w' => Below W.heap.size W w' ∧ w'.cell? ⟨w.heap.size + 1, 0, none⟩ = some (.int .i64 h') ∧ w'.cell? ⟨w.heap.size + 1, 1, none⟩ = some (.slice bi mi di) ∧ w'.cell? ⟨w.heap.size + 1, 2, none⟩ = some (.slice bo mo eo) ∧ w'.cell? ⟨w.heap.size, 0, none⟩ = some (.int .i64 h) ∧ w'.cell? ⟨w.heap.size, 1, none⟩ = some (.slice ai ni ci) ∧ w'.cell? ⟨w.heap.size, 2, none⟩ = some (.slice ao no co))
    (first
      | exact ⟨bel_on hbb (bel_draws _), p0, p1, p2, q0, q1, q2⟩
      | (go_split_ands
         refine ⟨bel_on (by assumption) hbc, cell_later hbc (by assumption), cell_later hbc (by assumption), cell_later hbc (by assumption), cell_later hbc (by assumption), cell_later hbc (by assumption), cell_later hbc (by assumption)⟩))
    (first
      | (go_at_call 7; go_split_ands; refine ((unhide WR) _ (by first | assumption | exact bel_on hbb (bel_draws _))).mono ?_; rintro e w' ⟨rfl, hbc⟩)
      | (go_at_call 8; go_split_ands; refine ((unhide CK) _ (by first | assumption | exact bel_on hbb (bel_draws _))).mono ?_; rintro e w' ⟨rfl, hbc⟩)
      | (go_at_call 9; go_split_ands; refine ((unhide SM) _ (by first | assumption | exact bel_on hbb (bel_draws _))).mono ?_; rintro e w' ⟨rfl, hbc⟩)
      | (go_at_call 10; go_split_ands; refine ((unhide RS) _ (by first | assumption | exact bel_on hbb (bel_draws _))).mono ?_; rintro e w' ⟨rfl, hbc⟩))
  rename_i hH
  have HH := hide hH.1
  clear hH
  go_wp2
  go_ret
  exact ⟨rfl, bel_on (unhide HBW) (unhide HH)⟩

set_option maxRecDepth 10000 in
set_option maxHeartbeats 6400000 in
theorem tp_ok (h h' : Int) (ai ao bi bo : Option Addr) (ni ci no co mi di mo eo : Nat) (I I' : List InD) (O O' : List OutD) (x : Int) (w : World) (hE : EnvF w)
    (hI : InsAt w ai ni I) (hO : OutsAt w ao no O) (sI : SlOk ai ni ci) (sO : SlOk ao no co)
    (hI' : InsAt w bi mi I') (hO' : OutsAt w bo mo O') (hx : chkTx (h, I, O) = x) (h0 : x = 0) :
    Calls Tryz.prog 3 #[.agg #[.int .i64 h, .slice ai ni ci, .slice ao no co], .agg #[.int .i64 h', .slice bi mi di, .slice bo mo eo]] w fun e w' => e = .returned (.bool true) ∧ Below w.heap.size w w' := by
  obtain ⟨W, hW⟩ : ∃ W, W = (w.alloc (.cells #[.int .i64 h, .slice ai ni ci, .slice ao no co] 25)).alloc (.cells #[.int .i64 h', .slice bi mi di, .slice bo mo eo] 25) := ⟨_, rfl⟩
  have hb1 := bel_new w (.cells #[.int .i64 h, .slice ai ni ci, .slice ao no co] 25)
  have hb2 := bel_new (w.alloc (.cells #[.int .i64 h, .slice ai ni ci, .slice ao no co] 25)) (.cells #[.int .i64 h', .slice bi mi di, .slice bo mo eo] 25)
  have hbW : Below w.heap.size w W := by rw [hW]; exact bel_on hb1 hb2
  have eW : (w.alloc (.cells #[.int .i64 h, .slice ai ni ci, .slice ao no co] 25)).heap.size = w.heap.size + 1 := by simp
  have c1 := three_new w (.int .i64 h) (.slice ai ni ci) (.slice ao no co) 25
  have c2 := three_new (w.alloc (.cells #[.int .i64 h, .slice ai ni ci, .slice ao no co] 25)) (.int .i64 h') (.slice bi mi di) (.slice bo mo eo) 25
  rw [eW] at c2
  have CT : Hid (W.cell? ⟨w.heap.size, 0, none⟩ = some (.int .i64 h) ∧ W.cell? ⟨w.heap.size, 1, none⟩ = some (.slice ai ni ci) ∧ W.cell? ⟨w.heap.size, 2, none⟩ = some (.slice ao no co)) := by
    rw [hW]; exact ⟨cell_later hb2 c1.1, cell_later hb2 c1.2.1, cell_later hb2 c1.2.2⟩
  have CU : Hid (W.cell? ⟨w.heap.size + 1, 0, none⟩ = some (.int .i64 h') ∧ W.cell? ⟨w.heap.size + 1, 1, none⟩ = some (.slice bi mi di) ∧ W.cell? ⟨w.heap.size + 1, 2, none⟩ = some (.slice bo mo eo)) := by
    rw [hW]; exact c2
  obtain ⟨T, hT⟩ : ∃ T, txT (h, I, O) = T := ⟨_, rfl⟩
  obtain ⟨o, ho⟩ : ∃ o, sameT (h, I, O) (h', I', O') = o := ⟨_, rfl⟩
  have PA := hide (txPrint_is h ai ao ni ci no co I O T x W (hE.later hbW).envp.env (hI.later hbW) (hO.later hbW) sI hx hT)
  have RC : Hid (∀ w', Below W.heap.size W w' → Calls Tryz.prog 6 #[.agg #[.int .i64 h, .slice ai ni ci, .slice ao no co]] w' fun e w'' => e = .returned (.int .i64 x) ∧ Below w'.heap.size w' w'') := fun w' hb => by
    have := rcheckTx_any h ai ao ni ci no co I O w' ((hI.later hbW).later hb) ((hO.later hbW).later hb)
    rw [hx] at this; exact this
  have CK : Hid (∀ w', Below W.heap.size W w' → Calls Tryz.prog 8 #[.agg #[.int .i64 h, .slice ai ni ci, .slice ao no co]] w' fun e w'' => e = .returned (.int .i64 x) ∧ Below w'.heap.size w' w'') := fun w' hb => by
    have := txCheck_any h ai ao ni ci no co I O w' ((hI.later hbW).later hb) ((hO.later hbW).later hb) sI
    rw [hx] at this; exact this
  have SM : Hid (∀ w', Below W.heap.size W w' → Calls Tryz.prog 9 #[.agg #[.int .i64 h, .slice ai ni ci, .slice ao no co], .agg #[.int .i64 h', .slice bi mi di, .slice bo mo eo]] w' fun e w'' => e = .returned (.bool o) ∧ Below w'.heap.size w' w'') := fun w' hb =>
    txSame_is h h' ai ao bi bo ni ci no co mi di mo eo I I' O O' o w' sI.len sO.len ((hI.later hbW).later hb) ((hO.later hbW).later hb) ((hI'.later hbW).later hb) ((hO'.later hbW).later hb) ho
  have RS : Hid (∀ w', Below W.heap.size W w' → Calls Tryz.prog 10 #[.agg #[.int .i64 h, .slice ai ni ci, .slice ao no co], .agg #[.int .i64 h', .slice bi mi di, .slice bo mo eo]] w' fun e w'' => e = .returned (.bool o) ∧ Below w'.heap.size w' w'') := fun w' hb =>
    rsameTx_is h h' ai ao bi bo ni ci no co mi di mo eo I I' O O' o w' sI.len sO.len ((hI.later hbW).later hb) ((hO.later hbW).later hb) ((hI'.later hbW).later hb) ((hO'.later hbW).later hb) ho
  have WR : Hid (∀ w', Below W.heap.size W w' → Calls Tryz.prog 7 #[] w' fun e w'' => e = .returned (.bool true) ∧ Below w'.heap.size w' w'') := fun w' hb =>
    written_yes w' ((hE.later hbW).later hb).envp
  have HBW := hide hbW
  have gx1 : (x != x) = false := by simp
  have gx2 : (x == x) = true := by simp
  have go1 : (o != o) = false := by simp
  have go2 : (o == o) = true := by simp
  subst h0
  have eT : T = txText (h, I, O) := by rw [← hT]; unfold txT; rw [if_pos hx]
  have TT : Hid (∀ w', Below W.heap.size W w' → Calls Tryz.prog 11 #[.agg #[.int .i64 h, .slice ai ni ci, .slice ao no co]] w' fun e w'' => e = .returned (.string T) ∧ Below w'.heap.size w' w'') := fun w' hb => by
    have := txText_is h ai ao ni ci no co I O w' ((hE.later hbW).later hb) ((hI.later hbW).later hb) ((hO.later hbW).later hb) hx
    rw [← eT] at this; exact this
  have gT : (T.toList == T.toList) = true := by simp
  clear eT

  clear hE hI hO sI sO hI' hO' hx hT ho hb1 hb2 hbW c1 c2 eW
  go_enter Tryz.func3, Tryz.ntmps3
  go_wp2_with fail
  rw [← hW]
  refine (unhide PA).mono ?_
  rintro e w1 ⟨rfl, hb1⟩
  have m0 := cell_later hb1 (unhide CT).1
  have m1 := cell_later hb1 (unhide CT).2.1
  have m2 := cell_later hb1 (unhide CT).2.2
  have hs1 : w.heap.size < w1.heap.size := World.block_lt_of_cell? _ _ m0
  have HB1 := hide hb1
  clear hb1 hW
  go_wp2_with fail
  refine ((unhide RC) w1 (unhide HB1)).mono ?_
  rintro e w2 ⟨rfl, hb2⟩
  have hbb : Below W.heap.size W w2 := bel_on (unhide HB1) hb2
  have p0 := cell_later hbb (unhide CU).1
  have p1 := cell_later hbb (unhide CU).2.1
  have p2 := cell_later hbb (unhide CU).2.2
  have q0 := cell_later hbb (unhide CT).1
  have q1 := cell_later hbb (unhide CT).2.1
  have q2 := cell_later hbb (unhide CT).2.2
  clear hb2 m0 m1 m2
  go_wp2_with fail
  go_region_held3 (fun w' => Below W.heap.size W w' ∧ w'.cell? ⟨w.heap.size + 1, 0, none⟩ = some (.int .i64 h') ∧ w'.cell? ⟨w.heap.size + 1, 1, none⟩ = some (.slice bi mi di) ∧ w'.cell? ⟨w.heap.size + 1, 2, none⟩ = some (.slice bo mo eo) ∧ w'.cell? ⟨w.heap.size, 0, none⟩ = some (.int .i64 h) ∧ w'.cell? ⟨w.heap.size, 1, none⟩ = some (.slice ai ni ci) ∧ w'.cell? ⟨w.heap.size, 2, none⟩ = some (.slice ao no co))
    (first
      | exact ⟨bel_on hbb (bel_draws _), p0, p1, p2, q0, q1, q2⟩
      | (go_split_ands
         refine ⟨bel_on (by assumption) hbc, cell_later hbc (by assumption), cell_later hbc (by assumption), cell_later hbc (by assumption), cell_later hbc (by assumption), cell_later hbc (by assumption), cell_later hbc (by assumption)⟩))
    (first
      | (go_at_call 7; go_split_ands; refine ((unhide WR) _ (by first | assumption | exact bel_on hbb (bel_draws _))).mono ?_; rintro e w' ⟨rfl, hbc⟩)
      | (go_at_call 8; go_split_ands; refine ((unhide CK) _ (by first | assumption | exact bel_on hbb (bel_draws _))).mono ?_; rintro e w' ⟨rfl, hbc⟩)
      | (go_at_call 9; go_split_ands; refine ((unhide SM) _ (by first | assumption | exact bel_on hbb (bel_draws _))).mono ?_; rintro e w' ⟨rfl, hbc⟩)
      | (go_at_call 10; go_split_ands; refine ((unhide RS) _ (by first | assumption | exact bel_on hbb (bel_draws _))).mono ?_; rintro e w' ⟨rfl, hbc⟩))
  rename_i hH
  have hbb3 := hH.1
  have p0 := cell_later hbb3 (unhide CU).1
  have p1 := cell_later hbb3 (unhide CU).2.1
  have p2 := cell_later hbb3 (unhide CU).2.2
  have q0 := cell_later hbb3 (unhide CT).1
  have q1 := cell_later hbb3 (unhide CT).2.1
  have q2 := cell_later hbb3 (unhide CT).2.2
  have hbb := hbb3
  have hs5 := World.block_lt_of_cell? _ _ q0
  have hs6 := World.block_lt_of_cell? _ _ p0
  clear hH
  go_wp2_with fail
  refine ((unhide TT) _ hbb).mono ?_
  rintro e w4 ⟨rfl, hb4⟩
  have HH := hide (bel_on hbb hb4)
  clear hb4
  go_wp2
  go_ret
  exact ⟨rfl, bel_on (unhide HBW) (unhide HH)⟩

theorem txPrint_law (h h' : Int) (ai ao bi bo : Option Addr) (ni ci no co mi di mo eo : Nat) (I I' : List InD) (O O' : List OutD) (w : World) (hE : EnvF w)
    (hI : InsAt w ai ni I) (hO : OutsAt w ao no O) (sI : SlOk ai ni ci) (sO : SlOk ao no co)
    (hI' : InsAt w bi mi I') (hO' : OutsAt w bo mo O') :
    Calls Tryz.prog 3 #[.agg #[.int .i64 h, .slice ai ni ci, .slice ao no co], .agg #[.int .i64 h', .slice bi mi di, .slice bo mo eo]] w fun e w' => e = .returned (.bool true) ∧ Below w.heap.size w w' := by
  by_cases h0 : chkTx (h, I, O) = 0
  · exact tp_ok h h' ai ao bi bo ni ci no co mi di mo eo I I' O O' 0 w hE hI hO sI sO hI' hO' h0 rfl
  · exact tp_bad h h' ai ao bi bo ni ci no co mi di mo eo I I' O O' _ w hE hI hO sI sO hI' hO' rfl h0

end Go.Proofs.YtadlakolpphgnaaGreatDoor
