/- The walk of the law TxTexts: it returns true, whatever the two transactions. -/
import Derived.Test.YtadlakolpphgnaaDoorTxBackO
import Derived.Test.YtadlakolpphgnaaDoorTxWritten
import Derived.Test.YtadlakolpphgnaaDoorTxSameB
import Derived.Deep.RegionHeld3
namespace Go.Proofs.YtadlakolpphgnaaDoor
open Go.RowKit

/-- A transaction's value in a world. -/
def TxH (w : World) (v : Value) (t : TxD) : Prop := ∃ ai ci ao co, v = .agg #[.int .i64 t.1, .slice ai t.2.1.length ci, .slice ao t.2.2.length co] ∧ InsAt w ai t.2.1.length t.2.1 ∧ OutsAt w ao t.2.2.length t.2.2 ∧ t.2.1.length ≤ maxLen ∧ t.2.2.length ≤ maxLen

theorem same_any (v v' : Value) (t t' : TxD) (o : Bool) (w0 w' : World) (h1 : TxH w0 v t) (h2 : TxH w0 v' t') (hb : Below w0.heap.size w0 w') (ho : sameT t t' = o) :
    Calls Tryd.prog 7 #[v, v'] w' fun e w'' => e = .returned (.bool o) ∧ Below w'.heap.size w' w'' := by
  obtain ⟨ai, ci, ao, co, rfl, a1, a2, a3, a4⟩ := h1
  obtain ⟨bi, di, bo, eo, rfl, b1, b2, _, _⟩ := h2
  exact txSame_is t.1 t'.1 ai ao bi bo _ ci _ co _ di _ eo t.2.1 t'.2.1 t.2.2 t'.2.2 o w' a3 a4 (a1.later hb) (a2.later hb) (b1.later hb) (b2.later hb) ho

theorem bel_draw (w : World) : Below w.heap.size w w.drew := ⟨rfl, rfl, rfl, Nat.le_refl _, fun _ _ => rfl⟩

theorem texts_same (t u : TxD) (ht : chkTx t = 0) (hu : chkTx u = 0) : ((txT t).toList == (txT u).toList) = sameT t u := by
  have e1 : txT t = txText t := by unfold txT; rw [if_pos ht]
  have e2 : txT u = txText u := by unfold txT; rw [if_pos hu]
  rw [e1, e2, Bool.eq_iff_iff, sameT_iff, beq_iff_eq]
  exact ⟨fun h => tx_unlike t u ht hu (ba_list h), fun h => by rw [h]⟩

set_option maxRecDepth 10000 in
set_option maxHeartbeats 6400000 in
theorem tt_bad (h h' : Int) (ai ao bi bo : Option Addr) (ci co di eo : Nat) (I I' : List InD) (O O' : List OutD) (w : World) (hE : EnvP w)
    (hI : InsAt w ai I.length I) (hO : OutsAt w ao O.length O) (sI : SlOk ai I.length ci) (sO : SlOk ao O.length co)
    (hI' : InsAt w bi I'.length I') (hO' : OutsAt w bo O'.length O') (sI' : SlOk bi I'.length di) (sO' : SlOk bo O'.length eo) (hx : chkTx (h, I, O) ≠ 0) :
    Calls Tryd.prog 4 #[.agg #[.int .i64 h, .slice ai I.length ci, .slice ao O.length co], .agg #[.int .i64 h', .slice bi I'.length di, .slice bo O'.length eo]] w fun e w' => e = .returned (.bool true) ∧ Below w.heap.size w w' := by
  obtain ⟨W, hW⟩ : ∃ W, W = (w.alloc (.cells #[.int .i64 h, .slice ai I.length ci, .slice ao O.length co] 25)).alloc (.cells #[.int .i64 h', .slice bi I'.length di, .slice bo O'.length eo] 25) := ⟨_, rfl⟩
  have hb1 := bel_new w (.cells #[.int .i64 h, .slice ai I.length ci, .slice ao O.length co] 25)
  have hb2 := bel_new (w.alloc (.cells #[.int .i64 h, .slice ai I.length ci, .slice ao O.length co] 25)) (.cells #[.int .i64 h', .slice bi I'.length di, .slice bo O'.length eo] 25)
  have hbW : Below w.heap.size w W := by rw [hW]; exact bel_on hb1 hb2
  have eW : (w.alloc (.cells #[.int .i64 h, .slice ai I.length ci, .slice ao O.length co] 25)).heap.size = w.heap.size + 1 := by simp
  have c1 := three_new w (.int .i64 h) (.slice ai I.length ci) (.slice ao O.length co) 25
  have c2 := three_new (w.alloc (.cells #[.int .i64 h, .slice ai I.length ci, .slice ao O.length co] 25)) (.int .i64 h') (.slice bi I'.length di) (.slice bo O'.length eo) 25
  rw [eW] at c2
  have CT : Hid (W.cell? ⟨w.heap.size, 0, none⟩ = some (.int .i64 h) ∧ W.cell? ⟨w.heap.size, 1, none⟩ = some (.slice ai I.length ci) ∧ W.cell? ⟨w.heap.size, 2, none⟩ = some (.slice ao O.length co)) := by
    rw [hW]; exact ⟨cell_later hb2 c1.1, cell_later hb2 c1.2.1, cell_later hb2 c1.2.2⟩
  have CU : Hid (W.cell? ⟨w.heap.size + 1, 0, none⟩ = some (.int .i64 h') ∧ W.cell? ⟨w.heap.size + 1, 1, none⟩ = some (.slice bi I'.length di) ∧ W.cell? ⟨w.heap.size + 1, 2, none⟩ = some (.slice bo O'.length eo)) := by
    rw [hW]; exact c2
  obtain ⟨x, hxe⟩ : ∃ x, chkTx (h, I, O) = x := ⟨_, rfl⟩
  obtain ⟨y, hye⟩ : ∃ y, chkTx (h', I', O') = y := ⟨_, rfl⟩
  obtain ⟨Ta, hTa⟩ : ∃ Ta, txT (h, I, O) = Ta := ⟨_, rfl⟩
  obtain ⟨Tb, hTb⟩ : ∃ Tb, txT (h', I', O') = Tb := ⟨_, rfl⟩
  have PA := hide (txPrint_is h ai ao _ ci _ co I O Ta x W (hE.later hbW).env (hI.later hbW) (hO.later hbW) sI hxe hTa)
  have PB : Hid (∀ w', Below W.heap.size W w' → Calls Tryd.prog 5 #[.agg #[.int .i64 h', .slice bi I'.length di, .slice bo O'.length eo]] w' fun e w'' => e = .returned (.tuple #[.string Tb, .int .i64 y]) ∧ Below w'.heap.size w' w'') := fun w' hb =>
    txPrint_is h' bi bo _ di _ eo I' O' Tb y w' ((hE.later hbW).later hb).env ((hI'.later hbW).later hb) ((hO'.later hbW).later hb) sI' hye hTb
  have ht : TxH W (.agg #[.int .i64 h, .slice ai I.length ci, .slice ao O.length co]) (h, I, O) := ⟨ai, ci, ao, co, rfl, hI.later hbW, hO.later hbW, sI.len, sO.len⟩
  have hu : TxH W (.agg #[.int .i64 h', .slice bi I'.length di, .slice bo O'.length eo]) (h', I', O') := ⟨bi, di, bo, eo, rfl, hI'.later hbW, hO'.later hbW, sI'.len, sO'.len⟩
  have HEW := hide (hE.later hbW)
  have HBW := hide hbW
  rw [hxe] at hx
  have gx : (x != 0) = true := by simp [hx]
  have s1 : sameT (h, I, O) (h, I, O) = true := sameT_self _
  obtain ⟨o, s2⟩ : ∃ o, sameT (h, I, O) (h', I', O') = o := ⟨_, rfl⟩
  have s3 : sameT (h', I', O') (h, I, O) = o := by rw [sameT_comm]; exact s2
  clear hE hI hO sI sO hI' hO' sI' sO' hx hxe hye hTa hTb hb1 hb2 hbW c1 c2 eW
  go_enter Tryd.func4, Tryd.ntmps4
  go_wp2_with fail
  rw [← hW]
  refine (unhide PA).mono ?_
  rintro e w1 ⟨rfl, hb1⟩
  have m0 := cell_later hb1 (unhide CU).1
  have m1 := cell_later hb1 (unhide CU).2.1
  have m2 := cell_later hb1 (unhide CU).2.2
  have hs1 : w.heap.size + 1 < w1.heap.size := World.block_lt_of_cell? _ _ m0
  have HB1 := hide hb1
  clear hb1 hW
  go_wp2_with fail
  refine ((unhide PB) w1 (unhide HB1)).mono ?_
  rintro e w2 ⟨rfl, hb2⟩
  have hbb : Below W.heap.size W w2 := bel_on (unhide HB1) hb2
  have p0 := cell_later hbb (unhide CU).1
  have p1 := cell_later hbb (unhide CU).2.1
  have p2 := cell_later hbb (unhide CU).2.2
  have q0 := cell_later hbb (unhide CT).1
  have q1 := cell_later hbb (unhide CT).2.1
  have q2 := cell_later hbb (unhide CT).2.2
  clear hb2 m0 m1 m2
  go_wp2_with fail
  go_region_held3 (fun w' => Below W.heap.size W w' ∧ w'.cell? ⟨w.heap.size + 1, 0, none⟩ = some (.int .i64 h') ∧ w'.cell? ⟨w.heap.size + 1, 1, none⟩ = some (.slice bi I'.length di) ∧ w'.cell? ⟨w.heap.size + 1, 2, none⟩ = some (.slice bo O'.length eo) ∧ w'.cell? ⟨w.heap.size, 0, none⟩ = some (.int .i64 h) ∧ w'.cell? ⟨w.heap.size, 1, none⟩ = some (.slice ai I.length ci) ∧ w'.cell? ⟨w.heap.size, 2, none⟩ = some (.slice ao O.length co))
    (first
      | exact ⟨bel_on hbb (bel_draw _), p0, p1, p2, q0, q1, q2⟩
      | (go_split_ands
         refine ⟨bel_on (by assumption) hbc, cell_later hbc (by assumption), cell_later hbc (by assumption), cell_later hbc (by assumption), cell_later hbc (by assumption), cell_later hbc (by assumption), cell_later hbc (by assumption)⟩))
    (first
      | (go_at_call 8; go_split_ands; refine (written_yes _ ((unhide HEW).later (by first | assumption | exact bel_on hbb (bel_draw _)))).mono ?_; rintro e w' ⟨rfl, hbc⟩)
      | (go_at_call 7; go_split_ands; refine (same_any _ _ _ _ _ W _ (by assumption) (by assumption) (by first | assumption | exact bel_on hbb (bel_draw _)) (by assumption)).mono ?_; rintro e w' ⟨rfl, hbc⟩))
  rename_i hH
  have HH := hide hH
  clear hH
  go_wp2
  go_ret
  exact ⟨rfl, bel_on (unhide HBW) (unhide HH).1⟩

set_option maxRecDepth 10000 in
set_option maxHeartbeats 6400000 in
theorem tt_half (h h' : Int) (ai ao bi bo : Option Addr) (ci co di eo : Nat) (I I' : List InD) (O O' : List OutD) (w : World) (hE : EnvP w)
    (hI : InsAt w ai I.length I) (hO : OutsAt w ao O.length O) (sI : SlOk ai I.length ci) (sO : SlOk ao O.length co)
    (hI' : InsAt w bi I'.length I') (hO' : OutsAt w bo O'.length O') (sI' : SlOk bi I'.length di) (sO' : SlOk bo O'.length eo) (hx : chkTx (h, I, O) = 0) (hy : chkTx (h', I', O') ≠ 0) :
    Calls Tryd.prog 4 #[.agg #[.int .i64 h, .slice ai I.length ci, .slice ao O.length co], .agg #[.int .i64 h', .slice bi I'.length di, .slice bo O'.length eo]] w fun e w' => e = .returned (.bool true) ∧ Below w.heap.size w w' := by
  obtain ⟨W, hW⟩ : ∃ W, W = (w.alloc (.cells #[.int .i64 h, .slice ai I.length ci, .slice ao O.length co] 25)).alloc (.cells #[.int .i64 h', .slice bi I'.length di, .slice bo O'.length eo] 25) := ⟨_, rfl⟩
  have hb1 := bel_new w (.cells #[.int .i64 h, .slice ai I.length ci, .slice ao O.length co] 25)
  have hb2 := bel_new (w.alloc (.cells #[.int .i64 h, .slice ai I.length ci, .slice ao O.length co] 25)) (.cells #[.int .i64 h', .slice bi I'.length di, .slice bo O'.length eo] 25)
  have hbW : Below w.heap.size w W := by rw [hW]; exact bel_on hb1 hb2
  have eW : (w.alloc (.cells #[.int .i64 h, .slice ai I.length ci, .slice ao O.length co] 25)).heap.size = w.heap.size + 1 := by simp
  have c1 := three_new w (.int .i64 h) (.slice ai I.length ci) (.slice ao O.length co) 25
  have c2 := three_new (w.alloc (.cells #[.int .i64 h, .slice ai I.length ci, .slice ao O.length co] 25)) (.int .i64 h') (.slice bi I'.length di) (.slice bo O'.length eo) 25
  rw [eW] at c2
  have CT : Hid (W.cell? ⟨w.heap.size, 0, none⟩ = some (.int .i64 h) ∧ W.cell? ⟨w.heap.size, 1, none⟩ = some (.slice ai I.length ci) ∧ W.cell? ⟨w.heap.size, 2, none⟩ = some (.slice ao O.length co)) := by
    rw [hW]; exact ⟨cell_later hb2 c1.1, cell_later hb2 c1.2.1, cell_later hb2 c1.2.2⟩
  have CU : Hid (W.cell? ⟨w.heap.size + 1, 0, none⟩ = some (.int .i64 h') ∧ W.cell? ⟨w.heap.size + 1, 1, none⟩ = some (.slice bi I'.length di) ∧ W.cell? ⟨w.heap.size + 1, 2, none⟩ = some (.slice bo O'.length eo)) := by
    rw [hW]; exact c2
  obtain ⟨x, hxe⟩ : ∃ x, chkTx (h, I, O) = x := ⟨_, rfl⟩
  obtain ⟨y, hye⟩ : ∃ y, chkTx (h', I', O') = y := ⟨_, rfl⟩
  obtain ⟨Ta, hTa⟩ : ∃ Ta, txT (h, I, O) = Ta := ⟨_, rfl⟩
  obtain ⟨Tb, hTb⟩ : ∃ Tb, txT (h', I', O') = Tb := ⟨_, rfl⟩
  have PA := hide (txPrint_is h ai ao _ ci _ co I O Ta x W (hE.later hbW).env (hI.later hbW) (hO.later hbW) sI hxe hTa)
  have PB : Hid (∀ w', Below W.heap.size W w' → Calls Tryd.prog 5 #[.agg #[.int .i64 h', .slice bi I'.length di, .slice bo O'.length eo]] w' fun e w'' => e = .returned (.tuple #[.string Tb, .int .i64 y]) ∧ Below w'.heap.size w' w'') := fun w' hb =>
    txPrint_is h' bi bo _ di _ eo I' O' Tb y w' ((hE.later hbW).later hb).env ((hI'.later hbW).later hb) ((hO'.later hbW).later hb) sI' hye hTb
  have ht : TxH W (.agg #[.int .i64 h, .slice ai I.length ci, .slice ao O.length co]) (h, I, O) := ⟨ai, ci, ao, co, rfl, hI.later hbW, hO.later hbW, sI.len, sO.len⟩
  have hu : TxH W (.agg #[.int .i64 h', .slice bi I'.length di, .slice bo O'.length eo]) (h', I', O') := ⟨bi, di, bo, eo, rfl, hI'.later hbW, hO'.later hbW, sI'.len, sO'.len⟩
  have HEW := hide (hE.later hbW)
  have HBW := hide hbW
  rw [hxe] at hx
  rw [hye] at hy
  subst hx
  have gy : (y != 0) = true := by simp [hy]
  have s1 : sameT (h, I, O) (h, I, O) = true := sameT_self _
  obtain ⟨o, s2⟩ : ∃ o, sameT (h, I, O) (h', I', O') = o := ⟨_, rfl⟩
  have s3 : sameT (h', I', O') (h, I, O) = o := by rw [sameT_comm]; exact s2
  clear hE hI hO sI sO hI' hO' sI' sO' hy hxe hye hTa hTb hb1 hb2 hbW c1 c2 eW
  go_enter Tryd.func4, Tryd.ntmps4
  go_wp2_with fail
  rw [← hW]
  refine (unhide PA).mono ?_
  rintro e w1 ⟨rfl, hb1⟩
  have m0 := cell_later hb1 (unhide CU).1
  have m1 := cell_later hb1 (unhide CU).2.1
  have m2 := cell_later hb1 (unhide CU).2.2
  have hs1 : w.heap.size + 1 < w1.heap.size := World.block_lt_of_cell? _ _ m0
  have HB1 := hide hb1
  clear hb1 hW
  go_wp2_with fail
  refine ((unhide PB) w1 (unhide HB1)).mono ?_
  rintro e w2 ⟨rfl, hb2⟩
  have hbb : Below W.heap.size W w2 := bel_on (unhide HB1) hb2
  have p0 := cell_later hbb (unhide CU).1
  have p1 := cell_later hbb (unhide CU).2.1
  have p2 := cell_later hbb (unhide CU).2.2
  have q0 := cell_later hbb (unhide CT).1
  have q1 := cell_later hbb (unhide CT).2.1
  have q2 := cell_later hbb (unhide CT).2.2
  clear hb2 m0 m1 m2
  go_wp2_with fail
  go_region_held3 (fun w' => Below W.heap.size W w' ∧ w'.cell? ⟨w.heap.size + 1, 0, none⟩ = some (.int .i64 h') ∧ w'.cell? ⟨w.heap.size + 1, 1, none⟩ = some (.slice bi I'.length di) ∧ w'.cell? ⟨w.heap.size + 1, 2, none⟩ = some (.slice bo O'.length eo) ∧ w'.cell? ⟨w.heap.size, 0, none⟩ = some (.int .i64 h) ∧ w'.cell? ⟨w.heap.size, 1, none⟩ = some (.slice ai I.length ci) ∧ w'.cell? ⟨w.heap.size, 2, none⟩ = some (.slice ao O.length co))
    (first
      | exact ⟨bel_on hbb (bel_draw _), p0, p1, p2, q0, q1, q2⟩
      | (go_split_ands
         refine ⟨bel_on (by assumption) hbc, cell_later hbc (by assumption), cell_later hbc (by assumption), cell_later hbc (by assumption), cell_later hbc (by assumption), cell_later hbc (by assumption), cell_later hbc (by assumption)⟩))
    (first
      | (go_at_call 8; go_split_ands; refine (written_yes _ ((unhide HEW).later (by first | assumption | exact bel_on hbb (bel_draw _)))).mono ?_; rintro e w' ⟨rfl, hbc⟩)
      | (go_at_call 7; go_split_ands; refine (same_any _ _ _ _ _ W _ (by assumption) (by assumption) (by first | assumption | exact bel_on hbb (bel_draw _)) (by assumption)).mono ?_; rintro e w' ⟨rfl, hbc⟩))
  rename_i hH
  have HH := hide hH
  clear hH
  go_wp2
  go_ret
  exact ⟨rfl, bel_on (unhide HBW) (unhide HH).1⟩

set_option maxRecDepth 10000 in
set_option maxHeartbeats 6400000 in
theorem tt_good (h h' : Int) (ai ao bi bo : Option Addr) (ci co di eo : Nat) (I I' : List InD) (O O' : List OutD) (w : World) (hE : EnvP w)
    (hI : InsAt w ai I.length I) (hO : OutsAt w ao O.length O) (sI : SlOk ai I.length ci) (sO : SlOk ao O.length co)
    (hI' : InsAt w bi I'.length I') (hO' : OutsAt w bo O'.length O') (sI' : SlOk bi I'.length di) (sO' : SlOk bo O'.length eo) (hx : chkTx (h, I, O) = 0) (hy : chkTx (h', I', O') = 0) :
    Calls Tryd.prog 4 #[.agg #[.int .i64 h, .slice ai I.length ci, .slice ao O.length co], .agg #[.int .i64 h', .slice bi I'.length di, .slice bo O'.length eo]] w fun e w' => e = .returned (.bool true) ∧ Below w.heap.size w w' := by
  obtain ⟨W, hW⟩ : ∃ W, W = (w.alloc (.cells #[.int .i64 h, .slice ai I.length ci, .slice ao O.length co] 25)).alloc (.cells #[.int .i64 h', .slice bi I'.length di, .slice bo O'.length eo] 25) := ⟨_, rfl⟩
  have hb1 := bel_new w (.cells #[.int .i64 h, .slice ai I.length ci, .slice ao O.length co] 25)
  have hb2 := bel_new (w.alloc (.cells #[.int .i64 h, .slice ai I.length ci, .slice ao O.length co] 25)) (.cells #[.int .i64 h', .slice bi I'.length di, .slice bo O'.length eo] 25)
  have hbW : Below w.heap.size w W := by rw [hW]; exact bel_on hb1 hb2
  have eW : (w.alloc (.cells #[.int .i64 h, .slice ai I.length ci, .slice ao O.length co] 25)).heap.size = w.heap.size + 1 := by simp
  have c1 := three_new w (.int .i64 h) (.slice ai I.length ci) (.slice ao O.length co) 25
  have c2 := three_new (w.alloc (.cells #[.int .i64 h, .slice ai I.length ci, .slice ao O.length co] 25)) (.int .i64 h') (.slice bi I'.length di) (.slice bo O'.length eo) 25
  rw [eW] at c2
  have CT : Hid (W.cell? ⟨w.heap.size, 0, none⟩ = some (.int .i64 h) ∧ W.cell? ⟨w.heap.size, 1, none⟩ = some (.slice ai I.length ci) ∧ W.cell? ⟨w.heap.size, 2, none⟩ = some (.slice ao O.length co)) := by
    rw [hW]; exact ⟨cell_later hb2 c1.1, cell_later hb2 c1.2.1, cell_later hb2 c1.2.2⟩
  have CU : Hid (W.cell? ⟨w.heap.size + 1, 0, none⟩ = some (.int .i64 h') ∧ W.cell? ⟨w.heap.size + 1, 1, none⟩ = some (.slice bi I'.length di) ∧ W.cell? ⟨w.heap.size + 1, 2, none⟩ = some (.slice bo O'.length eo)) := by
    rw [hW]; exact c2
  obtain ⟨x, hxe⟩ : ∃ x, chkTx (h, I, O) = x := ⟨_, rfl⟩
  obtain ⟨y, hye⟩ : ∃ y, chkTx (h', I', O') = y := ⟨_, rfl⟩
  obtain ⟨Ta, hTa⟩ : ∃ Ta, txT (h, I, O) = Ta := ⟨_, rfl⟩
  obtain ⟨Tb, hTb⟩ : ∃ Tb, txT (h', I', O') = Tb := ⟨_, rfl⟩
  have PA := hide (txPrint_is h ai ao _ ci _ co I O Ta x W (hE.later hbW).env (hI.later hbW) (hO.later hbW) sI hxe hTa)
  have PB : Hid (∀ w', Below W.heap.size W w' → Calls Tryd.prog 5 #[.agg #[.int .i64 h', .slice bi I'.length di, .slice bo O'.length eo]] w' fun e w'' => e = .returned (.tuple #[.string Tb, .int .i64 y]) ∧ Below w'.heap.size w' w'') := fun w' hb =>
    txPrint_is h' bi bo _ di _ eo I' O' Tb y w' ((hE.later hbW).later hb).env ((hI'.later hbW).later hb) ((hO'.later hbW).later hb) sI' hye hTb
  have ht : TxH W (.agg #[.int .i64 h, .slice ai I.length ci, .slice ao O.length co]) (h, I, O) := ⟨ai, ci, ao, co, rfl, hI.later hbW, hO.later hbW, sI.len, sO.len⟩
  have hu : TxH W (.agg #[.int .i64 h', .slice bi I'.length di, .slice bo O'.length eo]) (h', I', O') := ⟨bi, di, bo, eo, rfl, hI'.later hbW, hO'.later hbW, sI'.len, sO'.len⟩
  have HEW := hide (hE.later hbW)
  have HBW := hide hbW
  have gT := texts_same (h, I, O) (h', I', O') hx hy
  rw [hTa, hTb] at gT
  rw [hxe] at hx
  rw [hye] at hy
  subst hx hy
  have s1 : sameT (h, I, O) (h, I, O) = true := sameT_self _
  obtain ⟨o, s2⟩ : ∃ o, sameT (h, I, O) (h', I', O') = o := ⟨_, rfl⟩
  have s3 : sameT (h', I', O') (h, I, O) = o := by rw [sameT_comm]; exact s2
  clear hE hI hO sI sO hI' hO' sI' sO' hxe hye hTa hTb hb1 hb2 hbW c1 c2 eW
  go_enter Tryd.func4, Tryd.ntmps4
  go_wp2_with fail
  rw [← hW]
  refine (unhide PA).mono ?_
  rintro e w1 ⟨rfl, hb1⟩
  have m0 := cell_later hb1 (unhide CU).1
  have m1 := cell_later hb1 (unhide CU).2.1
  have m2 := cell_later hb1 (unhide CU).2.2
  have hs1 : w.heap.size + 1 < w1.heap.size := World.block_lt_of_cell? _ _ m0
  have HB1 := hide hb1
  clear hb1 hW
  go_wp2_with fail
  refine ((unhide PB) w1 (unhide HB1)).mono ?_
  rintro e w2 ⟨rfl, hb2⟩
  have hbb : Below W.heap.size W w2 := bel_on (unhide HB1) hb2
  have p0 := cell_later hbb (unhide CU).1
  have p1 := cell_later hbb (unhide CU).2.1
  have p2 := cell_later hbb (unhide CU).2.2
  have q0 := cell_later hbb (unhide CT).1
  have q1 := cell_later hbb (unhide CT).2.1
  have q2 := cell_later hbb (unhide CT).2.2
  clear hb2 m0 m1 m2
  go_wp2_with fail
  go_region_held3 (fun w' => Below W.heap.size W w' ∧ w'.cell? ⟨w.heap.size + 1, 0, none⟩ = some (.int .i64 h') ∧ w'.cell? ⟨w.heap.size + 1, 1, none⟩ = some (.slice bi I'.length di) ∧ w'.cell? ⟨w.heap.size + 1, 2, none⟩ = some (.slice bo O'.length eo) ∧ w'.cell? ⟨w.heap.size, 0, none⟩ = some (.int .i64 h) ∧ w'.cell? ⟨w.heap.size, 1, none⟩ = some (.slice ai I.length ci) ∧ w'.cell? ⟨w.heap.size, 2, none⟩ = some (.slice ao O.length co))
    (first
      | exact ⟨bel_on hbb (bel_draw _), p0, p1, p2, q0, q1, q2⟩
      | (go_split_ands
         refine ⟨bel_on (by assumption) hbc, cell_later hbc (by assumption), cell_later hbc (by assumption), cell_later hbc (by assumption), cell_later hbc (by assumption), cell_later hbc (by assumption), cell_later hbc (by assumption)⟩))
    (first
      | (go_at_call 8; go_split_ands; refine (written_yes _ ((unhide HEW).later (by first | assumption | exact bel_on hbb (bel_draw _)))).mono ?_; rintro e w' ⟨rfl, hbc⟩)
      | (go_at_call 7; go_split_ands; refine (same_any _ _ _ _ _ W _ (by assumption) (by assumption) (by first | assumption | exact bel_on hbb (bel_draw _)) (by assumption)).mono ?_; rintro e w' ⟨rfl, hbc⟩))
  rename_i hH
  obtain ⟨hbz, z0, z1, z2, y0, y1, y2⟩ := hH
  rw [s2] at gT
  have HZ := hide hbz
  have lz : w.heap.size + 1 < w'.heap.size := World.block_lt_of_cell? _ _ z0
  have C4 := hide (same_any _ _ _ _ o W w' ht hu hbz s2)
  clear hbz
  go_wp2_with fail
  refine (unhide C4).mono ?_
  rintro e w9 ⟨rfl, hb9⟩
  have HB9 := hide (bel_on (unhide HZ) hb9)
  clear hb9
  cases o
  all_goals
    go_wp2
    go_ret
    exact ⟨rfl, bel_on (unhide HBW) (unhide HB9)⟩

theorem txTexts_any (h h' : Int) (ai ao bi bo : Option Addr) (ci co di eo : Nat) (I I' : List InD) (O O' : List OutD) (w : World) (hE : EnvP w)
    (hI : InsAt w ai I.length I) (hO : OutsAt w ao O.length O) (sI : SlOk ai I.length ci) (sO : SlOk ao O.length co)
    (hI' : InsAt w bi I'.length I') (hO' : OutsAt w bo O'.length O') (sI' : SlOk bi I'.length di) (sO' : SlOk bo O'.length eo) :
    Calls Tryd.prog 4 #[.agg #[.int .i64 h, .slice ai I.length ci, .slice ao O.length co], .agg #[.int .i64 h', .slice bi I'.length di, .slice bo O'.length eo]] w fun e w' => e = .returned (.bool true) ∧ Below w.heap.size w w' := by
  by_cases hx : chkTx (h, I, O) = 0
  · by_cases hy : chkTx (h', I', O') = 0
    · exact tt_good h h' ai ao bi bo ci co di eo I I' O O' w hE hI hO sI sO hI' hO' sI' sO' hx hy
    · exact tt_half h h' ai ao bi bo ci co di eo I I' O O' w hE hI hO sI sO hI' hO' sI' sO' hx hy
  · exact tt_bad h h' ai ao bi bo ci co di eo I I' O O' w hE hI hO sI sO hI' hO' sI' sO' hx

end Go.Proofs.YtadlakolpphgnaaDoor
