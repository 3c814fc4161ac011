/- The walk of the law TxBack: it returns true, whatever the transaction and the text. -/
import Derived.Test.YtadlakolpphgnaaDoorTxBackO
import Derived.Test.YtadlakolpphgnaaDoorTxWritten
import Derived.Test.YtadlakolpphgnaaDoorTxSameB
namespace Go.Proofs.YtadlakolpphgnaaDoor
open Go.RowKit

theorem back_parse (t : TxD) (hx : chkTx t = 0) (hs : (txT t).size ≤ 4000) : pE (txT t) = 0 ∧ pT (txT t) = t := by
  have e : txT t = txText t := by unfold txT; rw [if_pos hx]
  have hb := tx_back t hx
  rw [← e] at hb
  have h1 : pE (txT t) = 0 := by unfold pE; rw [if_neg (by omega), hb]; exact hx
  exact ⟨h1, by unfold pT; rw [if_pos h1, hb]; rfl⟩
theorem back_print (s : ByteArray) (h : pE s = 0) : chkTx (pT s) = 0 ∧ txT (pT s) = s := by
  have e : pT s = (linesTx s).getD (0, [], []) := by unfold pT; rw [if_pos h]
  unfold pE at h
  split at h
  · cases h
  · cases hl : linesTx s with
    | none => rw [hl] at h; cases h
    | some t =>
      rw [hl] at h e
      change chkTx t = 0 at h
      have e2 : pT s = t := e
      rw [e2]
      exact ⟨h, by unfold txT; rw [if_pos h]; exact tx_text s t hl⟩


set_option maxRecDepth 10000 in
set_option maxHeartbeats 3200000 in
theorem tb_good_ok (h : Int) (ai ao : Option Addr) (ni ci no co : Nat) (I : List InD) (O : List OutD) (s : ByteArray) (w : World) (hE : EnvP w) (hI : InsAt w ai ni I) (hO : OutsAt w ao no O) (sI : SlOk ai ni ci) (sO : SlOk ao no co) (hx : chkTx (h, I, O) = 0) (ht : (txT (h, I, O)).size ≤ 4000) (hp : pE s = 0) :
    Calls Tryd.prog 3 #[.agg #[.int .i64 h, .slice ai ni ci, .slice ao no co], .string s] w fun e w' => e = .returned (.bool true) ∧ Below w.heap.size w w' := by
  have BP := hide (back_parse (h, I, O) hx ht)
  have hb := bel_new w (.cells #[.int .i64 h, .slice ai ni ci, .slice ao no co] 25)
  obtain ⟨n0, n1, n2⟩ := three_new w (.int .i64 h) (.slice ai ni ci) (.slice ao no co) 25
  obtain ⟨T, hT⟩ : ∃ T, txT (h, I, O) = T := ⟨_, rfl⟩
  obtain ⟨x, hxe⟩ : ∃ x, chkTx (h, I, O) = x := ⟨_, rfl⟩
  have PR := hide (txPrint_is h ai ao ni ci no co I O T x _ (hE.later hb).env (hI.later hb) (hO.later hb) sI hxe hT)
  rw [hxe] at hx
  have HB := hide hb
  have N0 := hide n0
  have N1 := hide n1
  have N2 := hide n2
  have HE := hide hE
  have HI := hide (hI.later hb)
  have HO := hide (hO.later hb)
  have LI := hide sI.len
  have LO := hide sO.len
  subst hx
  rw [hT] at ht BP
  have gt : (T.size : Int) ≤ 4000 := by omega
  have PS : Hid (∀ w, EnvP w → Calls Tryd.prog 6 #[.string s] w fun e w' => TxIs w.heap.size w' e (pT s) (pE s) ∧ Below w.heap.size w w') := fun w hw => txParse_any s w hw
  have BB := hide (back_print s hp)
  rw [hp] at PS
  obtain ⟨t2, ht2⟩ : ∃ t2, pT s = t2 := ⟨_, rfl⟩
  rw [ht2] at PS BB
  obtain ⟨h2, I2, O2⟩ := t2
  clear hp ht2
  clear hb hE hI hO sI sO n0 n1 n2 hT ht
  go_enter Tryd.func3, Tryd.ntmps3
  go_wp2_with fail
  refine (unhide PR).mono ?_
  rintro e w1 ⟨rfl, hb1⟩
  have HB1 := hide hb1
  have HW1 := hide (bel_on (unhide HB) hb1)
  clear hb1
  go_wp2_with fail
  refine (txParse_any T w1 ((unhide HE).later (unhide HW1))).mono ?_
  rw [(unhide BP).1, (unhide BP).2]
  rintro e w2 ⟨he, hb2⟩
  obtain ⟨v1, v2, rfl, hown⟩ := he
  obtain ⟨bi, di, bo, eo, rfl, rfl, hI2, hO2, _, _⟩ := hown.at
  have ba := bel_new w2 (.cells #[.int .i64 h, .slice bi I.length di, .slice bo O.length eo] 25)
  have hb2a := bel_on (unhide HB1) hb2
  have m0 := cell_later hb2a (unhide N0)
  have m1 := cell_later hb2a (unhide N1)
  have m2 := cell_later hb2a (unhide N2)
  have hs2 : w.heap.size < w2.heap.size := World.block_lt_of_cell? _ _ m0
  have SM := hide (txSame_is h h ai ao bi bo ni ci no co I.length di O.length eo I I O O true (w2.alloc (.cells #[.int .i64 h, .slice bi I.length di, .slice bo O.length eo] 25)) (unhide LI) (unhide LO) ((unhide HI).later (bel_on hb2a ba)) ((unhide HO).later (bel_on hb2a ba)) (hI2.later ba) (hO2.later ba) (sameT_self _))
  have HW2 := hide (bel_on (bel_on (unhide HB) hb2a) ba)
  clear hb2 hb2a hown hI2 hO2 ba
  go_wp2_with fail
  refine (unhide SM).mono ?_
  rintro e w3 ⟨rfl, hb3⟩
  have HW3 := hide (bel_on (unhide HW2) hb3)
  clear hb3 m0 m1 m2 hs2
  go_wp2_with fail
  refine ((unhide PS) w3 ((unhide HE).later (unhide HW3))).mono ?_
  rintro e w4 ⟨he, hb4⟩
  obtain ⟨u1, u2, rfl, hown⟩ := he
  obtain ⟨pi, qi, po, qo, rfl, rfl, hI4, hO4, sI4, _⟩ := hown.at
  simp only at hI4 hO4 sI4 ⊢
  have ba := bel_new w4 (.cells #[.int .i64 h2, .slice pi I2.length qi, .slice po O2.length qo] 25)
  obtain ⟨k0, k1, k2⟩ := three_new w4 (.int .i64 h2) (.slice pi I2.length qi) (.slice po O2.length qo) 25
  have HW4 := hide (bel_on (bel_on (unhide HW3) hb4) ba)
  have HI4 := hide (hI4.later ba)
  have HO4 := hide (hO4.later ba)
  have HS4 := hide sI4
  have K0 := hide k0
  have K1 := hide k1
  have K2 := hide k2
  clear hb4 hown hI4 hO4 sI4 ba k0 k1 k2
  go_wp2_with fail
  refine (written_yes _ ((unhide HE).later (unhide HW4))).mono ?_
  rintro e w5 ⟨rfl, hb5⟩
  have m0 := cell_later hb5 (unhide K0)
  have m1 := cell_later hb5 (unhide K1)
  have m2 := cell_later hb5 (unhide K2)
  have hs5 : w4.heap.size < w5.heap.size := World.block_lt_of_cell? _ _ m0
  have HW5 := hide (bel_on (unhide HW4) hb5)
  have P2 := hide (txPrint_is h2 pi po I2.length qi O2.length qo I2 O2 s 0 w5 ((unhide HE).later (unhide HW5)).env ((unhide HI4).later hb5) ((unhide HO4).later hb5) (unhide HS4) (unhide BB).1 (unhide BB).2)
  clear hb5
  go_wp2_with fail
  refine (unhide P2).mono ?_
  rintro e w6 ⟨rfl, hb6⟩
  have HW6 := hide (bel_on (unhide HW5) hb6)
  clear hb6
  have gs : (s.toList == s.toList) = true := by simp
  go_wp2
  go_ret
  exact ⟨rfl, unhide HW6⟩

set_option maxRecDepth 10000 in
set_option maxHeartbeats 3200000 in
theorem tb_good_no (h : Int) (ai ao : Option Addr) (ni ci no co : Nat) (I : List InD) (O : List OutD) (s : ByteArray) (w : World) (hE : EnvP w) (hI : InsAt w ai ni I) (hO : OutsAt w ao no O) (sI : SlOk ai ni ci) (sO : SlOk ao no co) (hx : chkTx (h, I, O) = 0) (ht : (txT (h, I, O)).size ≤ 4000) (hp : pE s ≠ 0) :
    Calls Tryd.prog 3 #[.agg #[.int .i64 h, .slice ai ni ci, .slice ao no co], .string s] w fun e w' => e = .returned (.bool true) ∧ Below w.heap.size w w' := by
  have BP := hide (back_parse (h, I, O) hx ht)
  have hb := bel_new w (.cells #[.int .i64 h, .slice ai ni ci, .slice ao no co] 25)
  obtain ⟨n0, n1, n2⟩ := three_new w (.int .i64 h) (.slice ai ni ci) (.slice ao no co) 25
  obtain ⟨T, hT⟩ : ∃ T, txT (h, I, O) = T := ⟨_, rfl⟩
  obtain ⟨x, hxe⟩ : ∃ x, chkTx (h, I, O) = x := ⟨_, rfl⟩
  have PR := hide (txPrint_is h ai ao ni ci no co I O T x _ (hE.later hb).env (hI.later hb) (hO.later hb) sI hxe hT)
  rw [hxe] at hx
  have HB := hide hb
  have N0 := hide n0
  have N1 := hide n1
  have N2 := hide n2
  have HE := hide hE
  have HI := hide (hI.later hb)
  have HO := hide (hO.later hb)
  have LI := hide sI.len
  have LO := hide sO.len
  subst hx
  rw [hT] at ht BP
  have gt : (T.size : Int) ≤ 4000 := by omega
  have PS : Hid (∀ w, EnvP w → Calls Tryd.prog 6 #[.string s] w fun e w' => TxIs w.heap.size w' e (pT s) (pE s) ∧ Below w.heap.size w w') := fun w hw => txParse_any s w hw
  obtain ⟨f, hf⟩ : ∃ f, pE s = f := ⟨_, rfl⟩
  rw [hf] at PS hp
  have gf : (f != 0) = true := by simp [hp]
  obtain ⟨t2, ht2⟩ : ∃ t2, pT s = t2 := ⟨_, rfl⟩
  rw [ht2] at PS
  obtain ⟨h2, I2, O2⟩ := t2
  clear hp ht2 hf
  clear hb hE hI hO sI sO n0 n1 n2 hT ht
  go_enter Tryd.func3, Tryd.ntmps3
  go_wp2_with fail
  refine (unhide PR).mono ?_
  rintro e w1 ⟨rfl, hb1⟩
  have HB1 := hide hb1
  have HW1 := hide (bel_on (unhide HB) hb1)
  clear hb1
  go_wp2_with fail
  refine (txParse_any T w1 ((unhide HE).later (unhide HW1))).mono ?_
  rw [(unhide BP).1, (unhide BP).2]
  rintro e w2 ⟨he, hb2⟩
  obtain ⟨v1, v2, rfl, hown⟩ := he
  obtain ⟨bi, di, bo, eo, rfl, rfl, hI2, hO2, _, _⟩ := hown.at
  have ba := bel_new w2 (.cells #[.int .i64 h, .slice bi I.length di, .slice bo O.length eo] 25)
  have hb2a := bel_on (unhide HB1) hb2
  have m0 := cell_later hb2a (unhide N0)
  have m1 := cell_later hb2a (unhide N1)
  have m2 := cell_later hb2a (unhide N2)
  have hs2 : w.heap.size < w2.heap.size := World.block_lt_of_cell? _ _ m0
  have SM := hide (txSame_is h h ai ao bi bo ni ci no co I.length di O.length eo I I O O true (w2.alloc (.cells #[.int .i64 h, .slice bi I.length di, .slice bo O.length eo] 25)) (unhide LI) (unhide LO) ((unhide HI).later (bel_on hb2a ba)) ((unhide HO).later (bel_on hb2a ba)) (hI2.later ba) (hO2.later ba) (sameT_self _))
  have HW2 := hide (bel_on (bel_on (unhide HB) hb2a) ba)
  clear hb2 hb2a hown hI2 hO2 ba
  go_wp2_with fail
  refine (unhide SM).mono ?_
  rintro e w3 ⟨rfl, hb3⟩
  have HW3 := hide (bel_on (unhide HW2) hb3)
  clear hb3 m0 m1 m2 hs2
  go_wp2_with fail
  refine ((unhide PS) w3 ((unhide HE).later (unhide HW3))).mono ?_
  rintro e w4 ⟨he, hb4⟩
  obtain ⟨u1, u2, rfl, hown⟩ := he
  obtain ⟨pi, qi, po, qo, rfl, rfl, hI4, hO4, sI4, _⟩ := hown.at
  simp only at hI4 hO4 sI4 ⊢
  have ba := bel_new w4 (.cells #[.int .i64 h2, .slice pi I2.length qi, .slice po O2.length qo] 25)
  obtain ⟨k0, k1, k2⟩ := three_new w4 (.int .i64 h2) (.slice pi I2.length qi) (.slice po O2.length qo) 25
  have HW4 := hide (bel_on (bel_on (unhide HW3) hb4) ba)
  have HI4 := hide (hI4.later ba)
  have HO4 := hide (hO4.later ba)
  have HS4 := hide sI4
  have K0 := hide k0
  have K1 := hide k1
  have K2 := hide k2
  clear hb4 hown hI4 hO4 sI4 ba k0 k1 k2
  go_wp2_with fail
  refine (written_yes _ ((unhide HE).later (unhide HW4))).mono ?_
  rintro e w5 ⟨rfl, hb5⟩
  have HW5 := hide (bel_on (unhide HW4) hb5)
  clear hb5
  go_wp2_with fail
  refine (written_yes _ ((unhide HE).later (unhide HW5))).mono ?_
  rintro e w6 ⟨rfl, hb6⟩
  have HW6 := hide (bel_on (unhide HW5) hb6)
  clear hb6
  go_wp2
  go_ret
  exact ⟨rfl, unhide HW6⟩

set_option maxRecDepth 10000 in
set_option maxHeartbeats 3200000 in
theorem tb_long_ok (h : Int) (ai ao : Option Addr) (ni ci no co : Nat) (I : List InD) (O : List OutD) (s : ByteArray) (w : World) (hE : EnvP w) (hI : InsAt w ai ni I) (hO : OutsAt w ao no O) (sI : SlOk ai ni ci) (sO : SlOk ao no co) (hx : chkTx (h, I, O) = 0) (ht : 4000 < (txT (h, I, O)).size) (hp : pE s = 0) :
    Calls Tryd.prog 3 #[.agg #[.int .i64 h, .slice ai ni ci, .slice ao no co], .string s] w fun e w' => e = .returned (.bool true) ∧ Below w.heap.size w w' := by
  have hb := bel_new w (.cells #[.int .i64 h, .slice ai ni ci, .slice ao no co] 25)
  obtain ⟨n0, n1, n2⟩ := three_new w (.int .i64 h) (.slice ai ni ci) (.slice ao no co) 25
  obtain ⟨T, hT⟩ : ∃ T, txT (h, I, O) = T := ⟨_, rfl⟩
  obtain ⟨x, hxe⟩ : ∃ x, chkTx (h, I, O) = x := ⟨_, rfl⟩
  have PR := hide (txPrint_is h ai ao ni ci no co I O T x _ (hE.later hb).env (hI.later hb) (hO.later hb) sI hxe hT)
  rw [hxe] at hx
  have HB := hide hb
  have N0 := hide n0
  have N1 := hide n1
  have N2 := hide n2
  have HE := hide hE
  have HI := hide (hI.later hb)
  have HO := hide (hO.later hb)
  have LI := hide sI.len
  have LO := hide sO.len
  subst hx
  rw [hT] at ht
  have gt : ¬ (T.size : Int) ≤ 4000 := by omega
  have PS : Hid (∀ w, EnvP w → Calls Tryd.prog 6 #[.string s] w fun e w' => TxIs w.heap.size w' e (pT s) (pE s) ∧ Below w.heap.size w w') := fun w hw => txParse_any s w hw
  have BB := hide (back_print s hp)
  rw [hp] at PS
  obtain ⟨t2, ht2⟩ : ∃ t2, pT s = t2 := ⟨_, rfl⟩
  rw [ht2] at PS BB
  obtain ⟨h2, I2, O2⟩ := t2
  clear hp ht2
  clear hb hE hI hO sI sO n0 n1 n2 hT ht
  go_enter Tryd.func3, Tryd.ntmps3
  go_wp2_with fail
  refine (unhide PR).mono ?_
  rintro e w1 ⟨rfl, hb1⟩
  have HB1 := hide hb1
  have HW1 := hide (bel_on (unhide HB) hb1)
  clear hb1
  go_wp2_with fail
  refine ((unhide PS) w1 ((unhide HE).later (unhide HW1))).mono ?_
  rintro e w4 ⟨he, hb4⟩
  obtain ⟨u1, u2, rfl, hown⟩ := he
  obtain ⟨pi, qi, po, qo, rfl, rfl, hI4, hO4, sI4, _⟩ := hown.at
  simp only at hI4 hO4 sI4 ⊢
  have ba := bel_new w4 (.cells #[.int .i64 h2, .slice pi I2.length qi, .slice po O2.length qo] 25)
  obtain ⟨k0, k1, k2⟩ := three_new w4 (.int .i64 h2) (.slice pi I2.length qi) (.slice po O2.length qo) 25
  have HW4 := hide (bel_on (bel_on (unhide HW1) hb4) ba)
  have HI4 := hide (hI4.later ba)
  have HO4 := hide (hO4.later ba)
  have HS4 := hide sI4
  have K0 := hide k0
  have K1 := hide k1
  have K2 := hide k2
  clear hb4 hown hI4 hO4 sI4 ba k0 k1 k2
  go_wp2_with fail
  refine (written_yes _ ((unhide HE).later (unhide HW4))).mono ?_
  rintro e w5 ⟨rfl, hb5⟩
  have m0 := cell_later hb5 (unhide K0)
  have m1 := cell_later hb5 (unhide K1)
  have m2 := cell_later hb5 (unhide K2)
  have hs5 : w4.heap.size < w5.heap.size := World.block_lt_of_cell? _ _ m0
  have HW5 := hide (bel_on (unhide HW4) hb5)
  have P2 := hide (txPrint_is h2 pi po I2.length qi O2.length qo I2 O2 s 0 w5 ((unhide HE).later (unhide HW5)).env ((unhide HI4).later hb5) ((unhide HO4).later hb5) (unhide HS4) (unhide BB).1 (unhide BB).2)
  clear hb5
  go_wp2_with fail
  refine (unhide P2).mono ?_
  rintro e w6 ⟨rfl, hb6⟩
  have HW6 := hide (bel_on (unhide HW5) hb6)
  clear hb6
  have gs : (s.toList == s.toList) = true := by simp
  go_wp2
  go_ret
  exact ⟨rfl, unhide HW6⟩

set_option maxRecDepth 10000 in
set_option maxHeartbeats 3200000 in
theorem tb_long_no (h : Int) (ai ao : Option Addr) (ni ci no co : Nat) (I : List InD) (O : List OutD) (s : ByteArray) (w : World) (hE : EnvP w) (hI : InsAt w ai ni I) (hO : OutsAt w ao no O) (sI : SlOk ai ni ci) (sO : SlOk ao no co) (hx : chkTx (h, I, O) = 0) (ht : 4000 < (txT (h, I, O)).size) (hp : pE s ≠ 0) :
    Calls Tryd.prog 3 #[.agg #[.int .i64 h, .slice ai ni ci, .slice ao no co], .string s] w fun e w' => e = .returned (.bool true) ∧ Below w.heap.size w w' := by
  have hb := bel_new w (.cells #[.int .i64 h, .slice ai ni ci, .slice ao no co] 25)
  obtain ⟨n0, n1, n2⟩ := three_new w (.int .i64 h) (.slice ai ni ci) (.slice ao no co) 25
  obtain ⟨T, hT⟩ : ∃ T, txT (h, I, O) = T := ⟨_, rfl⟩
  obtain ⟨x, hxe⟩ : ∃ x, chkTx (h, I, O) = x := ⟨_, rfl⟩
  have PR := hide (txPrint_is h ai ao ni ci no co I O T x _ (hE.later hb).env (hI.later hb) (hO.later hb) sI hxe hT)
  rw [hxe] at hx
  have HB := hide hb
  have N0 := hide n0
  have N1 := hide n1
  have N2 := hide n2
  have HE := hide hE
  have HI := hide (hI.later hb)
  have HO := hide (hO.later hb)
  have LI := hide sI.len
  have LO := hide sO.len
  subst hx
  rw [hT] at ht
  have gt : ¬ (T.size : Int) ≤ 4000 := by omega
  have PS : Hid (∀ w, EnvP w → Calls Tryd.prog 6 #[.string s] w fun e w' => TxIs w.heap.size w' e (pT s) (pE s) ∧ Below w.heap.size w w') := fun w hw => txParse_any s w hw
  obtain ⟨f, hf⟩ : ∃ f, pE s = f := ⟨_, rfl⟩
  rw [hf] at PS hp
  have gf : (f != 0) = true := by simp [hp]
  obtain ⟨t2, ht2⟩ : ∃ t2, pT s = t2 := ⟨_, rfl⟩
  rw [ht2] at PS
  obtain ⟨h2, I2, O2⟩ := t2
  clear hp ht2 hf
  clear hb hE hI hO sI sO n0 n1 n2 hT ht
  go_enter Tryd.func3, Tryd.ntmps3
  go_wp2_with fail
  refine (unhide PR).mono ?_
  rintro e w1 ⟨rfl, hb1⟩
  have HB1 := hide hb1
  have HW1 := hide (bel_on (unhide HB) hb1)
  clear hb1
  go_wp2_with fail
  refine ((unhide PS) w1 ((unhide HE).later (unhide HW1))).mono ?_
  rintro e w4 ⟨he, hb4⟩
  obtain ⟨u1, u2, rfl, hown⟩ := he
  obtain ⟨pi, qi, po, qo, rfl, rfl, hI4, hO4, sI4, _⟩ := hown.at
  simp only at hI4 hO4 sI4 ⊢
  have ba := bel_new w4 (.cells #[.int .i64 h2, .slice pi I2.length qi, .slice po O2.length qo] 25)
  obtain ⟨k0, k1, k2⟩ := three_new w4 (.int .i64 h2) (.slice pi I2.length qi) (.slice po O2.length qo) 25
  have HW4 := hide (bel_on (bel_on (unhide HW1) hb4) ba)
  have HI4 := hide (hI4.later ba)
  have HO4 := hide (hO4.later ba)
  have HS4 := hide sI4
  have K0 := hide k0
  have K1 := hide k1
  have K2 := hide k2
  clear hb4 hown hI4 hO4 sI4 ba k0 k1 k2
  go_wp2_with fail
  refine (written_yes _ ((unhide HE).later (unhide HW4))).mono ?_
  rintro e w5 ⟨rfl, hb5⟩
  have HW5 := hide (bel_on (unhide HW4) hb5)
  clear hb5
  go_wp2_with fail
  refine (written_yes _ ((unhide HE).later (unhide HW5))).mono ?_
  rintro e w6 ⟨rfl, hb6⟩
  have HW6 := hide (bel_on (unhide HW5) hb6)
  clear hb6
  go_wp2
  go_ret
  exact ⟨rfl, unhide HW6⟩

set_option maxRecDepth 10000 in
set_option maxHeartbeats 3200000 in
theorem tb_bad_ok (h : Int) (ai ao : Option Addr) (ni ci no co : Nat) (I : List InD) (O : List OutD) (s : ByteArray) (w : World) (hE : EnvP w) (hI : InsAt w ai ni I) (hO : OutsAt w ao no O) (sI : SlOk ai ni ci) (sO : SlOk ao no co) (hx : chkTx (h, I, O) ≠ 0) (hp : pE s = 0) :
    Calls Tryd.prog 3 #[.agg #[.int .i64 h, .slice ai ni ci, .slice ao no co], .string s] w fun e w' => e = .returned (.bool true) ∧ Below w.heap.size w w' := by
  have hb := bel_new w (.cells #[.int .i64 h, .slice ai ni ci, .slice ao no co] 25)
  obtain ⟨n0, n1, n2⟩ := three_new w (.int .i64 h) (.slice ai ni ci) (.slice ao no co) 25
  obtain ⟨T, hT⟩ : ∃ T, txT (h, I, O) = T := ⟨_, rfl⟩
  obtain ⟨x, hxe⟩ : ∃ x, chkTx (h, I, O) = x := ⟨_, rfl⟩
  have PR := hide (txPrint_is h ai ao ni ci no co I O T x _ (hE.later hb).env (hI.later hb) (hO.later hb) sI hxe hT)
  rw [hxe] at hx
  have HB := hide hb
  have N0 := hide n0
  have N1 := hide n1
  have N2 := hide n2
  have HE := hide hE
  have HI := hide (hI.later hb)
  have HO := hide (hO.later hb)
  have LI := hide sI.len
  have LO := hide sO.len
  have gx : (x == 0) = false := by simp [hx]
  have PS : Hid (∀ w, EnvP w → Calls Tryd.prog 6 #[.string s] w fun e w' => TxIs w.heap.size w' e (pT s) (pE s) ∧ Below w.heap.size w w') := fun w hw => txParse_any s w hw
  have BB := hide (back_print s hp)
  rw [hp] at PS
  obtain ⟨t2, ht2⟩ : ∃ t2, pT s = t2 := ⟨_, rfl⟩
  rw [ht2] at PS BB
  obtain ⟨h2, I2, O2⟩ := t2
  clear hp ht2
  clear hb hE hI hO sI sO n0 n1 n2 hT hx
  go_enter Tryd.func3, Tryd.ntmps3
  go_wp2_with fail
  refine (unhide PR).mono ?_
  rintro e w1 ⟨rfl, hb1⟩
  have HB1 := hide hb1
  have HW1 := hide (bel_on (unhide HB) hb1)
  clear hb1
  go_wp2_with fail
  refine ((unhide PS) w1 ((unhide HE).later (unhide HW1))).mono ?_
  rintro e w4 ⟨he, hb4⟩
  obtain ⟨u1, u2, rfl, hown⟩ := he
  obtain ⟨pi, qi, po, qo, rfl, rfl, hI4, hO4, sI4, _⟩ := hown.at
  simp only at hI4 hO4 sI4 ⊢
  have ba := bel_new w4 (.cells #[.int .i64 h2, .slice pi I2.length qi, .slice po O2.length qo] 25)
  obtain ⟨k0, k1, k2⟩ := three_new w4 (.int .i64 h2) (.slice pi I2.length qi) (.slice po O2.length qo) 25
  have HW4 := hide (bel_on (bel_on (unhide HW1) hb4) ba)
  have HI4 := hide (hI4.later ba)
  have HO4 := hide (hO4.later ba)
  have HS4 := hide sI4
  have K0 := hide k0
  have K1 := hide k1
  have K2 := hide k2
  clear hb4 hown hI4 hO4 sI4 ba k0 k1 k2
  go_wp2_with fail
  refine (written_yes _ ((unhide HE).later (unhide HW4))).mono ?_
  rintro e w5 ⟨rfl, hb5⟩
  have m0 := cell_later hb5 (unhide K0)
  have m1 := cell_later hb5 (unhide K1)
  have m2 := cell_later hb5 (unhide K2)
  have hs5 : w4.heap.size < w5.heap.size := World.block_lt_of_cell? _ _ m0
  have HW5 := hide (bel_on (unhide HW4) hb5)
  have P2 := hide (txPrint_is h2 pi po I2.length qi O2.length qo I2 O2 s 0 w5 ((unhide HE).later (unhide HW5)).env ((unhide HI4).later hb5) ((unhide HO4).later hb5) (unhide HS4) (unhide BB).1 (unhide BB).2)
  clear hb5
  go_wp2_with fail
  refine (unhide P2).mono ?_
  rintro e w6 ⟨rfl, hb6⟩
  have HW6 := hide (bel_on (unhide HW5) hb6)
  clear hb6
  have gs : (s.toList == s.toList) = true := by simp
  go_wp2
  go_ret
  exact ⟨rfl, unhide HW6⟩

set_option maxRecDepth 10000 in
set_option maxHeartbeats 3200000 in
theorem tb_bad_no (h : Int) (ai ao : Option Addr) (ni ci no co : Nat) (I : List InD) (O : List OutD) (s : ByteArray) (w : World) (hE : EnvP w) (hI : InsAt w ai ni I) (hO : OutsAt w ao no O) (sI : SlOk ai ni ci) (sO : SlOk ao no co) (hx : chkTx (h, I, O) ≠ 0) (hp : pE s ≠ 0) :
    Calls Tryd.prog 3 #[.agg #[.int .i64 h, .slice ai ni ci, .slice ao no co], .string s] w fun e w' => e = .returned (.bool true) ∧ Below w.heap.size w w' := by
  have hb := bel_new w (.cells #[.int .i64 h, .slice ai ni ci, .slice ao no co] 25)
  obtain ⟨n0, n1, n2⟩ := three_new w (.int .i64 h) (.slice ai ni ci) (.slice ao no co) 25
  obtain ⟨T, hT⟩ : ∃ T, txT (h, I, O) = T := ⟨_, rfl⟩
  obtain ⟨x, hxe⟩ : ∃ x, chkTx (h, I, O) = x := ⟨_, rfl⟩
  have PR := hide (txPrint_is h ai ao ni ci no co I O T x _ (hE.later hb).env (hI.later hb) (hO.later hb) sI hxe hT)
  rw [hxe] at hx
  have HB := hide hb
  have N0 := hide n0
  have N1 := hide n1
  have N2 := hide n2
  have HE := hide hE
  have HI := hide (hI.later hb)
  have HO := hide (hO.later hb)
  have LI := hide sI.len
  have LO := hide sO.len
  have gx : (x == 0) = false := by simp [hx]
  have PS : Hid (∀ w, EnvP w → Calls Tryd.prog 6 #[.string s] w fun e w' => TxIs w.heap.size w' e (pT s) (pE s) ∧ Below w.heap.size w w') := fun w hw => txParse_any s w hw
  obtain ⟨f, hf⟩ : ∃ f, pE s = f := ⟨_, rfl⟩
  rw [hf] at PS hp
  have gf : (f != 0) = true := by simp [hp]
  obtain ⟨t2, ht2⟩ : ∃ t2, pT s = t2 := ⟨_, rfl⟩
  rw [ht2] at PS
  obtain ⟨h2, I2, O2⟩ := t2
  clear hp ht2 hf
  clear hb hE hI hO sI sO n0 n1 n2 hT hx
  go_enter Tryd.func3, Tryd.ntmps3
  go_wp2_with fail
  refine (unhide PR).mono ?_
  rintro e w1 ⟨rfl, hb1⟩
  have HB1 := hide hb1
  have HW1 := hide (bel_on (unhide HB) hb1)
  clear hb1
  go_wp2_with fail
  refine ((unhide PS) w1 ((unhide HE).later (unhide HW1))).mono ?_
  rintro e w4 ⟨he, hb4⟩
  obtain ⟨u1, u2, rfl, hown⟩ := he
  obtain ⟨pi, qi, po, qo, rfl, rfl, hI4, hO4, sI4, _⟩ := hown.at
  simp only at hI4 hO4 sI4 ⊢
  have ba := bel_new w4 (.cells #[.int .i64 h2, .slice pi I2.length qi, .slice po O2.length qo] 25)
  obtain ⟨k0, k1, k2⟩ := three_new w4 (.int .i64 h2) (.slice pi I2.length qi) (.slice po O2.length qo) 25
  have HW4 := hide (bel_on (bel_on (unhide HW1) hb4) ba)
  have HI4 := hide (hI4.later ba)
  have HO4 := hide (hO4.later ba)
  have HS4 := hide sI4
  have K0 := hide k0
  have K1 := hide k1
  have K2 := hide k2
  clear hb4 hown hI4 hO4 sI4 ba k0 k1 k2
  go_wp2_with fail
  refine (written_yes _ ((unhide HE).later (unhide HW4))).mono ?_
  rintro e w5 ⟨rfl, hb5⟩
  have HW5 := hide (bel_on (unhide HW4) hb5)
  clear hb5
  go_wp2_with fail
  refine (written_yes _ ((unhide HE).later (unhide HW5))).mono ?_
  rintro e w6 ⟨rfl, hb6⟩
  have HW6 := hide (bel_on (unhide HW5) hb6)
  clear hb6
  go_wp2
  go_ret
  exact ⟨rfl, unhide HW6⟩

theorem txBack_any (h : Int) (ai ao : Option Addr) (ni ci no co : Nat) (I : List InD) (O : List OutD) (s : ByteArray) (w : World) (hE : EnvP w) (hI : InsAt w ai ni I) (hO : OutsAt w ao no O) (sI : SlOk ai ni ci) (sO : SlOk ao no co) :
    Calls Tryd.prog 3 #[.agg #[.int .i64 h, .slice ai ni ci, .slice ao no co], .string s] w fun e w' => e = .returned (.bool true) ∧ Below w.heap.size w w' := by
  by_cases hp : pE s = 0
  · by_cases hx : chkTx (h, I, O) = 0
    · by_cases ht : (txT (h, I, O)).size ≤ 4000
      · exact tb_good_ok h ai ao ni ci no co I O s w hE hI hO sI sO hx ht hp
      · exact tb_long_ok h ai ao ni ci no co I O s w hE hI hO sI sO hx (by omega) hp
    · exact tb_bad_ok h ai ao ni ci no co I O s w hE hI hO sI sO hx hp
  · by_cases hx : chkTx (h, I, O) = 0
    · by_cases ht : (txT (h, I, O)).size ≤ 4000
      · exact tb_good_no h ai ao ni ci no co I O s w hE hI hO sI sO hx ht hp
      · exact tb_long_no h ai ao ni ci no co I O s w hE hI hO sI sO hx (by omega) hp
    · exact tb_bad_no h ai ao ni ci no co I O s w hE hI hO sI sO hx hp

end Go.Proofs.YtadlakolpphgnaaDoor
