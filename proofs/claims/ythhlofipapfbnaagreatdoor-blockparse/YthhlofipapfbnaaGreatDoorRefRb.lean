/- The contract of the reference's ReadBlock (written by a program of ours: mkrb.py). -/
import Derived.Test.YthhlofipapfbnaaGreatDoorRefReadOToRefRtB
import Derived.Test.YthhlofipapfbnaaGreatDoorRefRtC
import Derived.Test.YthhlofipapfbnaaGreatDoorRefBlk
import Derived.Test.YthhlofipapfbnaaGreatDoorBlkParse
namespace Go.Proofs.YthhlofipapfbnaaGreatDoor
open Go.RowKit

theorem wordB_is {x y : ByteArray} (b : Bool) (h : decide (x = y) = b) : (x.toList == y.toList) = b := by
  subst h
  by_cases e : x = y
  · rw [decide_eq_true e, e]; simp
  · rw [decide_eq_false e]
    cases q : (x.toList == y.toList) with
    | false => rfl
    | true => exact absurd (ba_list (eq_of_beq q)) e
theorem block_list : blockB.toList = [98, 108, 111, 99, 107] := by rw [ByteArray.toList_eq]; rfl
theorem empty_app (x : ByteArray) : (⟨#[]⟩ : ByteArray) ++ x = x := by
  apply ba_ext
  simp [ByteArray.data_append]
theorem own_last {W : World} {base g n cap : Nat} {Q : List ByteArray} {a : ByteArray} (h : W.ownsRow base 9 1 (.slice (some ⟨g, 0, none⟩) (n + 1) cap) (n + 1) ((Q ++ [a]).map Value.string)) (hn : Q.length = n) : W.cell? ⟨g, n, none⟩ = some (.string a) ∧ g < W.heap.size ∧ W.frozen? ⟨g, n, none⟩ = false ∧ base ≤ g ∧ ∀ x, (W.setCell ⟨g, n, none⟩ (.string x)).ownsRow base 9 1 (.slice (some ⟨g, 0, none⟩) (n + 1) cap) (n + 1) ((Q ++ [x]).map Value.string) := by
  subst hn
  have hc := World.ownsRow.cellAt h Q.length (by simp)
  have hlt := h.lt g rfl
  refine ⟨hc.trans (by simp), hlt.2, ?_, hlt.1, fun x => ?_⟩
  · obtain ⟨_, ⟨e, _⟩ | ⟨g', cap', cur, e, _, hh, _⟩⟩ := h
    · cases e
    · cases e
      exact frozen_of hh _
  · have := (h.stored Q.length (.string x)).1
    simpa using this
theorem pcsF_small : ∀ (f : Nat) (s x : ByteArray), x ∈ pcsF f s → x.size ≤ s.size
  | 0, s, x, h => by simp [pcsF] at h
  | f + 1, s, x, h => by
    by_cases h0 : s.size = 0
    · rw [pcsF_none _ _ h0] at h; cases h
    · rw [pcsF_step f s (by omega)] at h
      rcases List.mem_cons.1 h with rfl | h
      · rw [ByteArray.size_extract]; omega
      · have := pcsF_small f _ x h
        rw [rest_size] at this
        omega
theorem readTx_all (s : ByteArray) (hs : s.size ≤ 4000) (w : World) (hE : EnvF w) :
    Calls Tryz.prog 56 #[.string s] w fun e w' => TxIs w.heap.size w' e (pT s) (pE s) ∧ Below w.heap.size w w' := by
  cases hn : endsB s with
  | false => exact readTx_open s hs hn w hE
  | true => exact readTx_ended s hs hn w hE
theorem getD_mem {α : Type} (l : List α) (d : α) (i : Nat) (h : i < l.length) : l.getD i d ∈ l := by
  rw [List.getD_eq_getElem?_getD, List.getElem?_eq_getElem h]
  exact List.getElem_mem h

set_option maxRecDepth 10000 in
set_option maxHeartbeats 12800000 in
theorem readBlock_is (s : ByteArray) (hs : s.size ≤ 4000) (w : World) (hE : EnvF w) (x : Int) (b : BlkD) (hx : prB s = (x, b)) :
    Calls Tryz.prog 15 #[.string s] w fun e w' => BlkIs w w' e x b := by
  obtain ⟨X, hX⟩ : ∃ X, X = w.alloc (.cells #[.int .i64 0, .int .i64 0, .int .i64 0, .int .i64 0, .slice none 0 0] 24) := ⟨_, rfl⟩
  have hbX : Below w.heap.size w X := by rw [hX]; exact bel_new _ _
  have hX0 : X.heap[w.heap.size]? = some (.cells [.int .i64 0, .int .i64 0, .int .i64 0, .int .i64 0, .slice none 0 0].toArray 24 (0, 0)) := by rw [hX]; exact five_heap _ _ _ _ _ _ _
  have hcl := cut_le s
  obtain ⟨hd, T, hsl, hbody, hglue⟩ := sla_is s
  obtain ⟨mx, hmx⟩ := Tryz.laysM146.s1_3 X (hE.later hbX).envp.shp
  have C1 := splitAfter_is s hs X mx hmx
  have hsm : ∀ y ∈ sla s, y.size ≤ 4000 := fun y hy => Nat.le_trans (sla_small _ s y (Nat.le_refl _) hy) hs
  have hln : (sla s).length ≤ 4001 := by rw [sla_len]; have := Lib.countB_le ⟨#[10]⟩ (Nat.le_refl 1) s.size s (Nat.le_refl _); omega
  rw [hsl] at C1 hsm hln
  obtain ⟨X1, hX1⟩ : ∃ X1, X1 = X.alloc (.cells ((hd :: T).map Value.string).toArray 9) := ⟨_, rfl⟩
  have hbX1 : Below X.heap.size X X1 := by rw [hX1]; exact bel_new _ _
  have hlc : ∀ j (h : j < (hd :: T).length), X1.cell? ⟨X.heap.size, j, none⟩ = some (.string ((hd :: T).getD j ⟨#[]⟩)) := fun j h => by rw [hX1]; exact strs_new X (hd :: T) j h
  have hX1s : X1.heap.size = X.heap.size + 1 := by rw [hX1]; simp
  rw [← hX1] at C1
  have C2 := trim_is hd (hsm hd (by simp)) X1
  rw [hbody] at C2
  obtain ⟨ws, hws⟩ : ∃ ws, spl 32 (cutN s) = ws := ⟨_, rfl⟩
  have C3 := split_at 32 (cutN s) (by omega) X1 (hE.later (bel_on hbX hbX1)).envp
  rw [hws] at C3
  obtain ⟨X2, hX2⟩ : ∃ X2, X2 = X1.alloc (.cells (ws.map Value.string).toArray 9) := ⟨_, rfl⟩
  have hbX2 : Below X1.heap.size X1 X2 := by rw [hX2]; exact bel_new _ _
  have hwc : ∀ j, j < ws.length → X2.cell? ⟨X1.heap.size, j, none⟩ = some (.string (ws.getD j ⟨#[]⟩)) := fun j h => by rw [hX2]; exact strs_new X1 ws j h
  rw [← hX2] at C3
  have hX2s : X2.heap.size = X1.heap.size + 1 := by rw [hX2]; simp
  have hpos : 0 < ws.length := by rw [← hws]; exact spl_pos 32 _
  have hwsm : ∀ y ∈ ws, y.size ≤ 4000 := fun y hy => by rw [← hws] at hy; exact Nat.le_trans (spl_small 32 _ y hy) (by omega)
  have hrow : rowOf (cutN s) blockB 4 = if ws.getD 0 ⟨#[]⟩ = blockB ∧ ws.length = 5 then numAll (ws.drop 1) else none := by unfold rowOf; rw [hws]
  unfold prB at hx
  rw [if_neg (by omega), hrow] at hx
  have HB2 := hide (bel_on (bel_on hbX hbX1) hbX2)
  have BR2 := hide (((bel_on hbX1 hbX2).block _ (lt_of_block hX0)).trans hX0)
  have HLC : Hid (∀ W, Below X2.heap.size X2 W → ∀ j (h : j < (hd :: T).length), W.cell? ⟨X.heap.size, j, none⟩ = some (.string ((hd :: T).getD j ⟨#[]⟩))) := fun W hb j h => cell_later hb (cell_later hbX2 (hlc j h))
  have HWC : Hid (∀ W, Below X2.heap.size X2 W → ∀ j, j < ws.length → W.cell? ⟨X1.heap.size, j, none⟩ = some (.string (ws.getD j ⟨#[]⟩))) := fun W hb j h => cell_later hb (hwc j h)
  have hl0 : X1.cell? ⟨X.heap.size, 0, none⟩ = some (.string hd) := hlc 0 (by simp)
  have hw0 : X2.cell? ⟨X1.heap.size, 0, none⟩ = some (.string (ws.getD 0 ⟨#[]⟩)) := hwc 0 hpos
  have HEV : Hid (∀ W, Below X2.heap.size X2 W → EnvF W) := fun W hb => hE.later (bel_on (bel_on (bel_on hbX hbX1) hbX2) hb)
  have hXl : w.heap.size < X.heap.size := lt_of_block hX0
  have H1 := hide C1
  have H2 := hide C2
  have H3 := hide C3
  have HSM := hide hsm
  have HWM := hide hwsm
  have HGL := hide hglue
  have HLN := hide hln
  have HX := hide hx
  have hXX1 : X.heap.size < X1.heap.size := by omega
  have hXX2 : X1.heap.size < X2.heap.size := by omega
  obtain ⟨ln, hln2⟩ : ∃ ln, (hd :: T).length = ln := ⟨_, rfl⟩
  have hln1 : 1 ≤ ln := by rw [← hln2]; simp
  rw [hln2] at H1
  obtain ⟨tn, rfl⟩ : ∃ tn, ln = tn + 1 := ⟨ln - 1, by omega⟩
  have HLN2 := hide hln2
  clear C1 C2 C3 hsm hwsm hglue hln hx hrow hsl hbody hlc hwc hbX hbX1 hbX2 hX0 hX1 hX2 hX1s hX2s hcl hE hmx hws hln2
  go_enter Tryz.func15, Tryz.ntmps15
  go_wp2_with fail
  rw [← hX]
  clear hX
  refine (unhide H1).mono ?_
  rintro e w1 ⟨rfl, hq⟩
  rw [hq]
  clear H1 hq w1
  go_wp2_with fail
  refine (unhide H2).mono ?_
  rintro e w1 ⟨rfl, hq⟩
  rw [← hq]
  clear H2 hq w1
  go_wp2_with fail
  refine (unhide H3).mono ?_
  rintro e w1 ⟨rfl, hq⟩
  rw [hq]
  clear H3 hl0 hq w1
  obtain ⟨m, hm⟩ : ∃ m, ws.length = m := ⟨_, rfl⟩
  rw [hm] at hpos ⊢
  by_cases h5 : m = 5
  rotate_left
  · have R : Hid (((1 : Int), zeroBk) = (x, b)) := by have e := unhide HX; rw [if_neg (fun q => h5 (hm ▸ q.2))] at e; exact e
    have g5 : ((m : Int) != 5) = true := by simp; omega
    clear h5 HX hw0
    have CF := hide (failB_is 1 X2)
    go_wp2_with fail
    refine (unhide CF).mono ?_
    rintro e wf ⟨rfl, hbf⟩
    have BRF := hide ((hbf.block _ (lt_of_block (unhide BR2))).trans (unhide BR2))
    have HBF := hide (bel_on (unhide HB2) hbf)
    clear hbf CF
    have zz0 := cell_of (unhide BRF) 0 _ rfl
    have zz1 := cell_of (unhide BRF) 1 _ rfl
    have zz2 := cell_of (unhide BRF) 2 _ rfl
    have zz3 := cell_of (unhide BRF) 3 _ rfl
    have zz4 := cell_of (unhide BRF) 4 _ rfl
    have zf0 := frozen_of (unhide BRF) 0
    have zf1 := frozen_of (unhide BRF) 1
    have zf2 := frozen_of (unhide BRF) 2
    have zf3 := frozen_of (unhide BRF) 3
    have zf4 := frozen_of (unhide BRF) 4
    have zzl := lt_of_block (unhide BRF)
    go_wp2
    (try simp only [Exit.inBlock, Exit.then])
    have hG := ((((((Gr.refl wf (fun q => q = w.heap.size)).one w.heap.size 0 (.inl rfl) (.int .i64 0)).one w.heap.size 1 (.inl rfl) (.int .i64 0)).one w.heap.size 2 (.inl rfl) (.int .i64 0)).one w.heap.size 3 (.inl rfl) (.int .i64 0)).one w.heap.size 4 (.inl rfl) (.slice none 0 0))
    refine bodyPost_ret (v := .tuple #[.agg #[.int .i64 0, .int .i64 0, .int .i64 0, .int .i64 0, .slice none 0 0], .int .i64 1]) ?_ rfl (blk_zero (unhide R) ?_)
    · rw [results_ct rfl]
      go_simp
    · exact hG.below (unhide HBF) (unhide HBF).size (fun q e => by rw [e]; exact Nat.le_refl _)
  subst h5
  obtain ⟨w0, hw0e⟩ : ∃ w0, ws.getD 0 ⟨#[]⟩ = w0 := ⟨_, rfl⟩
  rw [hw0e] at hw0 HX
  by_cases hbl : w0 = blockB
  rotate_left
  · have R : Hid (((1 : Int), zeroBk) = (x, b)) := by have e := unhide HX; rw [if_neg (fun q => hbl q.1)] at e; exact e
    have gb : (w0.toList == [98, 108, 111, 99, 107]) = false := by rw [← block_list]; exact wordB_is (y := blockB) false (decide_eq_false hbl)
    have gb2 : (!(w0.toList == [98, 108, 111, 99, 107])) = true := by rw [gb]; rfl
    clear hbl HX
    have CF := hide (failB_is 1 X2)
    go_wp2_with fail
    refine (unhide CF).mono ?_
    rintro e wf ⟨rfl, hbf⟩
    have BRF := hide ((hbf.block _ (lt_of_block (unhide BR2))).trans (unhide BR2))
    have HBF := hide (bel_on (unhide HB2) hbf)
    clear hbf CF
    have zz0 := cell_of (unhide BRF) 0 _ rfl
    have zz1 := cell_of (unhide BRF) 1 _ rfl
    have zz2 := cell_of (unhide BRF) 2 _ rfl
    have zz3 := cell_of (unhide BRF) 3 _ rfl
    have zz4 := cell_of (unhide BRF) 4 _ rfl
    have zf0 := frozen_of (unhide BRF) 0
    have zf1 := frozen_of (unhide BRF) 1
    have zf2 := frozen_of (unhide BRF) 2
    have zf3 := frozen_of (unhide BRF) 3
    have zf4 := frozen_of (unhide BRF) 4
    have zzl := lt_of_block (unhide BRF)
    go_wp2
    (try simp only [Exit.inBlock, Exit.then])
    have hG := ((((((Gr.refl wf (fun q => q = w.heap.size)).one w.heap.size 0 (.inl rfl) (.int .i64 0)).one w.heap.size 1 (.inl rfl) (.int .i64 0)).one w.heap.size 2 (.inl rfl) (.int .i64 0)).one w.heap.size 3 (.inl rfl) (.int .i64 0)).one w.heap.size 4 (.inl rfl) (.slice none 0 0))
    refine bodyPost_ret (v := .tuple #[.agg #[.int .i64 0, .int .i64 0, .int .i64 0, .int .i64 0, .slice none 0 0], .int .i64 1]) ?_ rfl (blk_zero (unhide R) ?_)
    · rw [results_ct rfl]
      go_simp
    · exact hG.below (unhide HBF) (unhide HBF).size (fun q e => by rw [e]; exact Nat.le_refl _)
  subst hbl
  have HX2 : Hid ((match numAll (ws.drop 1) with | none => (1, zeroBk) | some Z => if (prsGo [] (pcs (resN s))).1 ≠ 0 then ((prsGo [] (pcs (resN s))).1, zeroBk) else if chkB (Z.getD 0 0, Z.getD 1 0, Z.getD 2 0, Z.getD 3 0, (prsGo [] (pcs (resN s))).2) ≠ 0 then (chkB (Z.getD 0 0, Z.getD 1 0, Z.getD 2 0, Z.getD 3 0, (prsGo [] (pcs (resN s))).2), zeroBk) else (0, (Z.getD 0 0, Z.getD 1 0, Z.getD 2 0, Z.getD 3 0, (prsGo [] (pcs (resN s))).2))) = (x, b)) := by have e := unhide HX; rw [if_pos ⟨rfl, hm⟩] at e; exact e
  have gb : (blockB.toList == [98, 108, 111, 99, 107]) = true := by rw [block_list]; rfl
  clear HX
  obtain ⟨i0, hi, hz0, hz1, hz2⟩ := info_parts Tryz.infoInt
  have hrl : (ws.drop 1).length = 4 := by rw [List.length_drop, hm]
  obtain ⟨rs, hrs⟩ : ∃ rs, ws.drop 1 = rs := ⟨_, rfl⟩
  have HRG : Hid (∀ j, j < 4 → ws.getD (1 + j) ⟨#[]⟩ = rs.getD j ⟨#[]⟩) := fun j h => by rw [← hrs]; simp [List.getD_eq_getElem?_getD, Nat.add_comm]
  rw [hrs] at hrl HX2
  have HRL := hide hrl
  have HM := hide hm
  have ST : Hid (X2.ownsRow X2.heap.size 3 1 (.slice none 0 0) ([] : List Int).length (([] : List Int).map (Value.int .i64))) := ⟨rfl, .inl ⟨rfl, rfl⟩⟩
  clear hrl hm hrs
  go_wp2
  go_loopw [7, 44] (fun nv i wr => ∃ (k : Nat), k ≤ 4 ∧ i = .int .i64 k ∧ Hid (wr.ownsRow X2.heap.size 3 1 nv k (((rs.take k).map fun y => (numOf y).getD 0).map (Value.int .i64))) ∧ Hid (∀ j, j < k → (numOf (rs.getD j ⟨#[]⟩)).isSome = true) ∧ Hid (Below X2.heap.size X2 wr)) (fun _ i _ => 4 - (intOf i).toNat)
  case atStart => exact ⟨0, by omega, rfl, ST, (fun j h => absurd h (by omega) : Hid (∀ j, j < 0 → (numOf (rs.getD j ⟨#[]⟩)).isSome = true)), (Below.refl _ _ : Below X2.heap.size X2 X2)⟩
  case round =>
    obtain ⟨k, hk, rfl, HO, HS, HB⟩ := hrel
    clear ST hw0
    obtain ⟨na, nc, rfl, sn, hng⟩ := own_head (unhide HO)
    have BR := hide (((unhide HB).block _ (lt_of_block (unhide BR2))).trans (unhide BR2))
    by_cases hlt : k < 4
    · have hkl : k < rs.length := by rw [unhide HRL]; exact hlt
      have wk := (unhide HWC) wr (unhide HB) (1 + k) (by rw [unhide HM]; omega)
      rw [(unhide HRG) k hlt] at wk
      obtain ⟨y, hy⟩ : ∃ y, rs.getD k ⟨#[]⟩ = y := ⟨_, rfl⟩
      rw [hy] at wk
      have hyz : y.size ≤ 4000 := by rw [← hy, ← (unhide HRG) k hlt]; exact (unhide HWM) _ (getD_mem ws _ _ (by rw [unhide HM]; omega))
      have hyk : rs[k] = y := by rw [← hy]; simp [List.getD_eq_getElem?_getD, hkl]
      have wl : X1.heap.size < wr.heap.size := Nat.lt_of_lt_of_le hXX2 (unhide HB).size
      obtain ⟨v, hv, CW⟩ := whole_any y hyz wr ((unhide HEV) wr (unhide HB)).envp
      have HCW := hide CW
      have hkI : (k : Int) < 4 := by omega
      clear CW
      go_wp2_with fail
      refine (unhide HCW).mono ?_
      rintro e w3 ⟨rfl, hb3⟩
      have HB3 := hide (bel_on (unhide HB) hb3)
      cases hn : numOf y with
      | none =>
        have R : Hid (((1 : Int), zeroBk) = (x, b)) := by have e := unhide HX2; rw [numAll_none hkl (by rw [hyk]; exact hn)] at e; exact e
        have HBW := hide (bel_on (unhide HB2) (unhide HB3))
        have BR3 := hide ((hb3.block _ (lt_of_block (unhide BR))).trans (unhide BR))
        clear hb3 hv HX2
        simp only [Option.isSome]
        have CF := hide (failB_is 1 w3)
        go_wp2_with fail
        refine (unhide CF).mono ?_
        rintro e wf ⟨rfl, hbf⟩
        have BRF := hide ((hbf.block _ (lt_of_block (unhide BR3))).trans (unhide BR3))
        have HBF := hide (bel_on (unhide HBW) hbf)
        clear hbf CF
        have zz0 := cell_of (unhide BRF) 0 _ rfl
        have zz1 := cell_of (unhide BRF) 1 _ rfl
        have zz2 := cell_of (unhide BRF) 2 _ rfl
        have zz3 := cell_of (unhide BRF) 3 _ rfl
        have zz4 := cell_of (unhide BRF) 4 _ rfl
        have zf0 := frozen_of (unhide BRF) 0
        have zf1 := frozen_of (unhide BRF) 1
        have zf2 := frozen_of (unhide BRF) 2
        have zf3 := frozen_of (unhide BRF) 3
        have zf4 := frozen_of (unhide BRF) 4
        have zzl := lt_of_block (unhide BRF)
        go_wp2
        (try simp only [Exit.inBlock, Exit.then])
        have hG := ((((((Gr.refl wf (fun q => q = w.heap.size)).one w.heap.size 0 (.inl rfl) (.int .i64 0)).one w.heap.size 1 (.inl rfl) (.int .i64 0)).one w.heap.size 2 (.inl rfl) (.int .i64 0)).one w.heap.size 3 (.inl rfl) (.int .i64 0)).one w.heap.size 4 (.inl rfl) (.slice none 0 0))
        refine bodyPost_ret (v := .tuple #[.agg #[.int .i64 0, .int .i64 0, .int .i64 0, .int .i64 0, .slice none 0 0], .int .i64 1]) ?_ rfl (blk_zero (unhide R) ?_)
        · rw [results_ct rfl]
          go_simp
        · exact hG.below (unhide HBF) (unhide HBF).size (fun q e => by rw [e]; exact Nat.le_refl _)
      | some z =>
        obtain rfl : v = z := hv z hn
        have hbn := bel_new w3 (.cells #[.int .i64 v] 3)
        have OWN3 := (Gr.of (S := fun _ => False) hb3).own (unhide HO) (fun _ _ q => q)
        have OWN5 := hide ((Gr.of (S := fun _ => False) hbn).own OWN3 (fun _ _ q => q))
        have NEWS := hide (World.news_of_block (heap_alloc_new w3 (.cells #[.int .i64 v] 3)))
        have HB6 := hide (bel_on (unhide HB3) hbn)
        have RT : Hid ((rs.take (k + 1)).map (fun y => (numOf y).getD 0) = (rs.take k).map (fun y => (numOf y).getD 0) ++ [v]) := by
          show _ = _
          rw [List.take_succ_eq_append_getElem hkl, List.map_append, hyk]
          simp [hn]
        have RS : Hid (∀ j, j < k + 1 → (numOf (rs.getD j ⟨#[]⟩)).isSome = true) := fun j h => by
          by_cases e : j = k
          · rw [e, hy, hn]; rfl
          · exact (unhide HS) j (by omega)
        clear hb3 hbn OWN3 hv
        simp only [Option.isSome]
        go_wp2_with (at_builtin; refine wpList_append_lies _ rfl _ _ 40 rfl X2.heap.size 3 i0 (.int .i64 0) 1 8 Tryz.underlying40 hi hz0 hz1 hz2 rfl (by decide) _ _ _ rfl (unhide OWN5) ⟨w3.heap.size, 0, none⟩ 1 1 [.int .i64 v] rfl rfl (unhide NEWS) (fun u hu => by simp at hu; subst hu; rfl) (by decide) (by unfold maxLen; omega) (by omega) (unhide HB6).size _ rfl ?_; intro g7 cap7 w7 hown7 hgrow7 hor7 _)
        have OWN7 : Hid (w7.ownsRow X2.heap.size 3 1 (.slice (some ⟨g7, 0, none⟩) (k + 1) cap7) (k + 1) (((rs.take (k + 1)).map fun y => (numOf y).getD 0).map (Value.int .i64))) := by rw [unhide RT, List.map_append]; exact hown7
        have HB7 := hide ((unhide HB6).grown hgrow7 (unhide HB6).size (fun k hk => ((unhide OWN5).lt k hk).1))
        clear hown7 hgrow7 hor7 RT
        go_wp2
        go_roundw
        case rel => exact ⟨k + 1, by omega, by go_num, OWN7, RS, HB7⟩
        case measure => simp [intOf]; omega
    · obtain rfl : k = 4 := by omega
      have hna := numAll_some (r := rs) (fun j h => (unhide HS) j (by rw [unhide HRL] at h; exact h))
      have HX3 := unhide HX2
      rw [hna] at HX3
      have hO4 := unhide HO
      rw [List.take_of_length_le (by rw [unhide HRL]; exact Nat.le_refl _)] at hO4
      have hl4 : (rs.map fun y => (numOf y).getD 0).length = 4 := by rw [List.length_map]; exact unhide HRL
      obtain ⟨Zs, hZs⟩ : ∃ Zs, (rs.map fun y => (numOf y).getD 0) = Zs := ⟨_, rfl⟩
      rw [hZs] at hl4 hO4 HX3
      obtain ⟨z0, z1, z2, z3, rfl⟩ : ∃ z0 z1 z2 z3, Zs = [z0, z1, z2, z3] := by
        match Zs, hl4 with
        | [z0, z1, z2, z3], _ => exact ⟨z0, z1, z2, z3, rfl⟩
      obtain ⟨rb, rfl, hrb1, hrb2⟩ := hng (by omega)
      have q := fun j (hj : j < 4) => World.ownsRow.cellAt hO4 j (by omega)
      have rr0 : wr.cell? ⟨rb, 0, none⟩ = some (.int .i64 z0) := q 0 (by omega)
      have rr1 : wr.cell? ⟨rb, 1, none⟩ = some (.int .i64 z1) := q 1 (by omega)
      have rr2 : wr.cell? ⟨rb, 2, none⟩ = some (.int .i64 z2) := q 2 (by omega)
      have rr3 : wr.cell? ⟨rb, 3, none⟩ = some (.int .i64 z3) := q 3 (by omega)
      obtain ⟨w2, hw2⟩ : ∃ w2, w2 = wr := ⟨_, rfl⟩
      subst hw2
      have KS : Hid (∀ W, Below w2.heap.size w2 W → Below w2.heap.size w2 W ∧ W.cell? ⟨rb, 0, none⟩ = some (.int .i64 z0) ∧ W.cell? ⟨rb, 1, none⟩ = some (.int .i64 z1) ∧ W.cell? ⟨rb, 2, none⟩ = some (.int .i64 z2) ∧ W.cell? ⟨rb, 3, none⟩ = some (.int .i64 z3)) := fun W hb => ⟨hb, cell_later hb rr0, cell_later hb rr1, cell_later hb rr2, cell_later hb rr3⟩
      have HX3 : (if (prsGo [] (pcs (resN s))).1 ≠ 0 then ((prsGo [] (pcs (resN s))).1, zeroBk) else if chkB (z0, z1, z2, z3, (prsGo [] (pcs (resN s))).2) ≠ 0 then (chkB (z0, z1, z2, z3, (prsGo [] (pcs (resN s))).2), zeroBk) else (0, (z0, z1, z2, z3, (prsGo [] (pcs (resN s))).2))) = (x, b) := HX3
      have HX := hide HX3
      have HBW := hide (bel_on (unhide HB2) (unhide HB))
      clear HX2 HX3 hna hO4 hl4 hZs q rr0 rr1 rr2 rr3 HO HS hlt hng
      go_wp2_with fail
      refine wp_region_held_drew (S := fun W => Below w2.heap.size w2 W ∧ W.cell? ⟨rb, 0, none⟩ = some (.int .i64 z0) ∧ W.cell? ⟨rb, 1, none⟩ = some (.int .i64 z1) ∧ W.cell? ⟨rb, 2, none⟩ = some (.int .i64 z2) ∧ W.cell? ⟨rb, 3, none⟩ = some (.int .i64 z3)) (by kernel_rfl) ((unhide KS) _ (bel_draw1 _)) (fun hHeld => ?_)
      refine wpAnyH_take (i := 0) (oi := { dst := some 64, op := Op.move (Operand.tmp 7), type := 40, pos := "second.go:211", after := #[], guard := none }) (v := ?_) rfl (by kernel_rfl) (by kernel_rfl) (by kernel_rfl) (fun _ _ _ h => h) (Or.inl ⟨by rfl, ?_⟩) hHeld ?_
      rotate_left
      · (intro W hSw; (try dsimp only at hSw); go_simp; first | done | with_reducible rfl)
      (try simp only [Act.put, List.setIfInBounds_toArray, List.set_cons_zero, List.set_cons_succ])
      refine wpAnyH_take (i := 1) (oi := { dst := some 65, op := Op.indexAddr 40 (Operand.tmp 64) (Operand.const (Value.int IntKind.i64 0)), type := 0, pos := "second.go:211", after := #[{ on := 0, ground := Ground.data }], guard := none }) (v := ?_) rfl (by kernel_rfl) (by kernel_rfl) (by kernel_rfl) (fun _ _ _ h => h) (Or.inl ⟨by rfl, ?_⟩) hHeld ?_
      rotate_left
      · (intro W hSw; (try dsimp only at hSw); go_simp; first | done | with_reducible rfl)
      (try simp only [Act.put, List.setIfInBounds_toArray, List.set_cons_zero, List.set_cons_succ])
      refine wpAnyH_take (i := 2) (oi := { dst := some 66, op := Op.load 3 (Operand.tmp 65), type := 3, pos := "second.go:211", after := #[{ on := 1, ground := Ground.data }], guard := none }) (v := ?_) rfl (by kernel_rfl) (by kernel_rfl) (by kernel_rfl) (fun _ _ _ h => h) (Or.inl ⟨by rfl, ?_⟩) hHeld ?_
      rotate_left
      · (intro W hSw; (try dsimp only at hSw); go_simp; first | done | with_reducible rfl)
      (try simp only [Act.put, List.setIfInBounds_toArray, List.set_cons_zero, List.set_cons_succ])
      refine wpAnyH_take (i := 3) (oi := { dst := some 67, op := Op.move (Operand.tmp 7), type := 40, pos := "second.go:211", after := #[], guard := none }) (v := ?_) rfl (by kernel_rfl) (by kernel_rfl) (by kernel_rfl) (fun _ _ _ h => h) (Or.inl ⟨by rfl, ?_⟩) hHeld ?_
      rotate_left
      · (intro W hSw; (try dsimp only at hSw); go_simp; first | done | with_reducible rfl)
      (try simp only [Act.put, List.setIfInBounds_toArray, List.set_cons_zero, List.set_cons_succ])
      refine wpAnyH_take (i := 4) (oi := { dst := some 68, op := Op.indexAddr 40 (Operand.tmp 67) (Operand.const (Value.int IntKind.i64 1)), type := 0, pos := "second.go:211", after := #[{ on := 3, ground := Ground.data }], guard := none }) (v := ?_) rfl (by kernel_rfl) (by kernel_rfl) (by kernel_rfl) (fun _ _ _ h => h) (Or.inl ⟨by rfl, ?_⟩) hHeld ?_
      rotate_left
      · (intro W hSw; (try dsimp only at hSw); go_simp; first | done | with_reducible rfl)
      (try simp only [Act.put, List.setIfInBounds_toArray, List.set_cons_zero, List.set_cons_succ])
      refine wpAnyH_take (i := 5) (oi := { dst := some 69, op := Op.load 3 (Operand.tmp 68), type := 3, pos := "second.go:211", after := #[{ on := 4, ground := Ground.data }], guard := none }) (v := ?_) rfl (by kernel_rfl) (by kernel_rfl) (by kernel_rfl) (fun _ _ _ h => h) (Or.inl ⟨by rfl, ?_⟩) hHeld ?_
      rotate_left
      · (intro W hSw; (try dsimp only at hSw); go_simp; first | done | with_reducible rfl)
      (try simp only [Act.put, List.setIfInBounds_toArray, List.set_cons_zero, List.set_cons_succ])
      refine wpAnyH_take (i := 6) (oi := { dst := some 70, op := Op.move (Operand.tmp 7), type := 40, pos := "second.go:211", after := #[], guard := none }) (v := ?_) rfl (by kernel_rfl) (by kernel_rfl) (by kernel_rfl) (fun _ _ _ h => h) (Or.inl ⟨by rfl, ?_⟩) hHeld ?_
      rotate_left
      · (intro W hSw; (try dsimp only at hSw); go_simp; first | done | with_reducible rfl)
      (try simp only [Act.put, List.setIfInBounds_toArray, List.set_cons_zero, List.set_cons_succ])
      refine wpAnyH_take (i := 7) (oi := { dst := some 71, op := Op.indexAddr 40 (Operand.tmp 70) (Operand.const (Value.int IntKind.i64 2)), type := 0, pos := "second.go:211", after := #[{ on := 6, ground := Ground.data }], guard := none }) (v := ?_) rfl (by kernel_rfl) (by kernel_rfl) (by kernel_rfl) (fun _ _ _ h => h) (Or.inl ⟨by rfl, ?_⟩) hHeld ?_
      rotate_left
      · (intro W hSw; (try dsimp only at hSw); go_simp; first | done | with_reducible rfl)
      (try simp only [Act.put, List.setIfInBounds_toArray, List.set_cons_zero, List.set_cons_succ])
      refine wpAnyH_take (i := 8) (oi := { dst := some 72, op := Op.load 3 (Operand.tmp 71), type := 3, pos := "second.go:211", after := #[{ on := 7, ground := Ground.data }], guard := none }) (v := ?_) rfl (by kernel_rfl) (by kernel_rfl) (by kernel_rfl) (fun _ _ _ h => h) (Or.inl ⟨by rfl, ?_⟩) hHeld ?_
      rotate_left
      · (intro W hSw; (try dsimp only at hSw); go_simp; first | done | with_reducible rfl)
      (try simp only [Act.put, List.setIfInBounds_toArray, List.set_cons_zero, List.set_cons_succ])
      refine wpAnyH_take (i := 9) (oi := { dst := some 73, op := Op.move (Operand.tmp 7), type := 40, pos := "second.go:211", after := #[], guard := none }) (v := ?_) rfl (by kernel_rfl) (by kernel_rfl) (by kernel_rfl) (fun _ _ _ h => h) (Or.inl ⟨by rfl, ?_⟩) hHeld ?_
      rotate_left
      · (intro W hSw; (try dsimp only at hSw); go_simp; first | done | with_reducible rfl)
      (try simp only [Act.put, List.setIfInBounds_toArray, List.set_cons_zero, List.set_cons_succ])
      refine wpAnyH_take (i := 10) (oi := { dst := some 74, op := Op.indexAddr 40 (Operand.tmp 73) (Operand.const (Value.int IntKind.i64 3)), type := 0, pos := "second.go:211", after := #[{ on := 9, ground := Ground.data }], guard := none }) (v := ?_) rfl (by kernel_rfl) (by kernel_rfl) (by kernel_rfl) (fun _ _ _ h => h) (Or.inl ⟨by rfl, ?_⟩) hHeld ?_
      rotate_left
      · (intro W hSw; (try dsimp only at hSw); go_simp; first | done | with_reducible rfl)
      (try simp only [Act.put, List.setIfInBounds_toArray, List.set_cons_zero, List.set_cons_succ])
      refine wpAnyH_take (i := 11) (oi := { dst := some 75, op := Op.load 3 (Operand.tmp 74), type := 3, pos := "second.go:211", after := #[{ on := 10, ground := Ground.data }], guard := none }) (v := ?_) rfl (by kernel_rfl) (by kernel_rfl) (by kernel_rfl) (fun _ _ _ h => h) (Or.inl ⟨by rfl, ?_⟩) hHeld ?_
      rotate_left
      · (intro W hSw; (try dsimp only at hSw); go_simp; first | done | with_reducible rfl)
      (try simp only [Act.put, List.setIfInBounds_toArray, List.set_cons_zero, List.set_cons_succ])
      refine wpAnyH_take (i := 12) (oi := { dst := some 76, op := Op.build 24 #[(0, Operand.tmp 66), (1, Operand.tmp 69), (2, Operand.tmp 72), (3, Operand.tmp 75)], type := 24, pos := "second.go:211", after := #[{ on := 2, ground := Ground.data }, { on := 5, ground := Ground.data }, { on := 8, ground := Ground.data }, { on := 11, ground := Ground.data }], guard := none }) (v := ?_) rfl (by kernel_rfl) (by kernel_rfl) (by kernel_rfl) (fun _ _ _ h => h) (Or.inl ⟨by rfl, ?_⟩) hHeld ?_
      rotate_left
      · (intro W hSw; (try dsimp only at hSw); go_simp; first | done | with_reducible rfl)
      (try simp only [Act.put, List.setIfInBounds_toArray, List.set_cons_zero, List.set_cons_succ])
      refine wpAnyH_ready (rs := [13]) (by kernel_rfl) (by simp) ?_
      refine AllReadyH.cons (o := { dst := some 12, op := Op.alloc 24, type := 0, pos := "second.go:211", after := #[], guard := none }) rfl (fun K hK => ?_) AllReadyH.nil
      go_simp
      refine hK.out _ _ ((unhide KS) _ (bel_on (bel_draw1 _) (bel_new _ _))) (fun hHeld2 => ?_)
      clear hK K hHeld
      have hHeld := hHeld2
      clear hHeld2
      (try simp only [Act.put, List.setIfInBounds_toArray, List.set_cons_zero, List.set_cons_succ])
      refine wpAnyH_ready (rs := [14]) (by kernel_rfl) (by simp) ?_
      refine AllReadyH.cons (o := { dst := none, op := Op.store 24 (Operand.tmp 12) (Operand.tmp 76), type := 0, pos := "second.go:211", after := #[{ on := 13, ground := Ground.data }, { on := 12, ground := Ground.data }, { on := 0, ground := Ground.phase }, { on := 1, ground := Ground.phase }, { on := 2, ground := Ground.phase }, { on := 3, ground := Ground.phase }, { on := 4, ground := Ground.phase }, { on := 5, ground := Ground.phase }, { on := 6, ground := Ground.phase }, { on := 7, ground := Ground.phase }, { on := 8, ground := Ground.phase }, { on := 9, ground := Ground.phase }, { on := 10, ground := Ground.phase }, { on := 11, ground := Ground.phase }, { on := 12, ground := Ground.phase }, { on := 13, ground := Ground.phase }], guard := none }) rfl (fun K hK => ?_) AllReadyH.nil
      go_simp
      refine hK.out _ _ ((unhide KS) _ (bel_on (bel_new w2 _) (bel_draw1 _))) (fun hHeld2 => ?_)
      clear hK K hHeld
      have hHeld := hHeld2
      clear hHeld2
      (try simp only [Act.put, List.setIfInBounds_toArray, List.set_cons_zero, List.set_cons_succ])
      refine wpAnyH_done (by kernel_rfl) ?_ _
      clear hHeld KS
      obtain ⟨Y, hY⟩ : ∃ Y, Y = (w2.alloc (.cells #[.int .i64 z0, .int .i64 z1, .int .i64 z2, .int .i64 z3, .slice none 0 0] 24)).drew := ⟨_, rfl⟩
      have hbY : Below w2.heap.size w2 Y := by rw [hY]; exact bel_on (bel_new _ _) (bel_draw1 _)
      have hY9 : Y.heap[w2.heap.size]? = some (.cells [.int .i64 z0, .int .i64 z1, .int .i64 z2, .int .i64 z3, .slice none 0 0].toArray 24 (0, 0)) := by rw [hY]; exact five_heap _ _ _ _ _ _ _
      rw [← hY]
      clear hY
      have hXs : X2.heap.size ≤ w2.heap.size := (unhide HB).size
      have hY2 : w2.heap.size < Y.heap.size := lt_of_block hY9
      have HB3 := hide (bel_on (unhide HB) hbY)
      have BR3 := hide ((hbY.block _ (lt_of_block (unhide BR))).trans (unhide BR))
      have BX3 := hide hY9
      clear hbY hY9
      obtain ⟨ps, hps⟩ : ∃ ps, pcs (resN s) = ps := ⟨_, rfl⟩
      have hgl := unhide HGL
      rw [hps] at HX hgl
      have HPS : Hid (ps.length ≤ 4000 ∧ ∀ p ∈ ps, p.size ≤ 4000) := by
        have h2 := (cut_le s).2
        refine ⟨?_, fun p hp => ?_⟩
        · rw [← hps]; exact Nat.le_trans (pcsF_len _ _) (by omega)
        · rw [← hps] at hp; exact Nat.le_trans (pcsF_small _ _ p hp) (by omega)
      have HTN : Hid (T.length = tn) := by show T.length = tn; have := unhide HLN2; simpa using this
      have htn : tn ≤ 4000 := by have := unhide HLN; have := unhide HLN2; omega
      have GL : Hid (glue [] (T.drop 0) = ps) := hgl
      obtain ⟨j0, hj, jz0, jz1, jz2⟩ := info_parts Tryz.info9
      have ST : Hid (Y.ownsRow Y.heap.size 9 1 (.slice none 0 0) ([] : List ByteArray).length (([] : List ByteArray).map Value.string)) := ⟨rfl, .inl ⟨rfl, rfl⟩⟩
      have SM : Hid (([] : List ByteArray).length ≤ 0 ∧ ∀ p ∈ ([] : List ByteArray), p.size ≤ 4000 * 0) := ⟨Nat.le_refl _, fun p h => by cases h⟩
      clear hgl hps HGL
      go_wp2
      · go_loopw [13, 80] (fun pv i wr => ∃ (k : Nat) (P : List ByteArray), k ≤ 0 ∧ i = .int .i64 k ∧ Hid (wr.ownsRow Y.heap.size 9 1 pv P.length (P.map Value.string)) ∧ Hid (glue P (T.drop k) = ps) ∧ Hid (P.length ≤ k ∧ ∀ p ∈ P, p.size ≤ 4000 * k) ∧ Hid (Below Y.heap.size Y wr)) (fun _ i _ => 0 - (intOf i).toNat)
        case atStart => exact ⟨0, [], Nat.zero_le _, rfl, ST, GL, SM, (Below.refl _ _ : Below Y.heap.size Y Y)⟩
        case round =>
            obtain ⟨k, P, hk, rfl, HO, HA, HP, HBp⟩ := hrel
            clear ST GL SM
            obtain ⟨pa, pc, rfl, sp, hpg⟩ := own_head (unhide HO)
            have HBq := hide (bel_on (unhide HB3) (unhide HBp))
            have hlt : ¬ k < 0 := by omega
            obtain rfl : k = 0 := by omega
            have hPs : P = ps := by have e := unhide HA; rw [List.drop_of_length_le (by rw [unhide HTN]; omega)] at e; exact e
            rw [hPs] at HO hpg ⊢
            obtain ⟨w3, hw3⟩ : ∃ w3, w3 = wr := ⟨_, rfl⟩
            subst hw3
            obtain ⟨pn, hpn⟩ : ∃ pn, ps.length = pn := ⟨_, rfl⟩
            rw [hpn] at HO hpg ⊢
            have hpn4 : pn ≤ 4000 := by rw [← hpn]; exact (unhide HPS).1
            have KLX : Hid (∀ (k : Nat) (K : List TxV), k ≤ pn → K.length ≤ k → K.length ≤ 4096) := fun k K h1 h2 => by omega
            have HTX := hide (Bk.texts_own (unhide HO))
            have HPG := hide hpg
            have HPN := hide hpn
            have hY3 : Y.heap.size ≤ w3.heap.size := (unhide HBp).size
            have HB4 := hide (bel_on (unhide HB3) (unhide HBp))
            have BR4 := hide (((unhide HBp).block _ (lt_of_block (unhide BR3))).trans (unhide BR3))
            have BX4 := hide (((unhide HBp).block _ (lt_of_block (unhide BX3))).trans (unhide BX3))
            have ST : Hid (TxsOwn w3.heap.size w3 (.slice none 0 0) []) := ⟨⟨rfl, .inl ⟨rfl, rfl⟩⟩, fun x hx => by cases hx⟩
            have hwX2 : w.heap.size < X2.heap.size := by omega
            have GB : Hid (∀ W, Gr w3 W (fun q => q = w2.heap.size) → Below X2.heap.size X2 W) := fun W g => g.below (unhide HB4) (unhide HB4).size (fun q e => by omega)
            have HB0 := HB2
            have C4 : Hid (∀ p W, p ∈ ps → Below X2.heap.size X2 W → Calls Tryz.prog 56 #[.string p] W fun e w' => TxIs W.heap.size w' e (pT p) (pE p) ∧ Below W.heap.size W w') := fun p W hp hb => readTx_all p ((unhide HPS).2 p hp) W ((unhide HEV) W hb)
            obtain ⟨i0, hi, hz0, hz1, hz2⟩ := info_parts Tryz.infoTxP
            clear HA HP HO hpg hpn hPs sp HBp HBq BX3
            go_wp2
            go_loopw [108] (fun i wr => ∃ (k : Nat) (K : List TxV) (v : Value), k ≤ pn ∧ i = .int .i64 k ∧ Hid (K.length ≤ k) ∧ Hid (wr.heap[w2.heap.size]? = some (.cells [.int .i64 z0, .int .i64 z1, .int .i64 z2, .int .i64 z3, v].toArray 24 (0, 0))) ∧ Hid (TxsOwn w3.heap.size wr v K) ∧ Hid (prsGo (K.map (·.1)) (ps.drop k) = prsGo [] ps) ∧ Hid (Gr w3 wr (fun q => q = w2.heap.size))) (fun i _ => pn - (intOf i).toNat)
            case atStart => exact ⟨0, [], .slice none 0 0, Nat.zero_le _, rfl, (Nat.le_refl _ : ([] : List TxV).length ≤ 0), BX4, ST, (rfl : prsGo [] (ps.drop 0) = prsGo [] ps), (Gr.refl _ _ : Gr w3 w3 (fun q => q = w2.heap.size))⟩
            case round =>
              obtain ⟨k, K, v, hk, rfl, HKL, BX, HK, HA, HG⟩ := hrel
              clear ST BX4
              have hbr := (unhide GB) wr (unhide HG)
              have hwr3 : w3.heap.size ≤ wr.heap.size := (unhide HG).size
              have BR := hide ((unhide HG).heap (unhide BR4) (by omega))
              obtain ⟨va, vc, rfl, _⟩ := own_head (unhide HK).1
              by_cases hlt : k < pn
              · have hkl : k < ps.length := by rw [unhide HPN]; exact hlt
                obtain ⟨pb, po, rfl, hpc⟩ := (unhide HTX).2 (by omega)
                obtain ⟨pg, e, hpb, hpl⟩ := (unhide HPG) (by omega)
                cases e
                have ppp := (World.cell?_of_block (a := ⟨pb, 0 + k, none⟩) ((unhide HG).block pb hpl (by omega))).trans (hpc k hkl)
                rw [Nat.zero_add] at ppp
                have ppl : pb < wr.heap.size := Nat.lt_of_lt_of_le hpl hwr3
                have AT := hide (prsGo_at (K.map (·.1)) ps k hkl)
                obtain ⟨pt, hpt⟩ : ∃ pt, ps[k] = pt := ⟨_, rfl⟩
                rw [hpt] at ppp AT
                have hpm : pt ∈ ps := hpt ▸ List.getElem_mem hkl
                have CC := hide ((unhide C4) pt wr hpm hbr)
                have hkI : (k : Int) < (pn : Int) := by omega
                clear hpt hpc hpm
                go_wp2_with fail
                refine (unhide CC).mono ?_
                rintro e w5 ⟨⟨v1, v2, rfl, ho5⟩, hb5⟩
                obtain ⟨th, tI, tO, htp⟩ : ∃ th tI tO, pT pt = (th, tI, tO) := ⟨_, _, _, rfl⟩
                rw [htp] at ho5 AT ⊢
                simp only at ho5 ⊢
                obtain ⟨pe, hpe⟩ : ∃ pe, pE pt = pe := ⟨_, rfl⟩
                rw [hpe] at AT ⊢
                obtain ⟨g1, g2⟩ := ho5.one
                obtain ⟨ai, ci, ao, co, e1, e2, _⟩ := ho5.at
                have HTO := hide (ho5.base hwr3)
                have HG5 := hide (Gr.on (unhide HG) hb5)
                have BX5 := hide ((hb5.block _ (lt_of_block (unhide BX))).trans (unhide BX))
                have BR5 := hide ((hb5.block _ (lt_of_block (unhide BR))).trans (unhide BR))
                have HK5 : Hid (TxsOwn w3.heap.size w5 (.slice va K.length vc) K) := ⟨(Gr.of (S := fun _ => False) hb5).own (unhide HK).1 (fun _ _ q => q), fun x hx => ((unhide HK).2 x hx).later hb5⟩
                have h35 : w3.heap.size ≤ w5.heap.size := (unhide HG5).size
                clear ho5 hb5 CC htp hpe
                subst e1 e2
                by_cases h0 : pe = 0
                · subst h0
                  obtain ⟨U, hU⟩ : ∃ U, U = (w5.alloc (.cells #[.int .i64 th, .slice ai tI.length ci, .slice ao tO.length co] 78)).alloc (.cells #[.int .i64 th, .slice ai tI.length ci, .slice ao tO.length co] 78) := ⟨_, rfl⟩
                  have hbU : Below w5.heap.size w5 U := by rw [hU]; exact bel_on (bel_new _ _) (bel_new _ _)
                  have hUs : U.heap.size = w5.heap.size + 2 := by rw [hU]; simp
                  have NEWS := hide (World.news_of_block (heap_alloc_new (w5.alloc (.cells #[.int .i64 th, .slice ai tI.length ci, .slice ao tO.length co] 78)) (.cells #[.int .i64 th, .slice ai tI.length ci, .slice ao tO.length co] 78)))
                  rw [show (w5.alloc (.cells #[.int .i64 th, .slice ai tI.length ci, .slice ao tO.length co] 78)).heap.size = w5.heap.size + 1 by simp, ← hU] at NEWS
                  have OWNU := hide ((Gr.of (S := fun _ => False) hbU).own (unhide HK5).1 (fun _ _ q => q))
                  have HTU := hide ((unhide HTO).later hbU)
                  have HKU : Hid (∀ x ∈ K, TxOwn w3.heap.size U x.2.1 x.2.2 x.1.2.1 x.1.2.2) := fun x hx => ((unhide HK5).2 x hx).later hbU
                  have BXU := hide ((hbU.block _ (lt_of_block (unhide BX5))).trans (unhide BX5))
                  have HGU := hide (Gr.on (unhide HG5) hbU)
                  have xx4 := cell_of (unhide BX5) 4 _ rfl
                  have xxl := lt_of_block (unhide BX5)
                  have xxf := frozen_of (unhide BX5) 4
                  have R : Hid (prsGo ((K ++ [(((th, tI, tO), Value.slice ai tI.length ci, Value.slice ao tO.length co) : TxV)]).map (·.1)) (ps.drop (k + 1)) = prsGo [] ps) := by
                    have e := unhide AT
                    rw [if_neg (by simp)] at e
                    show _ = _
                    rw [← unhide HA, e, List.map_append]
                    rfl
                  have KL : Hid (K.length ≤ 4096) := by
                    have h1 := unhide HKL
                    have h2 := unhide HPN
                    have h3 := pcsF_len (resN s).size (resN s)
                    show _ ≤ _
                    exact unhide KLX k K hk h1
                  clear hbU AT HA
                  have OWNR : Hid (World.ownsRow ((w5.alloc (.cells #[.int .i64 th, .slice ai tI.length ci, .slice ao tO.length co] 78)).alloc (.cells #[.int .i64 th, .slice ai tI.length ci, .slice ao tO.length co] 78)) w3.heap.size 78 3 (.slice va K.length vc) K.length (txCells K)) := by rw [← hU]; exact OWNU
                  have NEWR : Hid (∀ j u, [Value.int .i64 th, .slice ai tI.length ci, .slice ao tO.length co][j]? = some u → World.cell? ((w5.alloc (.cells #[.int .i64 th, .slice ai tI.length ci, .slice ao tO.length co] 78)).alloc (.cells #[.int .i64 th, .slice ai tI.length ci, .slice ao tO.length co] 78)) ((⟨w5.heap.size + 1, 0, none⟩ : Addr).add j) = some u) := by rw [← hU]; exact NEWS
                  have SZR : w3.heap.size ≤ ((w5.alloc (.cells #[.int .i64 th, .slice ai tI.length ci, .slice ao tO.length co] 78)).alloc (.cells #[.int .i64 th, .slice ai tI.length ci, .slice ao tO.length co] 78)).heap.size := by rw [← hU]; omega
                  go_wp2_with (at_builtin; refine wpList_append_lies _ rfl _ _ 22 rfl w3.heap.size 78 i0 (.agg #[.int .i64 0, .slice none 0 0, .slice none 0 0]) 3 56 Tryz.underlying22 hi hz0 hz1 hz2 rfl (by decide) _ _ _ rfl (unhide OWNR) ⟨w5.heap.size + 1, 0, none⟩ 1 1 [.int .i64 th, .slice ai tI.length ci, .slice ao tO.length co] rfl rfl (unhide NEWR) (fun u hu => by simp at hu; rcases hu with rfl | rfl | rfl <;> rfl) (by decide) (by have := unhide KL; unfold maxLen; omega) (by have := unhide KL; omega) SZR _ rfl ?_; intro g7 cap7 w7 hown7 hgrow7 hor7 _; rw [← hU] at hgrow7; have hx7 := (hgrow7.block w2.heap.size (lt_of_block (unhide BXU)) (fun e => own_other (unhide OWNU) (unhide BXU) (by decide) e.symm)).trans (unhide BXU); have HX7 := hide hx7; have HO7 := hide hown7; have HG7 := hide hgrow7; have yy4 := cell_of hx7 4 _ rfl; have yyl := lt_of_block hx7; have yyf := frozen_of hx7 4; clear hx7 hown7 hgrow7 hor7)
                  have hx7 := unhide HX7
                  have hown7 := unhide HO7
                  have hgrow7 := unhide HG7
                  have FIN : Hid (∀ w8, w8 = w7.setCell ⟨w2.heap.size, 4, none⟩ (.slice (some ⟨g7, 0, none⟩) (K.length + 1) cap7) → Hid (w8.heap[w2.heap.size]? = some (.cells [.int .i64 z0, .int .i64 z1, .int .i64 z2, .int .i64 z3, .slice (some ⟨g7, 0, none⟩) (K.length + 1) cap7].toArray 24 (0, 0))) ∧ Hid (TxsOwn w3.heap.size w8 (.slice (some ⟨g7, 0, none⟩) (K.length + 1) cap7) (K ++ [(((th, tI, tO), Value.slice ai tI.length ci, Value.slice ao tO.length co) : TxV)])) ∧ Hid (Gr w3 w8 (fun q => q = w2.heap.size))) := by
                    rintro w8 rfl
                    have hg8 := (Gr.refl w7 (fun q => q = w2.heap.size)).one w2.heap.size 4 (.inl rfl) (.slice (some ⟨g7, 0, none⟩) (K.length + 1) cap7)
                    have far : ∀ (k : Nat) (cs : Array Value) (t : TypeId), U.heap[k]? = some (.cells cs t (0, 0)) → t ≠ 78 → t ≠ 24 → (w7.setCell ⟨w2.heap.size, 4, none⟩ (.slice (some ⟨g7, 0, none⟩) (K.length + 1) cap7)).heap[k]? = U.heap[k]? := fun q cs t hq h1 h2 => by
                      have e7 := hgrow7.block q (lt_of_block hq) (fun e => own_other (unhide OWNU) hq h1 e.symm)
                      have ne : q ≠ w2.heap.size := fun e => by
                        subst e
                        rw [unhide BXU] at hq
                        injection hq with hq
                        injection hq with _ hq
                        exact h2 hq.symm
                      exact (hg8.block q (lt_of_block (e7.trans hq)) ne).trans e7
                    refine ⟨us_set hx7 4 _, ⟨?_, fun x hx => ?_⟩, ?_⟩
                    · rw [List.length_append, txCells_snoc]
                      exact hg8.own hown7 (fun q hq e => own_other hown7 hx7 (by decide) (by rw [hq, e]))
                    · rcases List.mem_append.1 hx with hx | hx
                      · exact ((unhide HKU) x hx).far2 far
                      · rw [List.mem_singleton.1 hx]
                        exact (unhide HTU).far2 far
                    · exact ((unhide HGU).grown hgrow7 (fun q e => .inr (((unhide OWNU).lt q e).1))).trans hg8
                  clear hown7 hgrow7 hx7
                  go_wp2
                  go_roundw
                  case rel =>
                    obtain ⟨f1, f2, f3⟩ := (unhide FIN) _ rfl
                    first
                      | exact ⟨k + 1, _, _, by omega, by go_num, (by show _ ≤ _; have := unhide HKL; simp; omega : Hid (_ ≤ k + 1)), f1, f2, R, f3⟩
                      | (refine ⟨_, _, _, _, _, ?_, rfl, rfl, rfl, rfl, rfl⟩
                         exact ⟨k + 1, by omega, by go_num, _, (by show _ ≤ _; have := unhide HKL; simp; omega : Hid ((K ++ [(((th, tI, tO), Value.slice ai tI.length ci, Value.slice ao tO.length co) : TxV)]).length ≤ k + 1)), _, (by show _ = _; exact (Array.getElem?_eq_some_iff.1 (unhide f1)).2), f2, R, f3⟩)
                  case measure => simp [intOf]; omega
                · have gpe : (pe != 0) = true := by simp [h0]
                  have R : Hid ((pe, zeroBk) = (x, b)) := by
                    have e := unhide AT
                    rw [if_pos h0] at e
                    have e2 : prsGo [] ps = (pe, []) := by rw [← unhide HA, e]
                    have e3 := unhide HX
                    rw [e2, if_pos h0] at e3
                    exact e3
                  have hbw5 : Below w.heap.size w w5 := (unhide HB0).trans (((unhide GB) w5 (unhide HG5)).mono (unhide HB0).size)
                  have HBU := hide hbw5
                  clear AT HA h0
                  have BRT := hide (((bel_new w5 (.cells #[.int .i64 th, .slice ai tI.length ci, .slice ao tO.length co] 78)).block _ (lt_of_block (unhide BR5))).trans (unhide BR5))
                  have HBT := hide (bel_on (unhide HBU) (bel_new w5 (.cells #[.int .i64 th, .slice ai tI.length ci, .slice ao tO.length co] 78)))
                  have CF := hide (failB_is pe (w5.alloc (.cells #[.int .i64 th, .slice ai tI.length ci, .slice ao tO.length co] 78)))
                  go_wp2_with fail
                  refine (unhide CF).mono ?_
                  rintro e wf ⟨rfl, hbf⟩
                  have BRF := hide ((hbf.block _ (lt_of_block (unhide BRT))).trans (unhide BRT))
                  have HBF := hide (bel_on (unhide HBT) hbf)
                  clear hbf CF
                  have zz0 := cell_of (unhide BRF) 0 _ rfl
                  have zz1 := cell_of (unhide BRF) 1 _ rfl
                  have zz2 := cell_of (unhide BRF) 2 _ rfl
                  have zz3 := cell_of (unhide BRF) 3 _ rfl
                  have zz4 := cell_of (unhide BRF) 4 _ rfl
                  have zf0 := frozen_of (unhide BRF) 0
                  have zf1 := frozen_of (unhide BRF) 1
                  have zf2 := frozen_of (unhide BRF) 2
                  have zf3 := frozen_of (unhide BRF) 3
                  have zf4 := frozen_of (unhide BRF) 4
                  have zzl := lt_of_block (unhide BRF)
                  go_wp2
                  (try simp only [Exit.inBlock, Exit.then])
                  have hG := ((((((Gr.refl wf (fun q => q = w.heap.size)).one w.heap.size 0 (.inl rfl) (.int .i64 0)).one w.heap.size 1 (.inl rfl) (.int .i64 0)).one w.heap.size 2 (.inl rfl) (.int .i64 0)).one w.heap.size 3 (.inl rfl) (.int .i64 0)).one w.heap.size 4 (.inl rfl) (.slice none 0 0))
                  refine bodyPost_ret (v := .tuple #[.agg #[.int .i64 0, .int .i64 0, .int .i64 0, .int .i64 0, .slice none 0 0], .int .i64 pe]) ?_ rfl (blk_zero (unhide R) ?_)
                  · rw [results_ct rfl]
                    go_simp
                  · exact hG.below (unhide HBF) (unhide HBF).size (fun q e => by rw [e]; exact Nat.le_refl _)
              · have R : Hid (prsGo [] ps = (0, K.map (·.1))) := by show _ = _; rw [← unhide HA, prsGo_end _ ps k (by rw [unhide HPN]; omega)]
                have HX2 := unhide HX
                rw [unhide R, if_neg (by simp)] at HX2
                simp only at HX2
                obtain ⟨ca, cc, e1, hT, sT⟩ := (unhide HK).txs
                cases e1
                obtain ⟨y, hy⟩ : ∃ y, chkB (z0, z1, z2, z3, K.map (·.1)) = y := ⟨_, rfl⟩
                rw [hy] at HX2
                have CC := hide (rchkBlock_any z0 z1 z2 z3 va K.length vc (K.map (·.1)) y wr hT hy)
                have xx0 := cell_of (unhide BX) 0 _ rfl
                have xx1 := cell_of (unhide BX) 1 _ rfl
                have xx2 := cell_of (unhide BX) 2 _ rfl
                have xx3 := cell_of (unhide BX) 3 _ rfl
                have xx4 := cell_of (unhide BX) 4 _ rfl
                have xxl := lt_of_block (unhide BX)
                have HXX := hide HX2
                have ST2 := hide sT
                have hbw : Below w.heap.size w wr := (unhide HB0).trans (hbr.mono (unhide HB0).size)
                have HBW := hide hbw
                clear HX2 hT sT hy hbw HA
                go_wp2_with fail
                refine (unhide CC).mono ?_
                rintro e w6 ⟨rfl, hb6⟩
                have BR6 := hide ((hb6.block _ (lt_of_block (unhide BR))).trans (unhide BR))
                have BX6 := hide ((hb6.block _ (lt_of_block (unhide BX))).trans (unhide BX))
                have HB6 := hide (bel_on (unhide HBW) hb6)
                have HK6 : Hid (TxsOwn w3.heap.size w6 (.slice va K.length vc) K) := ⟨(Gr.of (S := fun _ => False) hb6).own (unhide HK).1 (fun _ _ q => q), fun x hx => ((unhide HK).2 x hx).later hb6⟩
                clear hb6 CC xx0 xx1 xx2 xx3 xx4 xxl
                have zz0 := cell_of (unhide BR6) 0 _ rfl
                have zz1 := cell_of (unhide BR6) 1 _ rfl
                have zz2 := cell_of (unhide BR6) 2 _ rfl
                have zz3 := cell_of (unhide BR6) 3 _ rfl
                have zz4 := cell_of (unhide BR6) 4 _ rfl
                have zf0 := frozen_of (unhide BR6) 0
                have zf1 := frozen_of (unhide BR6) 1
                have zf2 := frozen_of (unhide BR6) 2
                have zf3 := frozen_of (unhide BR6) 3
                have zf4 := frozen_of (unhide BR6) 4
                have zzl := lt_of_block (unhide BR6)
                by_cases h0 : y = 0
                · subst h0
                  have R2 : Hid (((0 : Int), ((z0, z1, z2, z3, K.map (·.1)) : BlkD)) = (x, b)) := by have e := unhide HXX; rw [if_neg (by simp)] at e; exact e
                  have xx0 := cell_of (unhide BX6) 0 _ rfl
                  have xx1 := cell_of (unhide BX6) 1 _ rfl
                  have xx2 := cell_of (unhide BX6) 2 _ rfl
                  have xx3 := cell_of (unhide BX6) 3 _ rfl
                  have xx4 := cell_of (unhide BX6) 4 _ rfl
                  have xxl := lt_of_block (unhide BX6)
                  have hne : w.heap.size ≠ w2.heap.size := by omega
                  clear HXX
                  go_wp2
                  (try simp only [Exit.inBlock, Exit.then])
                  have hG := ((((((Gr.refl w6 (fun q => q = w.heap.size)).one w.heap.size 0 (.inl rfl) (.int .i64 z0)).one w.heap.size 1 (.inl rfl) (.int .i64 z1)).one w.heap.size 2 (.inl rfl) (.int .i64 z2)).one w.heap.size 3 (.inl rfl) (.int .i64 z3)).one w.heap.size 4 (.inl rfl) (.slice va K.length vc))
                  refine bodyPost_ret (v := .tuple #[.agg #[.int .i64 z0, .int .i64 z1, .int .i64 z2, .int .i64 z3, .slice va K.length vc], .int .i64 0]) ?_ rfl ?_
                  · rw [results_ct rfl]
                    go_simp
                  · have hK7 : TxsOwn w3.heap.size _ (.slice va K.length vc) K := ⟨hG.own (unhide HK6).1 (fun q hq e => by have := ((unhide HK6).1.lt q hq).1; omega), fun x hx => ((unhide HK6).2 x hx).gr hG (fun q e => by omega)⟩
                    obtain ⟨ca, cc, e1, hT, sT⟩ := hK7.txs
                    cases e1
                    obtain ⟨r1, r2⟩ := Prod.mk.inj (unhide R2)
                    subst r1 r2
                    exact ⟨va, K.length, vc, rfl, hT, sT, hG.below (unhide HB6) (unhide HB6).size (fun q e => by rw [e]; exact Nat.le_refl _)⟩
                · have gy : (y != 0) = true := by simp [h0]
                  have R2 : Hid ((y, zeroBk) = (x, b)) := by have e := unhide HXX; rw [if_pos h0] at e; exact e
                  clear HXX h0
                  clear zz0 zz1 zz2 zz3 zz4 zf0 zf1 zf2 zf3 zf4 zzl
                  have CF := hide (failB_is y w6)
                  go_wp2_with fail
                  refine (unhide CF).mono ?_
                  rintro e wf ⟨rfl, hbf⟩
                  have BRF := hide ((hbf.block _ (lt_of_block (unhide BR6))).trans (unhide BR6))
                  have HBF := hide (bel_on (unhide HB6) hbf)
                  clear hbf CF
                  have zz0 := cell_of (unhide BRF) 0 _ rfl
                  have zz1 := cell_of (unhide BRF) 1 _ rfl
                  have zz2 := cell_of (unhide BRF) 2 _ rfl
                  have zz3 := cell_of (unhide BRF) 3 _ rfl
                  have zz4 := cell_of (unhide BRF) 4 _ rfl
                  have zf0 := frozen_of (unhide BRF) 0
                  have zf1 := frozen_of (unhide BRF) 1
                  have zf2 := frozen_of (unhide BRF) 2
                  have zf3 := frozen_of (unhide BRF) 3
                  have zf4 := frozen_of (unhide BRF) 4
                  have zzl := lt_of_block (unhide BRF)
                  go_wp2
                  (try simp only [Exit.inBlock, Exit.then])
                  have hG := ((((((Gr.refl wf (fun q => q = w.heap.size)).one w.heap.size 0 (.inl rfl) (.int .i64 0)).one w.heap.size 1 (.inl rfl) (.int .i64 0)).one w.heap.size 2 (.inl rfl) (.int .i64 0)).one w.heap.size 3 (.inl rfl) (.int .i64 0)).one w.heap.size 4 (.inl rfl) (.slice none 0 0))
                  refine bodyPost_ret (v := .tuple #[.agg #[.int .i64 0, .int .i64 0, .int .i64 0, .int .i64 0, .slice none 0 0], .int .i64 y]) ?_ rfl (blk_zero (unhide R2) ?_)
                  · rw [results_ct rfl]
                    go_simp
                  · exact hG.below (unhide HBF) (unhide HBF).size (fun q e => by rw [e]; exact Nat.le_refl _)
      · go_loopw [13, 80] (fun pv i wr => ∃ (k : Nat) (P : List ByteArray), k ≤ tn ∧ i = .int .i64 k ∧ Hid (wr.ownsRow Y.heap.size 9 1 pv P.length (P.map Value.string)) ∧ Hid (glue P (T.drop k) = ps) ∧ Hid (P.length ≤ k ∧ ∀ p ∈ P, p.size ≤ 4000 * k) ∧ Hid (Below Y.heap.size Y wr)) (fun _ i _ => tn - (intOf i).toNat)
        case atStart => exact ⟨0, [], Nat.zero_le _, rfl, ST, GL, SM, (Below.refl _ _ : Below Y.heap.size Y Y)⟩
        case round =>
          obtain ⟨k, P, hk, rfl, HO, HA, HP, HBp⟩ := hrel
          clear ST GL SM
          obtain ⟨pa, pc, rfl, sp, hpg⟩ := own_head (unhide HO)
          have HBq := hide (bel_on (unhide HB3) (unhide HBp))
          by_cases hlt : k < tn
          · have hkl : k < T.length := by rw [unhide HTN]; exact hlt
            have lk := (unhide HLC) wr (unhide HBq) (1 + k) (by have := unhide HLN2; omega)
            obtain ⟨y, hy⟩ : ∃ y, T[k] = y := ⟨_, rfl⟩
            rw [show (hd :: T).getD (1 + k) ⟨#[]⟩ = y by rw [← hy, Nat.add_comm]; simp [List.getD_eq_getElem?_getD, hkl]] at lk
            have hyz : y.size ≤ 4000 := (unhide HSM) y (by rw [← hy]; exact List.mem_cons_of_mem _ (List.getElem_mem hkl))
            have ll : X.heap.size < wr.heap.size := by have h1 := (unhide HBq).size; omega
            have AT := hide (show glue P (y :: T.drop (k + 1)) = ps by rw [← hy, ← List.drop_eq_getElem_cons hkl]; exact unhide HA)
            have hkI : (k : Int) < (tn : Int) := by omega
            clear hy HA
            by_cases h0 : y.size = 0
            · obtain rfl := empty_size h0
              have GN : Hid (glue P (T.drop (k + 1)) = ps) := by have e := unhide AT; rw [glue_skip _ _ _ h0] at e; exact e
              have HP2 : Hid (P.length ≤ k + 1 ∧ ∀ p ∈ P, p.size ≤ 4000 * (k + 1)) := ⟨by have := (unhide HP).1; omega, fun p hp => by have := (unhide HP).2 p hp; omega⟩
              clear AT h0 hyz
              go_wp2
              go_roundw
              case rel => exact ⟨k + 1, P, by omega, by go_num, HO, GN, HP2, HBp⟩
              case measure => simp [intOf]; omega
            · have gne := str_none h0
              have gn3 : ¬ y.toList = [] := fun e => by rw [e] at gne; simp at gne
              have gn4 : y.toList.isEmpty = false := List.isEmpty_eq_false_iff.2 gn3
              obtain ⟨pn, hpn⟩ : ∃ pn, P.length = pn := ⟨_, rfl⟩
              have hpk : pn ≤ k := by rw [← hpn]; exact (unhide HP).1
              rw [hpn] at HO sp hpg ⊢
              by_cases hp0 : pn = 0
              · subst hp0
                have HT : P.length = 0 ∨ hasTx y = true := .inl hpn
                have hbn := bel_new wr (.cells #[.string ⟨#[]⟩] 9)
                have OWN5 := hide ((Gr.of (S := fun _ => False) hbn).own (unhide HO) (fun _ _ q => q))
                have NEWS := hide (World.news_of_block (heap_alloc_new wr (.cells #[.string ⟨#[]⟩] 9)))
                have HB6 := hide (bel_on (unhide HBp) hbn)
                have GN : Hid (glue (P ++ [⟨#[]⟩ ++ y]) (T.drop (k + 1)) = ps) := by have e := unhide AT; rw [glue_new _ _ _ h0 HT] at e; show _ = _; rw [empty_app]; exact e
                have HP2 : Hid ((P ++ [(⟨#[]⟩ : ByteArray) ++ y]).length ≤ k + 1 ∧ ∀ p ∈ P ++ [(⟨#[]⟩ : ByteArray) ++ y], p.size ≤ 4000 * (k + 1)) := ⟨by rw [List.length_append, hpn]; simp <;> omega, fun p hp => by
                  rcases List.mem_append.1 hp with hp | hp
                  · have := (unhide HP).2 p hp; omega
                  · rw [List.mem_singleton.1 hp, empty_app]; omega⟩
                have HPN := hide hpn
                have hsz0 : ((⟨#[]⟩ : ByteArray)).size + y.size ≤ 4000 := by show 0 + y.size ≤ 4000; omega
                clear hbn AT HT hpn
                go_wp2_with (at_builtin; refine wpList_append_lies _ rfl _ _ 35 rfl Y.heap.size 9 j0 (.string ⟨#[]⟩) 1 16 Tryz.underlying35 hj jz0 jz1 jz2 rfl (by decide) _ _ _ rfl (unhide OWN5) ⟨wr.heap.size, 0, none⟩ 1 1 [.string ⟨#[]⟩] rfl rfl (unhide NEWS) (fun u hu => by simp at hu; subst hu; rfl) (by decide) (by unfold maxLen; omega) (by omega) (unhide HB6).size _ rfl ?_; intro g7 cap7 w7 hown7 hgrow7 hor7 _; have hown8 : w7.ownsRow Y.heap.size 9 1 (.slice (some ⟨g7, 0, none⟩) (0 + 1) cap7) (0 + 1) ((P ++ [(⟨#[]⟩ : ByteArray)]).map Value.string) := (by rw [List.map_append]; exact hown7); obtain ⟨lc, lg, lf, lb, LS⟩ := own_last hown8 (unhide HPN); have HB7 := hide ((unhide HB6).grown hgrow7 (unhide HB6).size (fun k hk => ((unhide OWN5).lt k hk).1)); have HBS := hide ((unhide HB7).setCell (p := ⟨g7, 0, none⟩) lb (.string ((⟨#[]⟩ : ByteArray) ++ y))); have OWS := hide (LS ((⟨#[]⟩ : ByteArray) ++ y)); clear hown7 hown8 hgrow7 hor7 LS)
                go_roundw
                case rel =>
                  refine ⟨k + 1, P ++ [(⟨#[]⟩ : ByteArray) ++ y], by omega, by go_num, ?_, GN, HP2, HBS⟩
                  have e := unhide OWS
                  show World.ownsRow _ _ _ _ _ _ _
                  rw [List.length_append, unhide HPN]
                  exact e
                case measure => simp [intOf]; omega
              · have gp0 : ((pn : Int) == 0) = false := by simp; omega
                obtain ⟨g9, rfl, hg9, hg9l⟩ := hpg (by omega)
                cases ht : hasTx y with
                | true =>
                  have HT : P.length = 0 ∨ hasTx y = true := .inr ht
                  have CP := hide (hasPrefix_is y hyz true ht wr)
                  have hbn := bel_new wr (.cells #[.string ⟨#[]⟩] 9)
                  have OWN5 := hide ((Gr.of (S := fun _ => False) hbn).own (unhide HO) (fun _ _ q => q))
                  have NEWS := hide (World.news_of_block (heap_alloc_new wr (.cells #[.string ⟨#[]⟩] 9)))
                  have HB6 := hide (bel_on (unhide HBp) hbn)
                  have GN : Hid (glue (P ++ [⟨#[]⟩ ++ y]) (T.drop (k + 1)) = ps) := by have e := unhide AT; rw [glue_new _ _ _ h0 HT] at e; show _ = _; rw [empty_app]; exact e
                  have HP2 : Hid ((P ++ [(⟨#[]⟩ : ByteArray) ++ y]).length ≤ k + 1 ∧ ∀ p ∈ P ++ [(⟨#[]⟩ : ByteArray) ++ y], p.size ≤ 4000 * (k + 1)) := ⟨by rw [List.length_append, hpn]; simp <;> omega, fun p hp => by
                    rcases List.mem_append.1 hp with hp | hp
                    · have := (unhide HP).2 p hp; omega
                    · rw [List.mem_singleton.1 hp, empty_app]; omega⟩
                  have HPN := hide hpn
                  have hsz0 : ((⟨#[]⟩ : ByteArray)).size + y.size ≤ 4000 := by show 0 + y.size ≤ 4000; omega
                  clear hbn AT HT hpn
                  go_wp2_with fail
                  refine (unhide CP).mono ?_
                  rintro e w5 ⟨rfl, hq⟩
                  rw [← hq]
                  clear hq w5 CP
                  go_wp2_with (at_builtin; refine wpList_append_lies _ rfl _ _ 35 rfl Y.heap.size 9 j0 (.string ⟨#[]⟩) 1 16 Tryz.underlying35 hj jz0 jz1 jz2 rfl (by decide) _ _ _ rfl (unhide OWN5) ⟨wr.heap.size, 0, none⟩ 1 1 [.string ⟨#[]⟩] rfl rfl (unhide NEWS) (fun u hu => by simp at hu; subst hu; rfl) (by decide) (by unfold maxLen; omega) (by omega) (unhide HB6).size _ rfl ?_; intro g7 cap7 w7 hown7 hgrow7 hor7 _; have hown8 : w7.ownsRow Y.heap.size 9 1 (.slice (some ⟨g7, 0, none⟩) (pn + 1) cap7) (pn + 1) ((P ++ [(⟨#[]⟩ : ByteArray)]).map Value.string) := (by rw [List.map_append]; exact hown7); obtain ⟨lc, lg, lf, lb, LS⟩ := own_last hown8 (unhide HPN); have HB7 := hide ((unhide HB6).grown hgrow7 (unhide HB6).size (fun k hk => ((unhide OWN5).lt k hk).1)); have HBS := hide ((unhide HB7).setCell (p := ⟨g7, pn, none⟩) lb (.string ((⟨#[]⟩ : ByteArray) ++ y))); have OWS := hide (LS ((⟨#[]⟩ : ByteArray) ++ y)); clear hown7 hown8 hgrow7 hor7 LS)
                  go_roundw
                  case rel =>
                    refine ⟨k + 1, P ++ [(⟨#[]⟩ : ByteArray) ++ y], by omega, by go_num, ?_, GN, HP2, HBS⟩
                    have e := unhide OWS
                    show World.ownsRow _ _ _ _ _ _ _
                    rw [List.length_append, unhide HPN]
                    exact e
                  case measure => simp [intOf]; omega
                | false =>
                  obtain ⟨n9, rfl⟩ : ∃ n9, pn = n9 + 1 := ⟨pn - 1, by omega⟩
                  obtain ⟨Q, a, rfl⟩ : ∃ Q a, P = Q ++ [a] := ⟨P.dropLast, P.getLast (fun e => by rw [e] at hpn; simp at hpn), (List.dropLast_concat_getLast _).symm⟩
                  have hQ : Q.length = n9 := by simpa using hpn
                  have CP := hide (hasPrefix_is y hyz false ht wr)
                  have GN : Hid (glue (Q ++ [a ++ y]) (T.drop (k + 1)) = ps) := by have e := unhide AT; rw [glue_on _ _ _ _ h0 ht] at e; exact e
                  have haz : a.size ≤ 4000 * k := (unhide HP).2 a (by simp)
                  have HP2 : Hid ((Q ++ [a ++ y]).length ≤ k + 1 ∧ ∀ p ∈ Q ++ [a ++ y], p.size ≤ 4000 * (k + 1)) := ⟨by rw [List.length_append, hQ]; simp <;> omega, fun p hp => by
                    rcases List.mem_append.1 hp with hp | hp
                    · have := (unhide HP).2 p (by simp [hp]); omega
                    · rw [List.mem_singleton.1 hp, ByteArray.size_append]; omega⟩
                  obtain ⟨lc, lg, lf, lb, LS⟩ := own_last (unhide HO) hQ
                  have HBS := hide ((unhide HBp).setCell (p := ⟨g9, n9, none⟩) lb (.string (a ++ y)))
                  have OWS := hide (LS (a ++ y))
                  have HQ := hide hQ
                  have hay : a.size + y.size ≤ 16004000 := by omega
                  clear LS AT hpn hQ
                  go_wp2_with fail
                  refine (unhide CP).mono ?_
                  rintro e w5 ⟨rfl, hq⟩
                  rw [← hq]
                  clear hq w5 CP
                  go_wp2
                  go_roundw
                  case rel =>
                    refine ⟨k + 1, Q ++ [a ++ y], by omega, by go_num, ?_, GN, HP2, HBS⟩
                    have e := unhide OWS
                    show World.ownsRow _ _ _ _ _ _ _
                    rw [List.length_append, unhide HQ]
                    exact e
                  case measure => simp [intOf]; omega
          · obtain rfl : k = tn := by omega
            have hPs : P = ps := by have e := unhide HA; rw [List.drop_of_length_le (by rw [unhide HTN]; omega)] at e; exact e
            rw [hPs] at HO hpg ⊢
            obtain ⟨w3, hw3⟩ : ∃ w3, w3 = wr := ⟨_, rfl⟩
            subst hw3
            obtain ⟨pn, hpn⟩ : ∃ pn, ps.length = pn := ⟨_, rfl⟩
            rw [hpn] at HO hpg ⊢
            have hpn4 : pn ≤ 4000 := by rw [← hpn]; exact (unhide HPS).1
            have KLX : Hid (∀ (k : Nat) (K : List TxV), k ≤ pn → K.length ≤ k → K.length ≤ 4096) := fun k K h1 h2 => by omega
            have HTX := hide (Bk.texts_own (unhide HO))
            have HPG := hide hpg
            have HPN := hide hpn
            have hY3 : Y.heap.size ≤ w3.heap.size := (unhide HBp).size
            have HB4 := hide (bel_on (unhide HB3) (unhide HBp))
            have BR4 := hide (((unhide HBp).block _ (lt_of_block (unhide BR3))).trans (unhide BR3))
            have BX4 := hide (((unhide HBp).block _ (lt_of_block (unhide BX3))).trans (unhide BX3))
            have ST : Hid (TxsOwn w3.heap.size w3 (.slice none 0 0) []) := ⟨⟨rfl, .inl ⟨rfl, rfl⟩⟩, fun x hx => by cases hx⟩
            have hwX2 : w.heap.size < X2.heap.size := by omega
            have GB : Hid (∀ W, Gr w3 W (fun q => q = w2.heap.size) → Below X2.heap.size X2 W) := fun W g => g.below (unhide HB4) (unhide HB4).size (fun q e => by omega)
            have HB0 := HB2
            have C4 : Hid (∀ p W, p ∈ ps → Below X2.heap.size X2 W → Calls Tryz.prog 56 #[.string p] W fun e w' => TxIs W.heap.size w' e (pT p) (pE p) ∧ Below W.heap.size W w') := fun p W hp hb => readTx_all p ((unhide HPS).2 p hp) W ((unhide HEV) W hb)
            obtain ⟨i0, hi, hz0, hz1, hz2⟩ := info_parts Tryz.infoTxP
            clear HA HP HO hpg hpn hPs sp HBp HBq BX3
            go_wp2
            go_loopw [108] (fun i wr => ∃ (k : Nat) (K : List TxV) (v : Value), k ≤ pn ∧ i = .int .i64 k ∧ Hid (K.length ≤ k) ∧ Hid (wr.heap[w2.heap.size]? = some (.cells [.int .i64 z0, .int .i64 z1, .int .i64 z2, .int .i64 z3, v].toArray 24 (0, 0))) ∧ Hid (TxsOwn w3.heap.size wr v K) ∧ Hid (prsGo (K.map (·.1)) (ps.drop k) = prsGo [] ps) ∧ Hid (Gr w3 wr (fun q => q = w2.heap.size))) (fun i _ => pn - (intOf i).toNat)
            case atStart => exact ⟨0, [], .slice none 0 0, Nat.zero_le _, rfl, (Nat.le_refl _ : ([] : List TxV).length ≤ 0), BX4, ST, (rfl : prsGo [] (ps.drop 0) = prsGo [] ps), (Gr.refl _ _ : Gr w3 w3 (fun q => q = w2.heap.size))⟩
            case round =>
              obtain ⟨k, K, v, hk, rfl, HKL, BX, HK, HA, HG⟩ := hrel
              clear ST BX4
              have hbr := (unhide GB) wr (unhide HG)
              have hwr3 : w3.heap.size ≤ wr.heap.size := (unhide HG).size
              have BR := hide ((unhide HG).heap (unhide BR4) (by omega))
              obtain ⟨va, vc, rfl, _⟩ := own_head (unhide HK).1
              by_cases hlt : k < pn
              · have hkl : k < ps.length := by rw [unhide HPN]; exact hlt
                obtain ⟨pb, po, rfl, hpc⟩ := (unhide HTX).2 (by omega)
                obtain ⟨pg, e, hpb, hpl⟩ := (unhide HPG) (by omega)
                cases e
                have ppp := (World.cell?_of_block (a := ⟨pb, 0 + k, none⟩) ((unhide HG).block pb hpl (by omega))).trans (hpc k hkl)
                rw [Nat.zero_add] at ppp
                have ppl : pb < wr.heap.size := Nat.lt_of_lt_of_le hpl hwr3
                have AT := hide (prsGo_at (K.map (·.1)) ps k hkl)
                obtain ⟨pt, hpt⟩ : ∃ pt, ps[k] = pt := ⟨_, rfl⟩
                rw [hpt] at ppp AT
                have hpm : pt ∈ ps := hpt ▸ List.getElem_mem hkl
                have CC := hide ((unhide C4) pt wr hpm hbr)
                have hkI : (k : Int) < (pn : Int) := by omega
                clear hpt hpc hpm
                go_wp2_with fail
                refine (unhide CC).mono ?_
                rintro e w5 ⟨⟨v1, v2, rfl, ho5⟩, hb5⟩
                obtain ⟨th, tI, tO, htp⟩ : ∃ th tI tO, pT pt = (th, tI, tO) := ⟨_, _, _, rfl⟩
                rw [htp] at ho5 AT ⊢
                simp only at ho5 ⊢
                obtain ⟨pe, hpe⟩ : ∃ pe, pE pt = pe := ⟨_, rfl⟩
                rw [hpe] at AT ⊢
                obtain ⟨g1, g2⟩ := ho5.one
                obtain ⟨ai, ci, ao, co, e1, e2, _⟩ := ho5.at
                have HTO := hide (ho5.base hwr3)
                have HG5 := hide (Gr.on (unhide HG) hb5)
                have BX5 := hide ((hb5.block _ (lt_of_block (unhide BX))).trans (unhide BX))
                have BR5 := hide ((hb5.block _ (lt_of_block (unhide BR))).trans (unhide BR))
                have HK5 : Hid (TxsOwn w3.heap.size w5 (.slice va K.length vc) K) := ⟨(Gr.of (S := fun _ => False) hb5).own (unhide HK).1 (fun _ _ q => q), fun x hx => ((unhide HK).2 x hx).later hb5⟩
                have h35 : w3.heap.size ≤ w5.heap.size := (unhide HG5).size
                clear ho5 hb5 CC htp hpe
                subst e1 e2
                by_cases h0 : pe = 0
                · subst h0
                  obtain ⟨U, hU⟩ : ∃ U, U = (w5.alloc (.cells #[.int .i64 th, .slice ai tI.length ci, .slice ao tO.length co] 78)).alloc (.cells #[.int .i64 th, .slice ai tI.length ci, .slice ao tO.length co] 78) := ⟨_, rfl⟩
                  have hbU : Below w5.heap.size w5 U := by rw [hU]; exact bel_on (bel_new _ _) (bel_new _ _)
                  have hUs : U.heap.size = w5.heap.size + 2 := by rw [hU]; simp
                  have NEWS := hide (World.news_of_block (heap_alloc_new (w5.alloc (.cells #[.int .i64 th, .slice ai tI.length ci, .slice ao tO.length co] 78)) (.cells #[.int .i64 th, .slice ai tI.length ci, .slice ao tO.length co] 78)))
                  rw [show (w5.alloc (.cells #[.int .i64 th, .slice ai tI.length ci, .slice ao tO.length co] 78)).heap.size = w5.heap.size + 1 by simp, ← hU] at NEWS
                  have OWNU := hide ((Gr.of (S := fun _ => False) hbU).own (unhide HK5).1 (fun _ _ q => q))
                  have HTU := hide ((unhide HTO).later hbU)
                  have HKU : Hid (∀ x ∈ K, TxOwn w3.heap.size U x.2.1 x.2.2 x.1.2.1 x.1.2.2) := fun x hx => ((unhide HK5).2 x hx).later hbU
                  have BXU := hide ((hbU.block _ (lt_of_block (unhide BX5))).trans (unhide BX5))
                  have HGU := hide (Gr.on (unhide HG5) hbU)
                  have xx4 := cell_of (unhide BX5) 4 _ rfl
                  have xxl := lt_of_block (unhide BX5)
                  have xxf := frozen_of (unhide BX5) 4
                  have R : Hid (prsGo ((K ++ [(((th, tI, tO), Value.slice ai tI.length ci, Value.slice ao tO.length co) : TxV)]).map (·.1)) (ps.drop (k + 1)) = prsGo [] ps) := by
                    have e := unhide AT
                    rw [if_neg (by simp)] at e
                    show _ = _
                    rw [← unhide HA, e, List.map_append]
                    rfl
                  have KL : Hid (K.length ≤ 4096) := by
                    have h1 := unhide HKL
                    have h2 := unhide HPN
                    have h3 := pcsF_len (resN s).size (resN s)
                    show _ ≤ _
                    exact unhide KLX k K hk h1
                  clear hbU AT HA
                  have OWNR : Hid (World.ownsRow ((w5.alloc (.cells #[.int .i64 th, .slice ai tI.length ci, .slice ao tO.length co] 78)).alloc (.cells #[.int .i64 th, .slice ai tI.length ci, .slice ao tO.length co] 78)) w3.heap.size 78 3 (.slice va K.length vc) K.length (txCells K)) := by rw [← hU]; exact OWNU
                  have NEWR : Hid (∀ j u, [Value.int .i64 th, .slice ai tI.length ci, .slice ao tO.length co][j]? = some u → World.cell? ((w5.alloc (.cells #[.int .i64 th, .slice ai tI.length ci, .slice ao tO.length co] 78)).alloc (.cells #[.int .i64 th, .slice ai tI.length ci, .slice ao tO.length co] 78)) ((⟨w5.heap.size + 1, 0, none⟩ : Addr).add j) = some u) := by rw [← hU]; exact NEWS
                  have SZR : w3.heap.size ≤ ((w5.alloc (.cells #[.int .i64 th, .slice ai tI.length ci, .slice ao tO.length co] 78)).alloc (.cells #[.int .i64 th, .slice ai tI.length ci, .slice ao tO.length co] 78)).heap.size := by rw [← hU]; omega
                  go_wp2_with (at_builtin; refine wpList_append_lies _ rfl _ _ 22 rfl w3.heap.size 78 i0 (.agg #[.int .i64 0, .slice none 0 0, .slice none 0 0]) 3 56 Tryz.underlying22 hi hz0 hz1 hz2 rfl (by decide) _ _ _ rfl (unhide OWNR) ⟨w5.heap.size + 1, 0, none⟩ 1 1 [.int .i64 th, .slice ai tI.length ci, .slice ao tO.length co] rfl rfl (unhide NEWR) (fun u hu => by simp at hu; rcases hu with rfl | rfl | rfl <;> rfl) (by decide) (by have := unhide KL; unfold maxLen; omega) (by have := unhide KL; omega) SZR _ rfl ?_; intro g7 cap7 w7 hown7 hgrow7 hor7 _; rw [← hU] at hgrow7; have hx7 := (hgrow7.block w2.heap.size (lt_of_block (unhide BXU)) (fun e => own_other (unhide OWNU) (unhide BXU) (by decide) e.symm)).trans (unhide BXU); have HX7 := hide hx7; have HO7 := hide hown7; have HG7 := hide hgrow7; have yy4 := cell_of hx7 4 _ rfl; have yyl := lt_of_block hx7; have yyf := frozen_of hx7 4; clear hx7 hown7 hgrow7 hor7)
                  have hx7 := unhide HX7
                  have hown7 := unhide HO7
                  have hgrow7 := unhide HG7
                  have FIN : Hid (∀ w8, w8 = w7.setCell ⟨w2.heap.size, 4, none⟩ (.slice (some ⟨g7, 0, none⟩) (K.length + 1) cap7) → Hid (w8.heap[w2.heap.size]? = some (.cells [.int .i64 z0, .int .i64 z1, .int .i64 z2, .int .i64 z3, .slice (some ⟨g7, 0, none⟩) (K.length + 1) cap7].toArray 24 (0, 0))) ∧ Hid (TxsOwn w3.heap.size w8 (.slice (some ⟨g7, 0, none⟩) (K.length + 1) cap7) (K ++ [(((th, tI, tO), Value.slice ai tI.length ci, Value.slice ao tO.length co) : TxV)])) ∧ Hid (Gr w3 w8 (fun q => q = w2.heap.size))) := by
                    rintro w8 rfl
                    have hg8 := (Gr.refl w7 (fun q => q = w2.heap.size)).one w2.heap.size 4 (.inl rfl) (.slice (some ⟨g7, 0, none⟩) (K.length + 1) cap7)
                    have far : ∀ (k : Nat) (cs : Array Value) (t : TypeId), U.heap[k]? = some (.cells cs t (0, 0)) → t ≠ 78 → t ≠ 24 → (w7.setCell ⟨w2.heap.size, 4, none⟩ (.slice (some ⟨g7, 0, none⟩) (K.length + 1) cap7)).heap[k]? = U.heap[k]? := fun q cs t hq h1 h2 => by
                      have e7 := hgrow7.block q (lt_of_block hq) (fun e => own_other (unhide OWNU) hq h1 e.symm)
                      have ne : q ≠ w2.heap.size := fun e => by
                        subst e
                        rw [unhide BXU] at hq
                        injection hq with hq
                        injection hq with _ hq
                        exact h2 hq.symm
                      exact (hg8.block q (lt_of_block (e7.trans hq)) ne).trans e7
                    refine ⟨us_set hx7 4 _, ⟨?_, fun x hx => ?_⟩, ?_⟩
                    · rw [List.length_append, txCells_snoc]
                      exact hg8.own hown7 (fun q hq e => own_other hown7 hx7 (by decide) (by rw [hq, e]))
                    · rcases List.mem_append.1 hx with hx | hx
                      · exact ((unhide HKU) x hx).far2 far
                      · rw [List.mem_singleton.1 hx]
                        exact (unhide HTU).far2 far
                    · exact ((unhide HGU).grown hgrow7 (fun q e => .inr (((unhide OWNU).lt q e).1))).trans hg8
                  clear hown7 hgrow7 hx7
                  go_wp2
                  go_roundw
                  case rel =>
                    obtain ⟨f1, f2, f3⟩ := (unhide FIN) _ rfl
                    first
                      | exact ⟨k + 1, _, _, by omega, by go_num, (by show _ ≤ _; have := unhide HKL; simp; omega : Hid (_ ≤ k + 1)), f1, f2, R, f3⟩
                      | (refine ⟨_, _, _, _, _, ?_, rfl, rfl, rfl, rfl, rfl⟩
                         exact ⟨k + 1, by omega, by go_num, _, (by show _ ≤ _; have := unhide HKL; simp; omega : Hid ((K ++ [(((th, tI, tO), Value.slice ai tI.length ci, Value.slice ao tO.length co) : TxV)]).length ≤ k + 1)), _, (by show _ = _; exact (Array.getElem?_eq_some_iff.1 (unhide f1)).2), f2, R, f3⟩)
                  case measure => simp [intOf]; omega
                · have gpe : (pe != 0) = true := by simp [h0]
                  have R : Hid ((pe, zeroBk) = (x, b)) := by
                    have e := unhide AT
                    rw [if_pos h0] at e
                    have e2 : prsGo [] ps = (pe, []) := by rw [← unhide HA, e]
                    have e3 := unhide HX
                    rw [e2, if_pos h0] at e3
                    exact e3
                  have hbw5 : Below w.heap.size w w5 := (unhide HB0).trans (((unhide GB) w5 (unhide HG5)).mono (unhide HB0).size)
                  have HBU := hide hbw5
                  clear AT HA h0
                  have BRT := hide (((bel_new w5 (.cells #[.int .i64 th, .slice ai tI.length ci, .slice ao tO.length co] 78)).block _ (lt_of_block (unhide BR5))).trans (unhide BR5))
                  have HBT := hide (bel_on (unhide HBU) (bel_new w5 (.cells #[.int .i64 th, .slice ai tI.length ci, .slice ao tO.length co] 78)))
                  have CF := hide (failB_is pe (w5.alloc (.cells #[.int .i64 th, .slice ai tI.length ci, .slice ao tO.length co] 78)))
                  go_wp2_with fail
                  refine (unhide CF).mono ?_
                  rintro e wf ⟨rfl, hbf⟩
                  have BRF := hide ((hbf.block _ (lt_of_block (unhide BRT))).trans (unhide BRT))
                  have HBF := hide (bel_on (unhide HBT) hbf)
                  clear hbf CF
                  have zz0 := cell_of (unhide BRF) 0 _ rfl
                  have zz1 := cell_of (unhide BRF) 1 _ rfl
                  have zz2 := cell_of (unhide BRF) 2 _ rfl
                  have zz3 := cell_of (unhide BRF) 3 _ rfl
                  have zz4 := cell_of (unhide BRF) 4 _ rfl
                  have zf0 := frozen_of (unhide BRF) 0
                  have zf1 := frozen_of (unhide BRF) 1
                  have zf2 := frozen_of (unhide BRF) 2
                  have zf3 := frozen_of (unhide BRF) 3
                  have zf4 := frozen_of (unhide BRF) 4
                  have zzl := lt_of_block (unhide BRF)
                  go_wp2
                  (try simp only [Exit.inBlock, Exit.then])
                  have hG := ((((((Gr.refl wf (fun q => q = w.heap.size)).one w.heap.size 0 (.inl rfl) (.int .i64 0)).one w.heap.size 1 (.inl rfl) (.int .i64 0)).one w.heap.size 2 (.inl rfl) (.int .i64 0)).one w.heap.size 3 (.inl rfl) (.int .i64 0)).one w.heap.size 4 (.inl rfl) (.slice none 0 0))
                  refine bodyPost_ret (v := .tuple #[.agg #[.int .i64 0, .int .i64 0, .int .i64 0, .int .i64 0, .slice none 0 0], .int .i64 pe]) ?_ rfl (blk_zero (unhide R) ?_)
                  · rw [results_ct rfl]
                    go_simp
                  · exact hG.below (unhide HBF) (unhide HBF).size (fun q e => by rw [e]; exact Nat.le_refl _)
              · have R : Hid (prsGo [] ps = (0, K.map (·.1))) := by show _ = _; rw [← unhide HA, prsGo_end _ ps k (by rw [unhide HPN]; omega)]
                have HX2 := unhide HX
                rw [unhide R, if_neg (by simp)] at HX2
                simp only at HX2
                obtain ⟨ca, cc, e1, hT, sT⟩ := (unhide HK).txs
                cases e1
                obtain ⟨y, hy⟩ : ∃ y, chkB (z0, z1, z2, z3, K.map (·.1)) = y := ⟨_, rfl⟩
                rw [hy] at HX2
                have CC := hide (rchkBlock_any z0 z1 z2 z3 va K.length vc (K.map (·.1)) y wr hT hy)
                have xx0 := cell_of (unhide BX) 0 _ rfl
                have xx1 := cell_of (unhide BX) 1 _ rfl
                have xx2 := cell_of (unhide BX) 2 _ rfl
                have xx3 := cell_of (unhide BX) 3 _ rfl
                have xx4 := cell_of (unhide BX) 4 _ rfl
                have xxl := lt_of_block (unhide BX)
                have HXX := hide HX2
                have ST2 := hide sT
                have hbw : Below w.heap.size w wr := (unhide HB0).trans (hbr.mono (unhide HB0).size)
                have HBW := hide hbw
                clear HX2 hT sT hy hbw HA
                go_wp2_with fail
                refine (unhide CC).mono ?_
                rintro e w6 ⟨rfl, hb6⟩
                have BR6 := hide ((hb6.block _ (lt_of_block (unhide BR))).trans (unhide BR))
                have BX6 := hide ((hb6.block _ (lt_of_block (unhide BX))).trans (unhide BX))
                have HB6 := hide (bel_on (unhide HBW) hb6)
                have HK6 : Hid (TxsOwn w3.heap.size w6 (.slice va K.length vc) K) := ⟨(Gr.of (S := fun _ => False) hb6).own (unhide HK).1 (fun _ _ q => q), fun x hx => ((unhide HK).2 x hx).later hb6⟩
                clear hb6 CC xx0 xx1 xx2 xx3 xx4 xxl
                have zz0 := cell_of (unhide BR6) 0 _ rfl
                have zz1 := cell_of (unhide BR6) 1 _ rfl
                have zz2 := cell_of (unhide BR6) 2 _ rfl
                have zz3 := cell_of (unhide BR6) 3 _ rfl
                have zz4 := cell_of (unhide BR6) 4 _ rfl
                have zf0 := frozen_of (unhide BR6) 0
                have zf1 := frozen_of (unhide BR6) 1
                have zf2 := frozen_of (unhide BR6) 2
                have zf3 := frozen_of (unhide BR6) 3
                have zf4 := frozen_of (unhide BR6) 4
                have zzl := lt_of_block (unhide BR6)
                by_cases h0 : y = 0
                · subst h0
                  have R2 : Hid (((0 : Int), ((z0, z1, z2, z3, K.map (·.1)) : BlkD)) = (x, b)) := by have e := unhide HXX; rw [if_neg (by simp)] at e; exact e
                  have xx0 := cell_of (unhide BX6) 0 _ rfl
                  have xx1 := cell_of (unhide BX6) 1 _ rfl
                  have xx2 := cell_of (unhide BX6) 2 _ rfl
                  have xx3 := cell_of (unhide BX6) 3 _ rfl
                  have xx4 := cell_of (unhide BX6) 4 _ rfl
                  have xxl := lt_of_block (unhide BX6)
                  have hne : w.heap.size ≠ w2.heap.size := by omega
                  clear HXX
                  go_wp2
                  (try simp only [Exit.inBlock, Exit.then])
                  have hG := ((((((Gr.refl w6 (fun q => q = w.heap.size)).one w.heap.size 0 (.inl rfl) (.int .i64 z0)).one w.heap.size 1 (.inl rfl) (.int .i64 z1)).one w.heap.size 2 (.inl rfl) (.int .i64 z2)).one w.heap.size 3 (.inl rfl) (.int .i64 z3)).one w.heap.size 4 (.inl rfl) (.slice va K.length vc))
                  refine bodyPost_ret (v := .tuple #[.agg #[.int .i64 z0, .int .i64 z1, .int .i64 z2, .int .i64 z3, .slice va K.length vc], .int .i64 0]) ?_ rfl ?_
                  · rw [results_ct rfl]
                    go_simp
                  · have hK7 : TxsOwn w3.heap.size _ (.slice va K.length vc) K := ⟨hG.own (unhide HK6).1 (fun q hq e => by have := ((unhide HK6).1.lt q hq).1; omega), fun x hx => ((unhide HK6).2 x hx).gr hG (fun q e => by omega)⟩
                    obtain ⟨ca, cc, e1, hT, sT⟩ := hK7.txs
                    cases e1
                    obtain ⟨r1, r2⟩ := Prod.mk.inj (unhide R2)
                    subst r1 r2
                    exact ⟨va, K.length, vc, rfl, hT, sT, hG.below (unhide HB6) (unhide HB6).size (fun q e => by rw [e]; exact Nat.le_refl _)⟩
                · have gy : (y != 0) = true := by simp [h0]
                  have R2 : Hid ((y, zeroBk) = (x, b)) := by have e := unhide HXX; rw [if_pos h0] at e; exact e
                  clear HXX h0
                  clear zz0 zz1 zz2 zz3 zz4 zf0 zf1 zf2 zf3 zf4 zzl
                  have CF := hide (failB_is y w6)
                  go_wp2_with fail
                  refine (unhide CF).mono ?_
                  rintro e wf ⟨rfl, hbf⟩
                  have BRF := hide ((hbf.block _ (lt_of_block (unhide BR6))).trans (unhide BR6))
                  have HBF := hide (bel_on (unhide HB6) hbf)
                  clear hbf CF
                  have zz0 := cell_of (unhide BRF) 0 _ rfl
                  have zz1 := cell_of (unhide BRF) 1 _ rfl
                  have zz2 := cell_of (unhide BRF) 2 _ rfl
                  have zz3 := cell_of (unhide BRF) 3 _ rfl
                  have zz4 := cell_of (unhide BRF) 4 _ rfl
                  have zf0 := frozen_of (unhide BRF) 0
                  have zf1 := frozen_of (unhide BRF) 1
                  have zf2 := frozen_of (unhide BRF) 2
                  have zf3 := frozen_of (unhide BRF) 3
                  have zf4 := frozen_of (unhide BRF) 4
                  have zzl := lt_of_block (unhide BRF)
                  go_wp2
                  (try simp only [Exit.inBlock, Exit.then])
                  have hG := ((((((Gr.refl wf (fun q => q = w.heap.size)).one w.heap.size 0 (.inl rfl) (.int .i64 0)).one w.heap.size 1 (.inl rfl) (.int .i64 0)).one w.heap.size 2 (.inl rfl) (.int .i64 0)).one w.heap.size 3 (.inl rfl) (.int .i64 0)).one w.heap.size 4 (.inl rfl) (.slice none 0 0))
                  refine bodyPost_ret (v := .tuple #[.agg #[.int .i64 0, .int .i64 0, .int .i64 0, .int .i64 0, .slice none 0 0], .int .i64 y]) ?_ rfl (blk_zero (unhide R2) ?_)
                  · rw [results_ct rfl]
                    go_simp
                  · exact hG.below (unhide HBF) (unhide HBF).size (fun q e => by rw [e]; exact Nat.le_refl _)

end Go.Proofs.YthhlofipapfbnaaGreatDoor
