/- The contract of the reference's ReadTx, where the text is ended. -/
import Derived.Test.YthhlofipapfbnaaGreatDoorRefReadOToRefRtB
import Derived.Test.YthhlofipapfbnaaGreatDoorRefCheckB
namespace Go.Proofs.YthhlofipapfbnaaGreatDoor
open Go.RowKit

theorem in_list : inB.toList = [105, 110] := by rw [ByteArray.toList_eq]; rfl
theorem out_list : outB.toList = [111, 117, 116] := by rw [ByteArray.toList_eq]; rfl
theorem word_is {x y : ByteArray} (b : Bool) (h : decide (x = y) = b) : (x.toList == y.toList) = b := by
  rw [← h, Bool.eq_iff_iff, beq_iff_eq, decide_eq_true_iff]
  exact ⟨ba_list, fun e => by rw [e]⟩
def wordsStep (t : TxD) (E : Int) (W : List ByteArray) (X : List (Int × Int)) : Option TxD :=
  if E ≠ 0 then none
  else if W.getD 0 ⟨#[]⟩ = inB ∧ W.length = 3 then
    (match numOf (W.getD 1 ⟨#[]⟩), numOf (W.getD 2 ⟨#[]⟩) with
     | some a, some b => if t.2.2.length = 0 then some (t.1, t.2.1 ++ [(a, b, X)], t.2.2) else none
     | _, _ => none)
  else if W.getD 0 ⟨#[]⟩ = outB ∧ W.length = 2 then
    (match numOf (W.getD 1 ⟨#[]⟩) with
     | some a => some (t.1, t.2.1, t.2.2 ++ [(a, X)])
     | none => none)
  else none
theorem refStep_words (t : TxD) (x : ByteArray) (h : cutF x = true) : refStep t x = wordsStep t (prE (cutT x)) (spl 32 (cutH x)) (prL (cutT x)) := by
  unfold refStep
  rw [if_neg (by rw [h]; decide)]
  rfl
theorem ws_bad {t : TxD} {E : Int} {W : List ByteArray} {X : List (Int × Int)} (h : E ≠ 0) : wordsStep t E W X = none := if_pos h
theorem ws_in1 {t : TxD} {W : List ByteArray} {X : List (Int × Int)} (h0 : W.getD 0 ⟨#[]⟩ = inB) (h3 : W.length = 3) (h : numOf (W.getD 1 ⟨#[]⟩) = none) : wordsStep t 0 W X = none := by
  unfold wordsStep; rw [if_neg (by simp), if_pos ⟨h0, h3⟩, h]
theorem ws_in2 {t : TxD} {W : List ByteArray} {X : List (Int × Int)} (h0 : W.getD 0 ⟨#[]⟩ = inB) (h3 : W.length = 3) (h : numOf (W.getD 2 ⟨#[]⟩) = none) : wordsStep t 0 W X = none := by
  unfold wordsStep; rw [if_neg (by simp), if_pos ⟨h0, h3⟩, h]
  cases numOf (W.getD 1 ⟨#[]⟩) <;> rfl
theorem ws_in3 {t : TxD} {W : List ByteArray} {X : List (Int × Int)} (h0 : W.getD 0 ⟨#[]⟩ = inB) (h3 : W.length = 3) (h : t.2.2.length ≠ 0) : wordsStep t 0 W X = none := by
  unfold wordsStep; rw [if_neg (by simp), if_pos ⟨h0, h3⟩]
  cases numOf (W.getD 1 ⟨#[]⟩) with
  | none => rfl
  | some a =>
    cases numOf (W.getD 2 ⟨#[]⟩) with
    | none => rfl
    | some b => exact if_neg h
theorem ws_in {t : TxD} {W : List ByteArray} {X : List (Int × Int)} {a b : Int} (h0 : W.getD 0 ⟨#[]⟩ = inB) (h3 : W.length = 3) (ha : numOf (W.getD 1 ⟨#[]⟩) = some a) (hb : numOf (W.getD 2 ⟨#[]⟩) = some b) (h : t.2.2.length = 0) : wordsStep t 0 W X = some (t.1, t.2.1 ++ [(a, b, X)], t.2.2) := by
  unfold wordsStep; rw [if_neg (by simp), if_pos ⟨h0, h3⟩, ha, hb]
  exact if_pos h
theorem ws_out1 {t : TxD} {W : List ByteArray} {X : List (Int × Int)} (h0 : W.getD 0 ⟨#[]⟩ = outB) (h3 : W.length = 2) (h : numOf (W.getD 1 ⟨#[]⟩) = none) : wordsStep t 0 W X = none := by
  unfold wordsStep; rw [if_neg (by simp), if_neg (fun e => by omega), if_pos ⟨h0, h3⟩, h]
theorem ws_out {t : TxD} {W : List ByteArray} {X : List (Int × Int)} {a : Int} (h0 : W.getD 0 ⟨#[]⟩ = outB) (h3 : W.length = 2) (h : numOf (W.getD 1 ⟨#[]⟩) = some a) : wordsStep t 0 W X = some (t.1, t.2.1, t.2.2 ++ [(a, X)]) := by
  unfold wordsStep; rw [if_neg (by simp), if_neg (fun e => by omega), if_pos ⟨h0, h3⟩, h]
theorem ws_other {t : TxD} {W : List ByteArray} {X : List (Int × Int)} (h1 : ¬ (W.getD 0 ⟨#[]⟩ = inB ∧ W.length = 3)) (h2 : ¬ (W.getD 0 ⟨#[]⟩ = outB ∧ W.length = 2)) : wordsStep t 0 W X = none := by
  unfold wordsStep; rw [if_neg (by simp), if_neg h1, if_neg h2]

/-- What is read so far. -/
def SoFar (s : ByteArray) (j : Nat) (h : Int) (L1 : List (InD × Value)) (L2 : List (OutD × Value)) : Prop :=
  (j = 0 ∧ h = 0 ∧ L1 = [] ∧ L2 = []) ∨ (1 ≤ j ∧ linesTx s = foldTx (h, L1.map (·.1), L2.map (·.1)) ((linesOf s).drop j))

set_option maxRecDepth 10000 in
set_option maxHeartbeats 12800000 in
theorem readTx_ended (s : ByteArray) (hs : s.size ≤ 4000) (hn : endsB s = true) (w : World) (hE : EnvF w) :
    Calls Tryz.prog 56 #[.string s] w fun e w' => TxIs w.heap.size w' e (pT s) (pE s) ∧ Below w.heap.size w w' := by
  obtain ⟨i0, ii, iz0, iz1, iz2⟩ := info_parts Tryz.infoIn
  obtain ⟨o0, oi, oz0, oz1, oz2⟩ := info_parts Tryz.infoOut
  obtain ⟨m, hm⟩ : ∃ m, (spl 10 s).length = m + 1 := ⟨(spl 10 s).length - 1, by have := spl_pos 10 s; omega⟩
  have hm2 : m ≤ 4001 := by have := spl_many 10 s hs; omega
  have e2 : ((w.alloc resO).alloc resO).heap.size = w.heap.size + 2 := by simp
  have bW := bel_on (bel_new w resO) (bel_new (w.alloc resO) resO)
  have SP := split_at 10 s hs ((w.alloc resO).alloc resO) (hE.later bW).envp
  rw [e2, hm] at SP
  have P0 := pl_new w (spl 10 s)
  have SPH := hide SP
  have es := spl_ends s hn
  have hlm : (linesOf s).length = m := by rw [es] at hm; simp at hm; exact hm
  have hpos : 0 < m := by rw [← hlm]; exact spl_pos 10 (bodyB s)
  have hlast : (spl 10 s).getD m ⟨#[]⟩ = ⟨#[]⟩ := by rw [es, ← hlm]; simp
  have hat : ∀ j (h : j < (linesOf s).length), (spl 10 s).getD j ⟨#[]⟩ = (linesOf s)[j] := fun j h => by rw [es, List.getD_eq_getElem?_getD, List.getElem?_append_left h]; simp [h]
  have hsm : ∀ j (h : j < (linesOf s).length), ((linesOf s)[j]).size ≤ 4000 := fun j h => Nat.le_trans (Nat.le_trans (spl_small 10 (bodyB s) _ (List.getElem_mem h)) (body_size s)) hs
  obtain ⟨ws, hws⟩ : ∃ ws, spl 10 s = ws := ⟨_, rfl⟩
  rw [hws] at SPH P0 hm hlast hat
  have HP0 := hide P0
  have HM := hide hm
  have HLM := hide hlm
  have HLA := hide hlast
  have HAT := hide hat
  have HSM := hide hsm
  have HE := hide hE
  have HLH := hide (lines_head hn)
  have g2 : ¬ ((m : Int) + 1 < 2) := by omega
  have g3 : (m : Int) ≤ 4001 := by omega
  have g4 : (0 : Int) ≤ (m : Int) := by omega
  have g5 : (m : Int) ≤ (m : Int) + 1 := by omega
  have ge : (([] : List UInt8) == []) = true := rfl
  clear SP P0 hE bW e2 es hlm hlast hat hsm hws
  go_enter Tryz.func56, Tryz.ntmps56
  go_wp2_with fail
  refine (unhide SPH).mono ?_
  rintro e w3 ⟨rfl, hw3⟩
  rw [← hw3] at HP0
  have fl := lin_cell (unhide HP0) m (by have := unhide HM; omega)
  rw [unhide HLA] at fl
  clear hw3
  go_wp2
  go_loopw [46] (fun i wr => ∃ (j : Nat) (h : Int) (v1 v2 : Value) (L1 : List (InD × Value)) (L2 : List (OutD × Value)), j ≤ m ∧ i = .int .i64 j ∧ L1.length ≤ j ∧ L2.length ≤ j ∧ Hid (PL w w.heap.size (w.heap.size + 1) (w.heap.size + 2) (ws.map Value.string).toArray h wr v1 v2 L1 L2) ∧ Hid (SoFar s j h L1 L2)) (fun i _ => m - (intOf i).toNat)
  case atStart => exact ⟨0, 0, _, _, [], [], Nat.zero_le _, rfl, Nat.le_refl _, Nat.le_refl _, HP0, Or.inl ⟨rfl, rfl, rfl, rfl⟩⟩
  case round =>
    obtain ⟨j, h, v1, v2, L1, L2, hj, rfl, l1, l2, HS, HF⟩ := hrel
    by_cases hlt : j < m
    · have hlj : j < (linesOf s).length := by rw [unhide HLM]; exact hlt
      have f := lin_cell (unhide HS) j (by have := unhide HM; omega)
      rw [(unhide HAT) j hlj] at f
      have hxs := (unhide HSM) j hlj
      have FD := hide (fun t => foldTx_dead (t := t) hlj)
      have FS := hide (fun t u => foldTx_step (t := t) (u := u) hlj)
      have HX0 : Hid (j = 0 → (linesOf s).getD 0 ⟨#[]⟩ = (linesOf s)[j]) := fun e => by subst e; simp [hlj]
      obtain ⟨x, hx⟩ : ∃ x, (linesOf s)[j] = x := ⟨_, rfl⟩
      rw [hx] at f hxs FD FS HX0
      have hlbl : w.heap.size + 2 < wr.heap.size := World.block_lt_of_cell? _ _ f
      have EW := hide ((unhide HE).later (unhide HS).bel)
      clear hx
      by_cases hj0 : j = 0
      · subst hj0
        rcases unhide HF with ⟨_, rfl, rfl, rfl⟩ | ⟨h1, _⟩
        rotate_left
        · exact absurd h1 (by omega)
        have ex := (unhide HX0) rfl
        have el := unhide HLH
        rw [ex, head_eq] at el
        have EL := hide el
        clear ex el HF FD FS HX0
        cases hh : hasTx x with
        | false =>
          have HNONE : Hid (linesTx s = none) := by show _ = _; rw [unhide EL, hh]; rfl
          have C := hide (hasPrefix_is x hxs false hh wr)
          clear hh EL
          go_wp2_with fail
          refine (unhide C).mono ?_
          rintro e w' ⟨rfl, rfl⟩
          have BD := hide (bad_is wr)
          have HPE := hide (pe_none hs (unhide HNONE))
          go_wp2_with fail
          refine (unhide BD).mono ?_
          rintro e wb ⟨rfl, hbb⟩
          have HSb := hide ((unhide HS).later hbb)
          obtain ⟨⟨r0, r1, r2⟩, rf⟩ := block_cells3 (unhide HSb).res
          have f0 := rf 0
          have f1 := rf 1
          have f2 := rf 2
          have hqb : w.heap.size < wb.heap.size := World.block_lt_of_cell? _ _ r0
          clear hbb rf
          go_wp2
          (try simp only [Exit.inBlock, Exit.then])
          refine bodyPost_ret (v := .tuple #[.agg #[.int .i64 0, .slice none 0 0, .slice none 0 0], .int .i64 1]) ?_ rfl ⟨?_, ?_⟩
          · rw [results_cell_tmp rfl]
            go_simp
          · rw [(unhide HPE).1, (unhide HPE).2]; exact ⟨_, _, rfl, TxOwn.nil _ _⟩
          · exact (((unhide HSb).bel.setCell (Nat.le_refl _) _).setCell (Nat.le_refl _) _).setCell (Nat.le_refl _) _
        | true =>
          have C := hide (hasPrefix_is x hxs true hh wr)
          obtain ⟨rr, hrr⟩ := (hasTx_iff x).1 hh
          have h3 : 3 ≤ x.size := by rw [size_list, hrr]; simp
          have g6 : (3 : Int) ≤ (x.size : Int) := by omega
          have hts : (tailB x 3).size ≤ 4000 := by rw [size_list, tail_data, List.length_drop, ← size_list]; omega
          have el := unhide EL
          rw [if_pos hh] at el
          obtain ⟨y, hy1, hy2⟩ := whole_any (tailB x 3) hts wr (unhide EW).envp
          have WH := hide hy2
          have HY1 := hide hy1
          cases hnum : numOf (tailB x 3) with
          | none =>
            have HNONE : Hid (linesTx s = none) := by show _ = _; rw [el, hnum]; rfl
            rw [hnum] at WH
            clear hh EL el hy1 hy2 hrr hnum hts HY1
            go_wp2_with fail
            refine (unhide C).mono ?_
            rintro e w' ⟨rfl, rfl⟩
            go_wp2_with fail
            refine (unhide WH).mono ?_
            rintro e w5 ⟨rfl, hb5⟩
            have HS5 := hide ((unhide HS).later hb5)
            clear hb5
            have BD := hide (bad_is w5)
            have HPE := hide (pe_none hs (unhide HNONE))
            go_wp2_with fail
            refine (unhide BD).mono ?_
            rintro e wb ⟨rfl, hbb⟩
            have HSb := hide ((unhide HS5).later hbb)
            obtain ⟨⟨r0, r1, r2⟩, rf⟩ := block_cells3 (unhide HSb).res
            have f0 := rf 0
            have f1 := rf 1
            have f2 := rf 2
            have hqb : w.heap.size < wb.heap.size := World.block_lt_of_cell? _ _ r0
            clear hbb rf
            go_wp2
            (try simp only [Exit.inBlock, Exit.then])
            refine bodyPost_ret (v := .tuple #[.agg #[.int .i64 0, .slice none 0 0, .slice none 0 0], .int .i64 1]) ?_ rfl ⟨?_, ?_⟩
            · rw [results_cell_tmp rfl]
              go_simp
            · rw [(unhide HPE).1, (unhide HPE).2]; exact ⟨_, _, rfl, TxOwn.nil _ _⟩
            · exact (((unhide HSb).bel.setCell (Nat.le_refl _) _).setCell (Nat.le_refl _) _).setCell (Nat.le_refl _) _
          | some z =>
            have ez := (unhide HY1) z hnum
            subst ez
            have HF1 : Hid (SoFar s 1 y [] []) := by
              refine Or.inr ⟨Nat.le_refl _, ?_⟩
              rw [el, hnum]; rfl
            rw [hnum] at WH
            clear hh EL el hy1 hy2 hrr hnum hts HY1
            go_wp2_with fail
            refine (unhide C).mono ?_
            rintro e w' ⟨rfl, rfl⟩
            go_wp2_with fail
            refine (unhide WH).mono ?_
            rintro e w5 ⟨rfl, hb5⟩
            have HS5 := hide ((unhide HS).later hb5)
            obtain ⟨⟨b0, b1, b2⟩, bf⟩ := block_cells3 (unhide HS5).box
            have bf0 := bf 0
            have hp5 : w.heap.size + 1 < w5.heap.size := World.block_lt_of_cell? _ _ b0
            have HS6 := hide ((unhide HS5).setH (h' := y))
            clear hb5 bf
            go_wp2
            go_roundw
            case rel => exact ⟨1, y, _, _, [], [], by omega, by go_num, by simp, by simp, HS6, HF1⟩
            case measure => simp [intOf]; omega
      · have hj1 : 1 ≤ j := by omega
        have ef : linesTx s = foldTx (h, L1.map (·.1), L2.map (·.1)) ((linesOf s).drop j) := by
          rcases unhide HF with ⟨e, _⟩ | ⟨_, e⟩
          · exact absurd e hj0
          · exact e
        have HEF := hide ef
        have gj : ((j : Int) == 0) = false := by simp; omega
        have NONE : Hid (refStep (h, L1.map (·.1), L2.map (·.1)) x = none → linesTx s = none) := fun e => by rw [unhide HEF]; exact (unhide FD) _ (by rw [step_eq]; exact e)
        have SOME : Hid (∀ u, refStep (h, L1.map (·.1), L2.map (·.1)) x = some u → linesTx s = foldTx u ((linesOf s).drop (j + 1))) := fun u e => by rw [unhide HEF]; exact (unhide FS) _ u (by rw [step_eq]; exact e)
        clear HF ef FD FS HX0 HEF HLH
        cases hc : cutF x with
        | false =>
          have HNONE : Hid (linesTx s = none) := (unhide NONE) (by unfold refStep; rw [if_pos hc])
          have hneg := colon_none hc
          obtain ⟨kk, hkk⟩ : ∃ kk, colon x = kk := ⟨_, rfl⟩
          rw [hkk] at hneg
          have C := hide (colon_is x kk hkk wr)
          clear hc hkk NONE SOME
          go_wp2_with fail
          refine (unhide C).mono ?_
          rintro e w' ⟨rfl, rfl⟩
          have BD := hide (bad_is wr)
          have HPE := hide (pe_none hs (unhide HNONE))
          go_wp2_with fail
          refine (unhide BD).mono ?_
          rintro e wb ⟨rfl, hbb⟩
          have HSb := hide ((unhide HS).later hbb)
          obtain ⟨⟨r0, r1, r2⟩, rf⟩ := block_cells3 (unhide HSb).res
          have f0 := rf 0
          have f1 := rf 1
          have f2 := rf 2
          have hqb : w.heap.size < wb.heap.size := World.block_lt_of_cell? _ _ r0
          clear hbb rf
          go_wp2
          (try simp only [Exit.inBlock, Exit.then])
          refine bodyPost_ret (v := .tuple #[.agg #[.int .i64 0, .slice none 0 0, .slice none 0 0], .int .i64 1]) ?_ rfl ⟨?_, ?_⟩
          · rw [results_cell_tmp rfl]
            go_simp
          · rw [(unhide HPE).1, (unhide HPE).2]; exact ⟨_, _, rfl, TxOwn.nil _ _⟩
          · exact (((unhide HSb).bel.setCell (Nat.le_refl _) _).setCell (Nat.le_refl _) _).setCell (Nat.le_refl _) _
        | true =>
          obtain ⟨k, hk, hks, hH, hT⟩ := colon_some hc
          have C := hide (colon_is x k hk wr)
          have g6 : ¬ ((k : Int) < 0) := by omega
          have g7 : (k : Int) + 1 ≤ (x.size : Int) := by omega
          have g8 : (k : Int) ≤ (x.size : Int) := by omega
          have g9 : (x.size : Int) ≤ 4000 := by omega
          have g10 : (0 : Int) ≤ (k : Int) + 1 := by omega
          have RO : Hid (∀ w', Below wr.heap.size wr w' → Calls Tryz.prog 109 #[.string (tailB x (k + 1))] w' fun e w2 => ∃ v, e = .returned (.tuple #[v, .int .i64 (prE (cutT x))]) ∧ w2.ownsRow w'.heap.size 160 2 v (prL (cutT x)).length (flat (prL (cutT x))) ∧ Below w'.heap.size w' w2) := fun w' hb => by
            rw [hT]; exact readops_own (cutT x) (Nat.le_trans (cutT_size x) hxs) w' ((unhide EW).later hb)
          have SW : Hid (∀ w', Below wr.heap.size wr w' → Calls Tryz.prog 52 #[.string (headB x k), .string ⟨#[32]⟩] w' fun e w2 => e = .returned (.slice (some ⟨w'.heap.size, 0, none⟩) (spl 32 (cutH x)).length (spl 32 (cutH x)).length) ∧ w2 = w'.alloc (.cells ((spl 32 (cutH x)).map Value.string).toArray 9)) := fun w' hb => by
            rw [hH]; exact split_at 32 (cutH x) (Nat.le_trans (cutH_size x) hxs) w' ((unhide EW).later hb).envp
          have HWS : Hid (∀ y, y ∈ spl 32 (cutH x) → y.size ≤ 4000) := fun y hy => Nat.le_trans (Nat.le_trans (spl_small 32 (cutH x) y hy) (cutH_size x)) hxs
          have hpw := spl_pos 32 (cutH x)
          have hmw := spl_many 32 (cutH x) (Nat.le_trans (cutH_size x) hxs)
          have RS : Hid (∀ t, refStep t x = wordsStep t (prE (cutT x)) (spl 32 (cutH x)) (prL (cutT x))) := fun t => refStep_words t x hc
          obtain ⟨W8, hW8⟩ : ∃ W8, spl 32 (cutH x) = W8 := ⟨_, rfl⟩
          obtain ⟨X8, hX8⟩ : ∃ X8, prL (cutT x) = X8 := ⟨_, rfl⟩
          obtain ⟨E8, hE8⟩ : ∃ E8, prE (cutT x) = E8 := ⟨_, rfl⟩
          rw [hX8, hE8] at RO
          rw [hW8] at SW HWS hpw hmw
          rw [hW8, hX8, hE8] at RS
          clear hc hk hH hT hW8 hX8 hE8
          by_cases hE0 : E8 = 0
          · subst hE0
            obtain ⟨x0, hx0⟩ : ∃ x0, W8.getD 0 ⟨#[]⟩ = x0 := ⟨_, rfl⟩
            obtain ⟨n8, hn8⟩ : ∃ n8, W8.length = n8 := ⟨_, rfl⟩
            rw [hn8] at SW hpw hmw
            have HX0 := hide hx0
            have HN8 := hide hn8
            have gn1 : (0 : Int) < (n8 : Int) := by omega
            have gn2 : (n8 : Int) ≤ 4002 := by omega
            clear hx0 hn8
            go_wp2_with fail
            refine (unhide C).mono ?_
            rintro e w' ⟨rfl, rfl⟩
            go_wp2_with fail
            refine ((unhide RO) wr (Below.refl _ _)).mono ?_
            rintro e w5 ⟨kv, rfl, hkv, hb5⟩
            obtain ⟨ka, kc, rfl, _, _⟩ := ops_slice hkv
            have HS5 := hide ((unhide HS).later hb5)
            have HB5 := hide hb5
            have HKV5 := hide (own_base hkv (unhide HS).bel.size)
            clear hkv hb5
            go_wp2_with fail
            refine ((unhide SW) w5 (unhide HB5)).mono ?_
            rintro e w6 ⟨rfl, hw6⟩
            have hb6 : Below w5.heap.size w5 w6 := by rw [hw6]; exact bel_new _ _
            have HWC : Hid (∀ i, i < n8 → w6.cell? ⟨w5.heap.size, i, none⟩ = some (.string (W8.getD i ⟨#[]⟩))) := fun i hi => by rw [hw6]; exact strs_new w5 W8 i (by rw [unhide HN8]; exact hi)
            have c0 := (unhide HWC) 0 (by omega)
            rw [unhide HX0] at c0
            have HS6 := hide ((unhide HS5).later hb6)
            have HKV6 := hide (own_keep (unhide HKV5) hb6)
            have EW6 := hide ((unhide HE).later (unhide HS6).bel)
            have l56 : w5.heap.size < w6.heap.size := World.block_lt_of_cell? _ _ c0
            clear hw6 hb6
            cases hbi : decide (x0 = inB) with
            | true =>
              have e0 : W8.getD 0 ⟨#[]⟩ = inB := by rw [unhide HX0]; exact of_decide_eq_true hbi
              have gi := word_is true hbi
              rw [in_list] at gi
              have E0 := hide e0
              clear hbi e0
              by_cases h3 : n8 = 3
              · subst h3
                have c1 := (unhide HWC) 1 (by omega)
                have c2 := (unhide HWC) 2 (by omega)
                have C2 := hide c2
                have z1 := (unhide HWS) (W8.getD 1 ⟨#[]⟩) (by rw [List.getD_eq_getElem?_getD, List.getElem?_eq_getElem (by rw [unhide HN8]; omega)]; exact List.getElem_mem _)
                have z2 := (unhide HWS) (W8.getD 2 ⟨#[]⟩) (by rw [List.getD_eq_getElem?_getD, List.getElem?_eq_getElem (by rw [unhide HN8]; omega)]; exact List.getElem_mem _)
                have WI1 : Hid (∀ t, numOf (W8.getD 1 ⟨#[]⟩) = none → refStep t x = none) := fun t e => ((unhide RS) t).trans (ws_in1 (unhide E0) (unhide HN8) e)
                have WI2 : Hid (∀ t, numOf (W8.getD 2 ⟨#[]⟩) = none → refStep t x = none) := fun t e => ((unhide RS) t).trans (ws_in2 (unhide E0) (unhide HN8) e)
                have WI3 : Hid (∀ t : TxD, t.2.2.length ≠ 0 → refStep t x = none) := fun t e => ((unhide RS) t).trans (ws_in3 (unhide E0) (unhide HN8) e)
                have WI : Hid (∀ (t : TxD) a b, numOf (W8.getD 1 ⟨#[]⟩) = some a → numOf (W8.getD 2 ⟨#[]⟩) = some b → t.2.2.length = 0 → refStep t x = some (t.1, t.2.1 ++ [(a, b, X8)], t.2.2)) := fun t a b ea eb e => ((unhide RS) t).trans (ws_in (unhide E0) (unhide HN8) ea eb e)
                obtain ⟨y1, hy1⟩ : ∃ y1, W8.getD 1 ⟨#[]⟩ = y1 := ⟨_, rfl⟩
                obtain ⟨y2, hy2⟩ : ∃ y2, W8.getD 2 ⟨#[]⟩ = y2 := ⟨_, rfl⟩
                rw [hy1] at c1 z1 WI1 WI
                rw [hy2] at c2 z2 WI2 WI C2
                obtain ⟨a, ha1, ha2⟩ := whole_any y1 z1 w6 (unhide EW6).envp
                have WA := hide ha2
                have HA1 := hide ha1
                obtain ⟨oa, hoa⟩ : ∃ oa, (numOf y1).isSome = oa := ⟨_, rfl⟩
                rw [hoa] at WA
                have HOA := hide hoa
                clear hy1 hy2 ha1 ha2 hoa
                go_wp2_with fail
                refine (unhide WA).mono ?_
                rintro e w7 ⟨rfl, hb7⟩
                have c27 := cell_later hb7 (unhide C2)
                have HS7 := hide ((unhide HS6).later hb7)
                have HKV7 := hide (own_keep (unhide HKV6) hb7)
                obtain ⟨b, hb1, hb2⟩ := whole_any y2 z2 w7 ((unhide EW6).later hb7).envp
                have WB := hide hb2
                have HB1 := hide hb1
                obtain ⟨ob, hob⟩ : ∃ ob, (numOf y2).isSome = ob := ⟨_, rfl⟩
                rw [hob] at WB
                have HOB := hide hob
                have l57 : w5.heap.size < w7.heap.size := World.block_lt_of_cell? _ _ c27
                clear hb1 hb2 hob hb7
                go_wp2_with fail
                refine (unhide WB).mono ?_
                rintro e w8 ⟨rfl, hb8⟩
                have HS8 := hide ((unhide HS7).later hb8)
                have HKV8 := hide (own_keep (unhide HKV7) hb8)
                obtain ⟨va, vc, ev2, sv2⟩ := sl_of_own (unhide HS8).own2
                subst ev2
                obtain ⟨⟨b0, b1, b2⟩, bf⟩ := block_cells3 (unhide HS8).box
                have hp8 : w.heap.size + 1 < w8.heap.size := World.block_lt_of_cell? _ _ b0
                clear hb8 bf c27 c2 c1 c0
                cases oa with
                | false =>
                  have HNONE : Hid (linesTx s = none) := (unhide NONE) ((unhide WI1) _ (by have := unhide HOA; simpa using this))
                  clear NONE SOME WI WI1 WI2 WI3
                  have BD := hide (bad_is w8)
                  have HPE := hide (pe_none hs (unhide HNONE))
                  go_wp2_with fail
                  refine (unhide BD).mono ?_
                  rintro e wb ⟨rfl, hbb⟩
                  have HSb := hide ((unhide HS8).later hbb)
                  obtain ⟨⟨r0, r1, r2⟩, rf⟩ := block_cells3 (unhide HSb).res
                  have f0 := rf 0
                  have f1 := rf 1
                  have f2 := rf 2
                  have hqb : w.heap.size < wb.heap.size := World.block_lt_of_cell? _ _ r0
                  clear hbb rf
                  go_wp2
                  (try simp only [Exit.inBlock, Exit.then])
                  refine bodyPost_ret (v := .tuple #[.agg #[.int .i64 0, .slice none 0 0, .slice none 0 0], .int .i64 1]) ?_ rfl ⟨?_, ?_⟩
                  · rw [results_cell_tmp rfl]
                    go_simp
                  · rw [(unhide HPE).1, (unhide HPE).2]; exact ⟨_, _, rfl, TxOwn.nil _ _⟩
                  · exact (((unhide HSb).bel.setCell (Nat.le_refl _) _).setCell (Nat.le_refl _) _).setCell (Nat.le_refl _) _
                | true =>
                  cases ob with
                  | false =>
                    have HNONE : Hid (linesTx s = none) := (unhide NONE) ((unhide WI2) _ (by have := unhide HOB; simpa using this))
                    clear NONE SOME WI WI1 WI2 WI3
                    have BD := hide (bad_is w8)
                    have HPE := hide (pe_none hs (unhide HNONE))
                    go_wp2_with fail
                    refine (unhide BD).mono ?_
                    rintro e wb ⟨rfl, hbb⟩
                    have HSb := hide ((unhide HS8).later hbb)
                    obtain ⟨⟨r0, r1, r2⟩, rf⟩ := block_cells3 (unhide HSb).res
                    have f0 := rf 0
                    have f1 := rf 1
                    have f2 := rf 2
                    have hqb : w.heap.size < wb.heap.size := World.block_lt_of_cell? _ _ r0
                    clear hbb rf
                    go_wp2
                    (try simp only [Exit.inBlock, Exit.then])
                    refine bodyPost_ret (v := .tuple #[.agg #[.int .i64 0, .slice none 0 0, .slice none 0 0], .int .i64 1]) ?_ rfl ⟨?_, ?_⟩
                    · rw [results_cell_tmp rfl]
                      go_simp
                    · rw [(unhide HPE).1, (unhide HPE).2]; exact ⟨_, _, rfl, TxOwn.nil _ _⟩
                    · exact (((unhide HSb).bel.setCell (Nat.le_refl _) _).setCell (Nat.le_refl _) _).setCell (Nat.le_refl _) _
                  | true =>
                    by_cases h02 : L2.length = 0
                    · have e2 : L2 = [] := List.length_eq_zero_iff.1 h02
                      subst e2
                      simp only [List.length_nil] at HS8 b2
                      have hna : numOf y1 = some a := by
                        obtain ⟨v, hv⟩ := Option.isSome_iff_exists.1 (unhide HOA)
                        rw [hv, (unhide HA1) v hv]
                      have hnb : numOf y2 = some b := by
                        obtain ⟨v, hv⟩ := Option.isSome_iff_exists.1 (unhide HOB)
                        rw [hv, (unhide HB1) v hv]
                      have HFN : Hid (SoFar s (j + 1) h (L1 ++ [((a, b, X8), .slice ka X8.length kc)]) []) := by
                        refine Or.inr ⟨by omega, ?_⟩
                        rw [List.map_append]
                        exact (unhide SOME) _ ((unhide WI) _ a b hna hnb rfl)
                      obtain ⟨ua, uc, ev1, sv1⟩ := sl_of_own (unhide HS8).own1
                      subst ev1
                      have HS9 := hide ((unhide HS8).alloc (.cells #[.int .i64 a, .int .i64 b, .slice ka X8.length kc] 152))
                      have HKV9 := hide ((unhide HKV8).alloc (.cells #[.int .i64 a, .int .i64 b, .slice ka X8.length kc] 152))
                      have NEWS := hide (World.news_of_block (heap_alloc_new w8 (.cells #[.int .i64 a, .int .i64 b, .slice ka X8.length kc] 152)))
                      have OWN9 := hide (unhide HS9).own1
                      have SZ9 := hide (unhide HS9).bel.size
                      have L1B := hide l1
                      clear NONE SOME WI WI1 WI2 WI3 hna hnb sv1 sv2 h02
                      go_wp2_with (at_builtin; refine wpList_append_lies _ rfl _ _ 75 rfl w.heap.size 152 i0 _ 3 40 Tryz.underlying75 ii iz0 iz1 iz2 rfl (by decide) _ _ _ rfl (unhide OWN9) ⟨w8.heap.size, 0, none⟩ 1 1 [.int .i64 a, .int .i64 b, .slice ka X8.length kc] rfl rfl (unhide NEWS) (by simp [Value.oneCell']) (by decide) (by have := unhide L1B; unfold maxLen; omega) (by have := unhide L1B; omega) (unhide SZ9) (w8.heap.size + 1) (by simp) ?_; intro gg cap w9 hown9 hgrow9 hat9 hlt9; have box9 := (grow_type (unhide HS9).own1 hgrow9 _ _ _ (unhide HS9).box (by decide)).trans (unhide HS9).box; obtain ⟨⟨d0, d1, d2⟩, df⟩ := block_cells3 box9; have df1 := df 1; have HN := hide (PL.addIn (unhide HS9) (unhide HKV9) hown9 hgrow9); clear df box9 hown9 hgrow9 hat9)
                      go_roundw
                      case rel => exact ⟨j + 1, h, _, _, _, [], by omega, by go_num, by have := unhide L1B; simp; omega, by simp, HN, HFN⟩
                      case measure => simp [intOf]; omega
                    · have HNONE : Hid (linesTx s = none) := (unhide NONE) ((unhide WI3) _ (by show (L2.map (·.1)).length ≠ 0; rw [List.length_map]; exact h02))
                      have gl2 : (0 : Int) < (L2.length : Int) := by omega
                      clear NONE SOME WI WI1 WI2 WI3 h02
                      have BD := hide (bad_is w8)
                      have HPE := hide (pe_none hs (unhide HNONE))
                      go_wp2_with fail
                      refine (unhide BD).mono ?_
                      rintro e wb ⟨rfl, hbb⟩
                      have HSb := hide ((unhide HS8).later hbb)
                      obtain ⟨⟨r0, r1, r2⟩, rf⟩ := block_cells3 (unhide HSb).res
                      have f0 := rf 0
                      have f1 := rf 1
                      have f2 := rf 2
                      have hqb : w.heap.size < wb.heap.size := World.block_lt_of_cell? _ _ r0
                      clear hbb rf
                      go_wp2
                      (try simp only [Exit.inBlock, Exit.then])
                      refine bodyPost_ret (v := .tuple #[.agg #[.int .i64 0, .slice none 0 0, .slice none 0 0], .int .i64 1]) ?_ rfl ⟨?_, ?_⟩
                      · rw [results_cell_tmp rfl]
                        go_simp
                      · rw [(unhide HPE).1, (unhide HPE).2]; exact ⟨_, _, rfl, TxOwn.nil _ _⟩
                      · exact (((unhide HSb).bel.setCell (Nat.le_refl _) _).setCell (Nat.le_refl _) _).setCell (Nat.le_refl _) _
              · have gn3 : ((n8 : Int) == 3) = false := by simp; omega
                have e0 : x0 = inB := by rw [← unhide HX0]; exact unhide E0
                have gi2 : (x0.toList == [111, 117, 116]) = false := by
                  rw [← out_list]; exact word_is false (decide_eq_false (fun e => out_in (e.symm.trans e0)))
                have HNONE : Hid (linesTx s = none) := (unhide NONE) (((unhide RS) _).trans (ws_other (fun e => h3 (by rw [← unhide HN8]; exact e.2)) (fun e => out_in (e.1.symm.trans (unhide E0)))))
                clear NONE SOME h3 e0
                have BD := hide (bad_is w6)
                have HPE := hide (pe_none hs (unhide HNONE))
                go_wp2_with fail
                refine (unhide BD).mono ?_
                rintro e wb ⟨rfl, hbb⟩
                have HSb := hide ((unhide HS6).later hbb)
                obtain ⟨⟨r0, r1, r2⟩, rf⟩ := block_cells3 (unhide HSb).res
                have f0 := rf 0
                have f1 := rf 1
                have f2 := rf 2
                have hqb : w.heap.size < wb.heap.size := World.block_lt_of_cell? _ _ r0
                clear hbb rf
                go_wp2
                (try simp only [Exit.inBlock, Exit.then])
                refine bodyPost_ret (v := .tuple #[.agg #[.int .i64 0, .slice none 0 0, .slice none 0 0], .int .i64 1]) ?_ rfl ⟨?_, ?_⟩
                · rw [results_cell_tmp rfl]
                  go_simp
                · rw [(unhide HPE).1, (unhide HPE).2]; exact ⟨_, _, rfl, TxOwn.nil _ _⟩
                · exact (((unhide HSb).bel.setCell (Nat.le_refl _) _).setCell (Nat.le_refl _) _).setCell (Nat.le_refl _) _
            | false =>
              have gi := word_is false hbi
              rw [in_list] at gi
              have n0 : ¬ x0 = inB := of_decide_eq_false hbi
              have NI : Hid (¬ (W8.getD 0 ⟨#[]⟩ = inB ∧ W8.length = 3)) := fun e => n0 (by rw [← unhide HX0]; exact e.1)
              clear hbi n0
              cases hbo : decide (x0 = outB) with
              | true =>
                have e0 : W8.getD 0 ⟨#[]⟩ = outB := by rw [unhide HX0]; exact of_decide_eq_true hbo
                have gi2 := word_is true hbo
                rw [out_list] at gi2
                have E0 := hide e0
                clear hbo e0
                by_cases h3 : n8 = 2
                · subst h3
                  have c1 := (unhide HWC) 1 (by omega)
                  have z1 := (unhide HWS) (W8.getD 1 ⟨#[]⟩) (by rw [List.getD_eq_getElem?_getD, List.getElem?_eq_getElem (by rw [unhide HN8]; omega)]; exact List.getElem_mem _)
                  have WI1 : Hid (∀ t, numOf (W8.getD 1 ⟨#[]⟩) = none → refStep t x = none) := fun t e => ((unhide RS) t).trans (ws_out1 (unhide E0) (unhide HN8) e)
                  have WI : Hid (∀ (t : TxD) a, numOf (W8.getD 1 ⟨#[]⟩) = some a → refStep t x = some (t.1, t.2.1, t.2.2 ++ [(a, X8)])) := fun t a ea => ((unhide RS) t).trans (ws_out (unhide E0) (unhide HN8) ea)
                  obtain ⟨y1, hy1⟩ : ∃ y1, W8.getD 1 ⟨#[]⟩ = y1 := ⟨_, rfl⟩
                  rw [hy1] at c1 z1 WI1 WI
                  obtain ⟨a, ha1, ha2⟩ := whole_any y1 z1 w6 (unhide EW6).envp
                  have WA := hide ha2
                  have HA1 := hide ha1
                  obtain ⟨oa, hoa⟩ : ∃ oa, (numOf y1).isSome = oa := ⟨_, rfl⟩
                  rw [hoa] at WA
                  have HOA := hide hoa
                  clear hy1 ha1 ha2 hoa
                  go_wp2_with fail
                  refine (unhide WA).mono ?_
                  rintro e w8 ⟨rfl, hb8⟩
                  have HS8 := hide ((unhide HS6).later hb8)
                  have HKV8 := hide (own_keep (unhide HKV6) hb8)
                  obtain ⟨⟨b0, b1, b2⟩, bf⟩ := block_cells3 (unhide HS8).box
                  have hp8 : w.heap.size + 1 < w8.heap.size := World.block_lt_of_cell? _ _ b0
                  clear hb8 bf c1 c0
                  cases oa with
                  | false =>
                    have HNONE : Hid (linesTx s = none) := (unhide NONE) ((unhide WI1) _ (by have := unhide HOA; simpa using this))
                    clear NONE SOME WI WI1
                    have BD := hide (bad_is w8)
                    have HPE := hide (pe_none hs (unhide HNONE))
                    go_wp2_with fail
                    refine (unhide BD).mono ?_
                    rintro e wb ⟨rfl, hbb⟩
                    have HSb := hide ((unhide HS8).later hbb)
                    obtain ⟨⟨r0, r1, r2⟩, rf⟩ := block_cells3 (unhide HSb).res
                    have f0 := rf 0
                    have f1 := rf 1
                    have f2 := rf 2
                    have hqb : w.heap.size < wb.heap.size := World.block_lt_of_cell? _ _ r0
                    clear hbb rf
                    go_wp2
                    (try simp only [Exit.inBlock, Exit.then])
                    refine bodyPost_ret (v := .tuple #[.agg #[.int .i64 0, .slice none 0 0, .slice none 0 0], .int .i64 1]) ?_ rfl ⟨?_, ?_⟩
                    · rw [results_cell_tmp rfl]
                      go_simp
                    · rw [(unhide HPE).1, (unhide HPE).2]; exact ⟨_, _, rfl, TxOwn.nil _ _⟩
                    · exact (((unhide HSb).bel.setCell (Nat.le_refl _) _).setCell (Nat.le_refl _) _).setCell (Nat.le_refl _) _
                  | true =>
                    have hna : numOf y1 = some a := by
                      obtain ⟨v, hv⟩ := Option.isSome_iff_exists.1 (unhide HOA)
                      rw [hv, (unhide HA1) v hv]
                    have HFN : Hid (SoFar s (j + 1) h L1 (L2 ++ [((a, X8), .slice ka X8.length kc)])) := by
                      refine Or.inr ⟨by omega, ?_⟩
                      rw [List.map_append]
                      exact (unhide SOME) _ ((unhide WI) _ a hna)
                    obtain ⟨va, vc, ev2, sv2⟩ := sl_of_own (unhide HS8).own2
                    subst ev2
                    have HS9 := hide ((unhide HS8).alloc (.cells #[.int .i64 a, .slice ka X8.length kc] 85))
                    have HKV9 := hide ((unhide HKV8).alloc (.cells #[.int .i64 a, .slice ka X8.length kc] 85))
                    have NEWS := hide (World.news_of_block (heap_alloc_new w8 (.cells #[.int .i64 a, .slice ka X8.length kc] 85)))
                    have OWN9 := hide (unhide HS9).own2
                    have SZ9 := hide (unhide HS9).bel.size
                    have L2B := hide l2
                    clear NONE SOME WI WI1 hna sv2
                    go_wp2_with (at_builtin; refine wpList_append_lies _ rfl _ _ 76 rfl w.heap.size 85 o0 _ 2 32 Tryz.underlying76 oi oz0 oz1 oz2 rfl (by decide) _ _ _ rfl (unhide OWN9) ⟨w8.heap.size, 0, none⟩ 1 1 [.int .i64 a, .slice ka X8.length kc] rfl rfl (unhide NEWS) (by simp [Value.oneCell']) (by decide) (by have := unhide L2B; unfold maxLen; omega) (by have := unhide L2B; omega) (unhide SZ9) (w8.heap.size + 1) (by simp) ?_; intro gg cap w9 hown9 hgrow9 hat9 hlt9; have box9 := (grow_type (unhide HS9).own2 hgrow9 _ _ _ (unhide HS9).box (by decide)).trans (unhide HS9).box; obtain ⟨⟨d0, d1, d2⟩, df⟩ := block_cells3 box9; have df2 := df 2; have HN := hide (PL.addOut (unhide HS9) (unhide HKV9) hown9 hgrow9); clear df box9 hown9 hgrow9 hat9)
                    go_roundw
                    case rel => exact ⟨j + 1, h, _, _, L1, _, by omega, by go_num, by omega, by have := unhide L2B; simp; omega, HN, HFN⟩
                    case measure => simp [intOf]; omega
                · have gn3 : ((n8 : Int) == 2) = false := by simp; omega
                  have HNONE : Hid (linesTx s = none) := (unhide NONE) (((unhide RS) _).trans (ws_other (unhide NI) (fun e => h3 (by rw [← unhide HN8]; exact e.2))))
                  clear NONE SOME h3
                  have BD := hide (bad_is w6)
                  have HPE := hide (pe_none hs (unhide HNONE))
                  go_wp2_with fail
                  refine (unhide BD).mono ?_
                  rintro e wb ⟨rfl, hbb⟩
                  have HSb := hide ((unhide HS6).later hbb)
                  obtain ⟨⟨r0, r1, r2⟩, rf⟩ := block_cells3 (unhide HSb).res
                  have f0 := rf 0
                  have f1 := rf 1
                  have f2 := rf 2
                  have hqb : w.heap.size < wb.heap.size := World.block_lt_of_cell? _ _ r0
                  clear hbb rf
                  go_wp2
                  (try simp only [Exit.inBlock, Exit.then])
                  refine bodyPost_ret (v := .tuple #[.agg #[.int .i64 0, .slice none 0 0, .slice none 0 0], .int .i64 1]) ?_ rfl ⟨?_, ?_⟩
                  · rw [results_cell_tmp rfl]
                    go_simp
                  · rw [(unhide HPE).1, (unhide HPE).2]; exact ⟨_, _, rfl, TxOwn.nil _ _⟩
                  · exact (((unhide HSb).bel.setCell (Nat.le_refl _) _).setCell (Nat.le_refl _) _).setCell (Nat.le_refl _) _
              | false =>
                have gi2 := word_is false hbo
                rw [out_list] at gi2
                have n0 : ¬ x0 = outB := of_decide_eq_false hbo
                have HNONE : Hid (linesTx s = none) := (unhide NONE) (((unhide RS) _).trans (ws_other (unhide NI) (fun e => n0 (by rw [← unhide HX0]; exact e.1))))
                clear NONE SOME hbo n0
                have BD := hide (bad_is w6)
                have HPE := hide (pe_none hs (unhide HNONE))
                go_wp2_with fail
                refine (unhide BD).mono ?_
                rintro e wb ⟨rfl, hbb⟩
                have HSb := hide ((unhide HS6).later hbb)
                obtain ⟨⟨r0, r1, r2⟩, rf⟩ := block_cells3 (unhide HSb).res
                have f0 := rf 0
                have f1 := rf 1
                have f2 := rf 2
                have hqb : w.heap.size < wb.heap.size := World.block_lt_of_cell? _ _ r0
                clear hbb rf
                go_wp2
                (try simp only [Exit.inBlock, Exit.then])
                refine bodyPost_ret (v := .tuple #[.agg #[.int .i64 0, .slice none 0 0, .slice none 0 0], .int .i64 1]) ?_ rfl ⟨?_, ?_⟩
                · rw [results_cell_tmp rfl]
                  go_simp
                · rw [(unhide HPE).1, (unhide HPE).2]; exact ⟨_, _, rfl, TxOwn.nil _ _⟩
                · exact (((unhide HSb).bel.setCell (Nat.le_refl _) _).setCell (Nat.le_refl _) _).setCell (Nat.le_refl _) _
          · have HNONE : Hid (linesTx s = none) := (unhide NONE) ((unhide RS _).trans (ws_bad hE0))
            have gE : (E8 != 0) = true := by simp [hE0]
            clear NONE SOME RS hE0
            go_wp2_with fail
            refine (unhide C).mono ?_
            rintro e w' ⟨rfl, rfl⟩
            go_wp2_with fail
            refine ((unhide RO) wr (Below.refl _ _)).mono ?_
            rintro e w5 ⟨kv, rfl, -, hb5⟩
            have HS5 := hide ((unhide HS).later hb5)
            clear hb5
            have BD := hide (bad_is w5)
            have HPE := hide (pe_none hs (unhide HNONE))
            go_wp2_with fail
            refine (unhide BD).mono ?_
            rintro e wb ⟨rfl, hbb⟩
            have HSb := hide ((unhide HS5).later hbb)
            obtain ⟨⟨r0, r1, r2⟩, rf⟩ := block_cells3 (unhide HSb).res
            have f0 := rf 0
            have f1 := rf 1
            have f2 := rf 2
            have hqb : w.heap.size < wb.heap.size := World.block_lt_of_cell? _ _ r0
            clear hbb rf
            go_wp2
            (try simp only [Exit.inBlock, Exit.then])
            refine bodyPost_ret (v := .tuple #[.agg #[.int .i64 0, .slice none 0 0, .slice none 0 0], .int .i64 1]) ?_ rfl ⟨?_, ?_⟩
            · rw [results_cell_tmp rfl]
              go_simp
            · rw [(unhide HPE).1, (unhide HPE).2]; exact ⟨_, _, rfl, TxOwn.nil _ _⟩
            · exact (((unhide HSb).bel.setCell (Nat.le_refl _) _).setCell (Nat.le_refl _) _).setCell (Nat.le_refl _) _
    · have e : j = m := by omega
      subst e
      have ef : linesTx s = some (h, L1.map (·.1), L2.map (·.1)) := by
        rcases unhide HF with ⟨e, _⟩ | ⟨_, e⟩
        · omega
        · rw [e]; exact foldTx_end (by rw [unhide HLM]; exact Nat.le_refl _)
      have TO : TxOwn w.heap.size wr v1 v2 (L1.map (·.1)) (L2.map (·.1)) := ⟨L1, L2, rfl, rfl, (unhide HS).own1, (unhide HS).own2, (unhide HS).keys1, (unhide HS).keys2⟩
      obtain ⟨I, hIe⟩ : ∃ I, L1.map (·.1) = I := ⟨_, rfl⟩
      obtain ⟨O, hOe⟩ : ∃ O, L2.map (·.1) = O := ⟨_, rfl⟩
      rw [hIe, hOe] at TO ef
      have PES := hide (pe_some hs ef)
      have HTO := hide TO
      obtain ⟨ai, ci, ao, co, ev1, ev2, hI, hO, sI, sO⟩ := TO.at
      obtain ⟨ni, hni⟩ : ∃ ni, I.length = ni := ⟨_, rfl⟩
      obtain ⟨no, hno⟩ : ∃ no, O.length = no := ⟨_, rfl⟩
      rw [hni] at ev1 hI
      rw [hno] at ev2 hO
      subst ev1 ev2
      have RC := hide (rcheckTx_any h ai ao ni ci no co I O wr hI hO)
      have HBX : Hid (wr.heap[w.heap.size + 1]? = some (.cells #[.int .i64 h, .slice ai ni ci, .slice ao no co] 78 (0, 0))) := (unhide HS).box
      have HRX := hide (unhide HS).res
      have HBL := hide (unhide HS).bel
      obtain ⟨⟨b0, b1, b2⟩, bf⟩ := block_cells3 (unhide HBX)
      have hp8 : w.heap.size + 1 < wr.heap.size := World.block_lt_of_cell? _ _ b0
      obtain ⟨z, hz⟩ : ∃ z, chkTx (h, I, O) = z := ⟨_, rfl⟩
      rw [hz] at RC PES
      clear TO hI hO sI sO bf ef hz HF HS hIe hOe hni hno l1 l2 HP0 HM HLM HLA HAT HSM HE HLH SPH
      by_cases h0 : z = 0
      · subst h0
        go_wp2_with fail
        refine (unhide RC).mono ?_
        rintro e wb ⟨rfl, hbb⟩
        have HBb := hide ((hbb.block _ (lt_of_block (unhide HBX))).trans (unhide HBX))
        have HRb := hide ((hbb.block _ (lt_of_block (unhide HRX))).trans (unhide HRX))
        have HTb := hide ((unhide HTO).later hbb)
        have HLb := hide (bel_on (unhide HBL) hbb)
        obtain ⟨⟨r0, r1, r2⟩, rf⟩ := block_cells3 (unhide HRb)
        obtain ⟨⟨b0', b1', b2'⟩, bf'⟩ := block_cells3 (unhide HBb)
        have f0 := rf 0
        have f1 := rf 1
        have f2 := rf 2
        have hqb : w.heap.size + 1 < wb.heap.size := World.block_lt_of_cell? _ _ b0'
        have hqb2 : w.heap.size < wb.heap.size := World.block_lt_of_cell? _ _ r0
        clear hbb rf bf' b0 b1 b2
        go_wp2
        (try simp only [Exit.inBlock, Exit.then])
        refine bodyPost_ret (v := .tuple #[.agg #[.int .i64 h, .slice ai ni ci, .slice ao no co], .int .i64 0]) ?_ rfl ⟨?_, ?_⟩
        · rw [results_cell_tmp rfl]
          go_simp
        · rw [(unhide PES).1, (unhide PES).2]
          try rw [if_pos rfl]
          exact ⟨_, _, rfl, (unhide HTb).far (fun k cs t hk ht => far_three (unhide HRb) _ _ _ k cs t hk ht)⟩
        · exact (((unhide HLb).setCell (Nat.le_refl _) _).setCell (Nat.le_refl _) _).setCell (Nat.le_refl _) _
      · have gz : (z != 0) = true := by simp [h0]
        go_wp2_with fail
        refine (unhide RC).mono ?_
        rintro e wb ⟨rfl, hbb⟩
        have HRb := hide ((hbb.block _ (lt_of_block (unhide HRX))).trans (unhide HRX))
        have HLb := hide (bel_on (unhide HBL) hbb)
        obtain ⟨⟨r0, r1, r2⟩, rf⟩ := block_cells3 (unhide HRb)
        have f0 := rf 0
        have f1 := rf 1
        have f2 := rf 2
        have hqb : w.heap.size < wb.heap.size := World.block_lt_of_cell? _ _ r0
        clear hbb rf b0 b1 b2
        go_wp2
        (try simp only [Exit.inBlock, Exit.then])
        refine bodyPost_ret (v := .tuple #[.agg #[.int .i64 0, .slice none 0 0, .slice none 0 0], .int .i64 z]) ?_ rfl ⟨?_, ?_⟩
        · rw [results_cell_tmp rfl]
          go_simp
        · rw [(unhide PES).1, (unhide PES).2]
          try rw [if_neg h0]
          exact ⟨_, _, rfl, TxOwn.nil _ _⟩
        · exact (((unhide HLb).setCell (Nat.le_refl _) _).setCell (Nat.le_refl _) _).setCell (Nat.le_refl _) _

end Go.Proofs.YthhlofipapfbnaaGreatDoor
