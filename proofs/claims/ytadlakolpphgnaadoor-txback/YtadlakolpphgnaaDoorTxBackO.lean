/- The text of a transaction and its lines: there and back. Nothing of the program. -/
import Derived.Test.YtadlakolpphgnaaDoorTxBackN
namespace Go.Proofs.YtadlakolpphgnaaDoor

def inL (x : InD) : ByteArray := lineT inB [x.1, x.2.1] x.2.2
def outL (x : OutD) : ByteArray := lineT outB [x.1] x.2
def endN (s x : ByteArray) : ByteArray := s ++ (x ++ ⟨#[10]⟩)

theorem join_fold : ∀ (ls : List ByteArray) (s : ByteArray), (ls.foldl endN (s ++ ⟨#[10]⟩)).data.toList = s.data.toList ++ (ls.map (fun x => 10 :: x.data.toList)).flatten ++ [10]
  | [], s => by simp [ByteArray.data_append]
  | x :: r, s => by
    have e : (x :: r).foldl endN (s ++ ⟨#[10]⟩) = r.foldl endN (((s ++ ⟨#[10]⟩) ++ x) ++ ⟨#[10]⟩) := by
      show r.foldl endN ((s ++ ⟨#[10]⟩) ++ (x ++ ⟨#[10]⟩)) = _
      congr 1
      exact data_inj (by simp [ByteArray.data_append])
    rw [e, join_fold r]
    simp [ByteArray.data_append]
theorem fold_join (l0 : ByteArray) (ls : List ByteArray) : ls.foldl endN (l0 ++ ⟨#[10]⟩) = joinB 10 (l0 :: ls) ++ ⟨#[10]⟩ := by
  apply data_inj
  rw [join_fold, ByteArray.data_append, Array.toList_append, joinB_data, List.map_cons, Lib.join_cons, Lib.joinTail]
  simp [Function.comp_def]

theorem ins_fold (h : Int) (I : List InD) : insText h I = (I.map inL).foldl endN (headText h) := by
  unfold insText; rw [List.foldl_map]; rfl
theorem outs_fold (t : ByteArray) (O : List OutD) : outsText t O = (O.map outL).foldl endN t := by
  unfold outsText; rw [List.foldl_map]; rfl
theorem txText_lines (h : Int) (I : List InD) (O : List OutD) : txText (h, I, O) = joinB 10 (rowB txB [h] :: (I.map inL ++ O.map outL)) ++ ⟨#[10]⟩ := by
  rw [← fold_join, List.foldl_append]
  show outsText (insText h I) O = _
  rw [outs_fold, ins_fold]; rfl

/-! The last line feed. -/
theorem ext_list (s : ByteArray) (i j : Nat) : (s.extract i j).data.toList = (s.data.toList.drop i).take (j - i) := by
  rw [ByteArray.data_extract, Array.toList_extract]
theorem size_list (s : ByteArray) : s.size = s.data.toList.length := by rw [Array.length_toList]; rfl
theorem ends_data (X : ByteArray) : endsB (X ++ ⟨#[10]⟩) = true ∧ bodyB (X ++ ⟨#[10]⟩) = X := by
  have hsz : (X ++ (⟨#[10]⟩ : ByteArray)).size = X.data.toList.length + 1 := by rw [size_one X 10, size_list]
  have hd : (X ++ (⟨#[10]⟩ : ByteArray)).data.toList = X.data.toList ++ [10] := by rw [ByteArray.data_append, Array.toList_append]
  have e1 : endsB (X ++ ⟨#[10]⟩) = true := by
    unfold endsB lastB
    rw [decide_eq_true (by omega), hsz, ByteArray.toList_eq, ext_list, hd, Nat.add_sub_cancel, List.drop_left]
    have : X.data.toList.length + 1 - X.data.toList.length = 1 := by omega
    rw [this]
    rfl
  refine ⟨e1, ?_⟩
  unfold bodyB
  rw [e1]
  show frontB _ = X
  unfold frontB
  apply data_inj
  rw [ext_list, hsz, hd, Nat.add_sub_cancel, List.drop_zero, Nat.sub_zero, List.take_left]
theorem ends_back (s : ByteArray) (h : endsB s = true) : s = bodyB s ++ ⟨#[10]⟩ := by
  unfold bodyB
  rw [h]
  show s = frontB s ++ ⟨#[10]⟩
  unfold endsB lastB at h
  simp only [Bool.and_eq_true, decide_eq_true_eq] at h
  obtain ⟨h0, h1⟩ := h
  have h2 : (s.extract (s.size - 1) s.size).toList = [10] := by simpa using h1
  rw [ByteArray.toList_eq, ext_list] at h2
  apply data_inj
  unfold frontB
  rw [ByteArray.data_append, Array.toList_append, ext_list, List.drop_zero, Nat.sub_zero]
  show s.data.toList = _ ++ [10]
  have h3 : (s.data.toList.drop (s.size - 1)).take (s.size - (s.size - 1)) = s.data.toList.drop (s.size - 1) := by
    apply List.take_of_length_le
    rw [List.length_drop, ← size_list]; omega
  rw [h3] at h2
  rw [← h2, List.take_append_drop]

/-! Signs in the texts. -/
theorem opText_free (q : Int × Int) (h : chk1 q = 0) : ∀ b ∈ (opText q).data.toList, b ≠ 10 := by
  intro b hb
  unfold opText at hb
  split at hb
  · have hb2 : b ∈ Lib.itoa q.2 := by simpa using hb
    exact (itoa_plain _ b hb2).2.2
  · have hk : 1 ≤ q.1 ∧ q.1 ≤ 13 := by
      obtain ⟨k, n⟩ := q
      simp only [chk1] at h
      split at h
      · cases h
      · simp only; omega
    have all : ∀ j : Fin 14, ∀ b ∈ (nameB j.val).data.toList, b ≠ 10 := by decide +kernel
    exact all ⟨q.1.toNat, by omega⟩ b hb
theorem ops_free (l : List (Int × Int)) (h : chk l = 0) : ∀ b ∈ (opsText l).data.toList, b ≠ 10 := by
  have hL : chkL l = 0 := by
    unfold chk at h
    split at h
    · cases h
    · exact h
  have hall : ∀ o ∈ l, chk1 o = 0 := fun o ho => by
    obtain ⟨i, hi, rfl⟩ := List.getElem_of_mem ho
    exact chkL_all hL i hi
  intro b hb
  have hd : (opsText l).data.toList = Lib.join ((l.map opText).map (·.data.toList)) [32] := by simp [opsText]
  rw [hd] at hb
  cases l with
  | nil => cases hb
  | cons o r =>
    rw [List.map_cons, List.map_cons, Lib.join_cons, Lib.joinTail] at hb
    rcases List.mem_append.1 hb with hb | hb
    · exact opText_free o (hall o (by simp)) b hb
    · obtain ⟨y, hy, hb⟩ := List.mem_flatten.1 hb
      obtain ⟨x, hx, rfl⟩ := List.mem_map.1 hy
      obtain ⟨z, hz, rfl⟩ := List.mem_map.1 hx
      obtain ⟨q, hq, rfl⟩ := List.mem_map.1 hz
      rcases List.mem_append.1 hb with hb | hb
      · have : b = 32 := by simpa using hb
        subst this; decide
      · exact opText_free q (hall q (by simp [hq])) b hb
theorem line_free (word : ByteArray) (Z : List Int) (l : List (Int × Int)) (hw : ∀ b ∈ word.data.toList, b ≠ 10) (hl : chk l = 0) : ∀ b ∈ (lineT word Z l).data.toList, b ≠ 10 := by
  intro b hb
  have e : (lineT word Z l).data.toList = (rowB word Z).data.toList ++ 58 :: (opsText l).data.toList := by simp [lineT, ByteArray.data_append]
  rw [e] at hb
  rcases List.mem_append.1 hb with hb | hb
  · exact row_free word Z 10 hw (Or.inr rfl) b hb
  · rcases List.mem_cons.1 hb with rfl | hb
    · decide
    · exact ops_free l hl b hb

theorem tx_signs : (∀ b ∈ txB.data.toList, b ≠ 32 ∧ b ≠ 58 ∧ b ≠ 10) ∧ (∀ b ∈ inB.data.toList, b ≠ 32 ∧ b ≠ 58 ∧ b ≠ 10) ∧ (∀ b ∈ outB.data.toList, b ≠ 32 ∧ b ≠ 58 ∧ b ≠ 10) := by decide +kernel
theorem out_in : outB ≠ inB := by decide +kernel

/-! Lines that were written are read. -/
theorem fold_ins (h : Int) (R : List ByteArray) : ∀ (I P : List InD), (∀ x ∈ I, ptOk x = true ∧ chk x.2.2 = 0) → foldTx (h, P, []) (I.map inL ++ R) = foldTx (h, P ++ I, []) R
  | [], P, _ => by simp
  | x :: r, P, hI => by
    have hx := hI x (by simp)
    have hp := (ptOk_iff x).1 hx.1
    have hl : lineOf (inL x) inB 2 = some ([x.1, x.2.1], x.2.2) := lineOf_line inB [x.1, x.2.1] x.2.2 (fun b hb => ⟨(tx_signs.2.1 b hb).1, (tx_signs.2.1 b hb).2.1⟩) (fun z hz => by simp at hz; omega) hx.2
    have hs : stepLn (h, P, []) (inL x) = some (h, P ++ [x], []) := by
      unfold stepLn
      rw [hl]
      rfl
    rw [List.map_cons, List.cons_append, foldTx, hs]
    show foldTx (h, P ++ [x], []) (r.map inL ++ R) = _
    rw [fold_ins h R r (P ++ [x]) (fun y hy => hI y (by simp [hy]))]
    simp
theorem fold_outs (h : Int) (P : List InD) : ∀ (O Q : List OutD), (∀ x ∈ O, (1 ≤ x.1 ∧ x.1 ≤ 1000000000) ∧ chk x.2 = 0) → foldTx (h, P, Q) (O.map outL) = some (h, P, Q ++ O)
  | [], Q, _ => by simp [foldTx]
  | x :: r, Q, hO => by
    have hx := hO x (by simp)
    have hl : lineOf (outL x) outB 1 = some ([x.1], x.2) := lineOf_line outB [x.1] x.2 (fun b hb => ⟨(tx_signs.2.2 b hb).1, (tx_signs.2.2 b hb).2.1⟩) (fun z hz => by simp at hz; omega) hx.2
    have hn : lineOf (outL x) inB 2 = none := lineOf_other outB inB [x.1] x.2 2 (fun b hb => ⟨(tx_signs.2.2 b hb).1, (tx_signs.2.2 b hb).2.1⟩) out_in
    have hs : stepLn (h, P, Q) (outL x) = some (h, P, Q ++ [x]) := by
      unfold stepLn
      rw [hn]
      show outStep (h, P, Q) (outL x) = _
      unfold outStep
      rw [hl]
      rfl
    rw [List.map_cons, foldTx, hs]
    show foldTx (h, P, Q ++ [x]) (r.map outL) = _
    rw [fold_outs h P r (Q ++ [x]) (fun y hy => hO y (by simp [hy]))]
    simp

/-- What is printed of a right transaction is read. -/
theorem tx_back (t : TxD) (hx : chkTx t = 0) : linesTx (txText t) = some t := by
  obtain ⟨h, I, O⟩ := t
  have ok := TxOk.of hx
  have e := txText_lines h I O
  obtain ⟨X, hX⟩ : ∃ X, joinB 10 (rowB txB [h] :: (I.map inL ++ O.map outL)) = X := ⟨_, rfl⟩
  rw [hX] at e
  obtain ⟨e1, e2⟩ := ends_data X
  have e3 : linesOf (X ++ ⟨#[10]⟩) = rowB txB [h] :: (I.map inL ++ O.map outL) := by
    unfold linesOf
    rw [e2, ← hX]
    refine spl_join 10 _ (by simp) (fun x hx b hb => ?_)
    rcases List.mem_cons.1 hx with rfl | hx
    · exact row_free txB [h] 10 (fun b hb => (tx_signs.1 b hb).2.2) (Or.inr rfl) b hb
    · rcases List.mem_append.1 hx with hx | hx
      · obtain ⟨y, hy, rfl⟩ := List.mem_map.1 hx
        exact line_free inB _ _ (fun b hb => (tx_signs.2.1 b hb).2.2) (ok.ins y hy).2 b hb
      · obtain ⟨y, hy, rfl⟩ := List.mem_map.1 hx
        exact line_free outB _ _ (fun b hb => (tx_signs.2.2 b hb).2.2) (ok.outs y hy).2 b hb
  have hg := ok.hgt
  have e4 : rowOf (rowB txB [h]) txB 1 = some [h] := rowOf_row txB [h] (fun b hb => (tx_signs.1 b hb).1) (fun z hz => by simp at hz; simp only at hg; omega)
  rw [e]
  unfold linesTx
  rw [e1, e3]
  show (match rowOf (rowB txB [h]) txB 1 with | some Z => foldTx (Z.getD 0 0, [], []) (I.map inL ++ O.map outL) | none => none) = _
  rw [e4]
  show foldTx (h, [], []) (I.map inL ++ O.map outL) = _
  rw [fold_ins h _ I [] ok.ins, fold_outs h _ O [] ok.outs]
  simp

/-- Unlike right transactions have unlike texts. -/
theorem tx_unlike (t u : TxD) (ht : chkTx t = 0) (hu : chkTx u = 0) (e : txText t = txText u) : t = u := by
  have h1 := tx_back t ht
  rw [e, tx_back u hu] at h1
  injection h1 with h1
  exact h1.symm

/-! Lines that are read were written. -/
theorem fold_text : ∀ (ls : List ByteArray) (t u : TxD), foldTx t ls = some u → txText u = ls.foldl endN (txText t)
  | [], t, u, h => by simp only [foldTx] at h; injection h with h; subst h; rfl
  | x :: r, t, u, h => by
    obtain ⟨hh, I, O⟩ := t
    simp only [foldTx] at h
    have out : ∀ v, outStep (hh, I, O) x = some v → txText v = endN (txText (hh, I, O)) x := fun v hv => by
      unfold outStep at hv
      cases hl : lineOf x outB 1 with
      | none => rw [hl] at hv; cases hv
      | some ZL =>
        obtain ⟨Z, L⟩ := ZL
        rw [hl] at hv
        injection hv with hv
        subst hv
        obtain ⟨z, rfl⟩ := List.length_eq_one_iff.1 (lineOf_len hl)
        have hx := line_back hl
        show outsText (insText hh I) (O ++ [(z, L)]) = _
        rw [outsText_snoc]
        show outsText (insText hh I) O ++ outText (z, L) = endN (outsText (insText hh I) O) x
        rw [hx]; rfl
    have step : ∀ v, stepLn (hh, I, O) x = some v → txText v = endN (txText (hh, I, O)) x := fun v hv => by
      unfold stepLn at hv
      cases hl : lineOf x inB 2 with
      | none => rw [hl] at hv; exact out v hv
      | some ZL =>
        obtain ⟨Z, L⟩ := ZL
        rw [hl] at hv
        change (if O.length = 0 then some (hh, I ++ [(Z.getD 0 0, Z.getD 1 0, L)], O) else outStep (hh, I, O) x) = some v at hv
        split at hv
        · rename_i h0
          have e0 : O = [] := List.length_eq_zero_iff.1 h0
          subst e0
          injection hv with hv
          subst hv
          have hz := lineOf_len hl
          obtain ⟨z1, z2, rfl⟩ : ∃ z1 z2, Z = [z1, z2] := by
            match Z, hz with
            | [a, b], _ => exact ⟨a, b, rfl⟩
          have hx := line_back hl
          show insText hh (I ++ [(z1, z2, L)]) = _
          rw [insText_snoc]
          show insText hh I ++ inText (z1, z2, L) = endN (insText hh I) x
          rw [hx]; rfl
        · exact out v hv
    cases hs : stepLn (hh, I, O) x with
    | none => rw [hs] at h; cases h
    | some v =>
      rw [hs] at h
      change foldTx v r = some u at h
      rw [fold_text r v u h, step v hs]
      rfl

/-- What is read as a transaction is its text. -/
theorem tx_text (s : ByteArray) (t : TxD) (h : linesTx s = some t) : txText t = s := by
  unfold linesTx at h
  split at h
  · rename_i he
    cases hr : rowOf ((linesOf s).getD 0 ⟨#[]⟩) txB 1 with
    | none => rw [hr] at h; cases h
    | some Z =>
      rw [hr] at h
      obtain ⟨z, rfl⟩ := List.length_eq_one_iff.1 (rowOf_len hr)
      change foldTx (z, [], []) ((linesOf s).drop 1) = some t at h
      have hs := ends_back s he
      have hj : joinB 10 (linesOf s) = bodyB s := join_spl 10 (bodyB s)
      cases hq : linesOf s with
      | nil => have := spl_pos 10 (bodyB s); change 0 < (linesOf s).length at this; rw [hq] at this; cases this
      | cons l0 ls =>
        rw [hq] at h hr hj
        have h0 : l0 = rowB txB [z] := row_back hr
        have hf := fold_text ls (z, [], []) t h
        rw [hf]
        show ls.foldl endN (headText z) = s
        have e : headText z = l0 ++ ⟨#[10]⟩ := by rw [h0]; rfl
        rw [e, fold_join, hj]
        exact hs.symm
  · cases h

end Go.Proofs.YtadlakolpphgnaaDoor
