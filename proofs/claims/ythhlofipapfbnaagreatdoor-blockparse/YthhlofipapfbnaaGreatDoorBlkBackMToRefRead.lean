/- Mathematics of the law BlockBack: what is printed of a right block is read. -/
import Derived.Test.YthhlofipapfbnaaGreatDoorBlkParseM
import Derived.Lib.IndexMore
import Derived.Test.YthhlofipapfbnaaGreatDoorTxLineToBlkTextM
import Derived.Test.YthhlofipapfbnaaGreatDoorRefWholeToRefSameT
import Derived.Test.YthhlofipapfbnaaGreatDoorLockRead
import Derived.Test.YthhlofipapfbnaaGreatDoorBookEqToRefPts
namespace Go.Proofs.YthhlofipapfbnaaGreatDoor
open Go.RowKit

theorem cut_line (x r : List UInt8) (h : ∀ b ∈ x, b ≠ 10) : Lib.cut (x ++ 10 :: r) [10] = (x, r, true) := by
  have hi : Lib.index (x ++ 10 :: r) [10] = (x.length : Int) := by rw [Lib.index_one]; exact idx_hit 10 x r h
  unfold Lib.cut
  rw [hi, if_pos (by omega), Int.toNat_natCast, List.take_left]
  have hd : (x ++ 10 :: r).drop (x.length + ([10] : List UInt8).length) = r := by
    rw [List.length_singleton, ← List.drop_drop, List.drop_left]; rfl
  rw [hd]
def cutL : List UInt8 := [10, 116, 120, 32]
theorem occ_line (x rest : List UInt8) (h : ∀ b ∈ x, b ≠ 10) (j : Nat) : Lib.occAt (x ++ 10 :: rest) cutL j = if j < x.length then false else if j = x.length then [116, 120, 32].isPrefixOf rest else Lib.occAt rest cutL (j - x.length - 1) := by
  unfold Lib.occAt cutL
  split
  · next q =>
    rw [List.drop_append_of_le_length (by omega), List.drop_eq_getElem_cons q, List.cons_append, List.isPrefixOf]
    have := h x[j] (List.getElem_mem q)
    rw [show ((10 : UInt8) == x[j]) = false by simpa using Ne.symm this]
    rfl
  · split
    · next q =>
      subst q
      rw [List.drop_left]
      simp [List.isPrefixOf]
    · next q1 q2 =>
      congr 1
      rw [show j = x.length + (1 + (j - x.length - 1)) by omega, ← List.drop_drop, List.drop_left, ← List.drop_drop]
      simp
theorem occ_past (s : List UInt8) (j : Nat) (h : s.length ≤ j) : Lib.occAt s cutL j = false := by
  unfold Lib.occAt
  rw [List.drop_of_length_le h]
  rfl

theorem ext_left (a b : ByteArray) : (a ++ b).extract 0 a.size = a := by
  apply ba_ext
  rw [ext_list, size_list]
  simp [ByteArray.data_append]
theorem ext_right (a b : ByteArray) : (a ++ b).extract a.size (a ++ b).size = b := by
  apply ba_ext
  rw [ext_list, size_list, size_list]
  simp [ByteArray.data_append]
  rw [List.take_of_length_le (by rw [← size_list]; exact Nat.le_refl _)]
end Go.Proofs.YthhlofipapfbnaaGreatDoor

/- The reference's way to read a transaction's lines is the program's: mathematics alone. -/
namespace Go.Proofs.YthhlofipapfbnaaGreatDoor

theorem pieces_ex (c : UInt8) : ∀ (n : Nat) (s : List UInt8), s.length ≤ n → ∃ xs : List (List UInt8), xs ≠ [] ∧ (∀ x ∈ xs, ∀ b ∈ x, b ≠ c) ∧ s = Lib.join xs [c]
  | 0, s, h => by
    have : s = [] := List.length_eq_zero_iff.1 (by omega)
    subst this
    exact ⟨[[]], by simp, (fun x hx b hb => by simp at hx; subst hx; cases hb), by rw [Lib.join_one]⟩
  | n + 1, s, h => by
    rcases parts_at c s with h1 | ⟨x, r, rfl, h1⟩
    · exact ⟨[s], by simp, (fun x hx b hb => by simp at hx; subst hx; exact h1 b hb), by rw [Lib.join_one]⟩
    · obtain ⟨ys, y1, y2, y3⟩ := pieces_ex c n r (by simp at h; omega)
      refine ⟨x :: ys, by simp, fun z hz b hb => ?_, ?_⟩
      · rcases List.mem_cons.1 hz with rfl | hz
        · exact h1 b hb
        · exact y2 z hz b hb
      · obtain ⟨y, ys', rfl⟩ : ∃ y ys', ys = y :: ys' := by
          cases ys with
          | nil => exact absurd rfl y1
          | cons y ys' => exact ⟨y, ys', rfl⟩
        rw [y3]
        simp [Lib.join]
theorem spl_free (c : UInt8) (s x : ByteArray) (hx : x ∈ spl c s) : ∀ b ∈ x.data.toList, b ≠ c := by
  obtain ⟨xs, h1, h2, h3⟩ := pieces_ex c _ s.data.toList (Nat.le_refl _)
  have e : s = joinB c (xs.map fun l => ⟨l.toArray⟩) := by
    apply data_inj
    rw [joinB_data, h3]
    congr 1
    rw [List.map_map]
    have : ((fun x : ByteArray => x.data.toList) ∘ fun l : List UInt8 => (⟨l.toArray⟩ : ByteArray)) = id := by funext l; simp
    rw [this, List.map_id]
  have e2 : spl c s = xs.map fun l => ⟨l.toArray⟩ := by
    conv => lhs; rw [e]
    exact spl_join c _ (by simpa using h1) (fun y hy b hb => by
      obtain ⟨l, hl, rfl⟩ := List.mem_map.1 hy
      exact h2 l hl b (by simpa using hb))
  rw [e2] at hx
  obtain ⟨l, hl, rfl⟩ := List.mem_map.1 hx
  intro b hb
  exact h2 l hl b (by simpa using hb)

theorem joinB_end (c : UInt8) (xs : List ByteArray) (h : xs ≠ []) : joinB c (xs ++ [⟨#[]⟩]) = joinB c xs ++ ⟨#[c]⟩ := by
  apply data_inj
  rw [joinB_data, List.map_append, List.map_cons, List.map_nil, join_snoc _ _ _ (by simpa using h)]
  simp [ByteArray.data_append, joinB_data]

/-- A text that is ended by a line feed: its pieces are those of what stands ahead, and nothing. -/
theorem spl_ends (s : ByteArray) (h : endsB s = true) : spl 10 s = linesOf s ++ [⟨#[]⟩] := by
  have e := ends_back s h
  have hne : linesOf s ≠ [] := fun e2 => by have := spl_pos 10 (bodyB s); unfold linesOf at e2; rw [e2] at this; simp at this
  have e3 : s = joinB 10 (linesOf s ++ [⟨#[]⟩]) := by
    rw [joinB_end 10 _ hne]
    unfold linesOf
    rw [join_spl]
    exact e
  conv => lhs; rw [e3]
  refine spl_join 10 _ (by simp) (fun x hx b hb => ?_)
  rcases List.mem_append.1 hx with hx | hx
  · exact spl_free 10 _ x hx b hb
  · simp at hx; subst hx; cases hb
theorem spl_not (s : ByteArray) (h : endsB s = false) (h2 : 2 ≤ (spl 10 s).length) : (spl 10 s).getD ((spl 10 s).length - 1) ⟨#[]⟩ ≠ ⟨#[]⟩ := by
  intro e
  obtain ⟨ys, y, hy⟩ : ∃ ys y, spl 10 s = ys ++ [y] := by
    rcases List.eq_nil_or_concat (spl 10 s) with h1 | ⟨ys, y, h1⟩
    · rw [h1] at h2; simp at h2
    · exact ⟨ys, y, by rw [h1]; simp⟩
  rw [hy] at e h2
  simp at e
  subst e
  have hne : ys ≠ [] := fun e2 => by subst e2; simp at h2
  have e3 := join_spl 10 s
  rw [hy, joinB_end 10 ys hne] at e3
  have := (ends_data (joinB 10 ys)).1
  rw [e3, h] at this
  cases this

/-- Does a text open with 'tx '? -/
def hasTx (x : ByteArray) : Bool := decide (3 ≤ x.size) && ((x.extract 0 3).toList == [116, 120, 32])
def tailB (x : ByteArray) (k : Nat) : ByteArray := x.extract k x.size
def headB (x : ByteArray) (k : Nat) : ByteArray := x.extract 0 k

theorem tail_data (x : ByteArray) (k : Nat) : (tailB x k).data.toList = x.data.toList.drop k := by
  unfold tailB; rw [ext_list, size_list]
  rw [List.take_of_length_le (by rw [List.length_drop]; omega)]
theorem head_data (x : ByteArray) (k : Nat) : (headB x k).data.toList = x.data.toList.take k := by
  unfold headB; rw [ext_list]; simp
theorem hasTx_iff (x : ByteArray) : hasTx x = true ↔ ∃ r : List UInt8, x.data.toList = [116, 120, 32] ++ r := by
  unfold hasTx
  rw [Bool.and_eq_true, decide_eq_true_iff, beq_iff_eq, ByteArray.toList_eq]
  have e := head_data x 3
  unfold headB at e
  rw [e]
  constructor
  · rintro ⟨_, h⟩
    exact ⟨x.data.toList.drop 3, by rw [← h, List.take_append_drop]⟩
  · rintro ⟨r, h⟩
    rw [size_list, h]
    simp

theorem numOf_free {x : ByteArray} {z : Int} (h : numOf x = some z) : ∀ b ∈ x.data.toList, b ≠ 32 := by
  have e := text_num h
  intro b hb
  rw [e, textB_data] at hb
  exact (itoa_plain z b hb).1

theorem numAll_one (p : ByteArray) : numAll [p] = (numOf p).map fun n => [n] := by
  unfold numAll
  cases h : numOf p <;> simp [h]

/-- The first line, as the reference reads it. -/
theorem head_eq (x : ByteArray) : rowOf x txB 1 = if hasTx x = true then (numOf (tailB x 3)).map (fun n => [n]) else none := by
  by_cases hc : (spl 32 x).getD 0 ⟨#[]⟩ = txB ∧ (spl 32 x).length = 2
  · obtain ⟨p, hp⟩ : ∃ p, spl 32 x = [txB, p] := by
      obtain ⟨h1, h2⟩ := hc
      match hs : spl 32 x, h2 with
      | [a, b], _ => rw [hs] at h1; exact ⟨b, by simp at h1; rw [h1]⟩
    have ej := join_spl 32 x
    rw [hp] at ej
    have ed : x.data.toList = [116, 120, 32] ++ p.data.toList := by
      rw [← ej, joinB_data]
      simp [Lib.join, txB]
    have ht : hasTx x = true := (hasTx_iff x).2 ⟨_, ed⟩
    have etl : tailB x 3 = p := by
      apply data_inj
      rw [tail_data, ed]; rfl
    rw [if_pos ht, etl]
    unfold rowOf
    rw [if_pos hc, hp]
    exact numAll_one p
  · have e : rowOf x txB 1 = none := by unfold rowOf; rw [if_neg hc]
    rw [e]
    by_cases ht : hasTx x = true
    · rw [if_pos ht]
      obtain ⟨r, hr⟩ := (hasTx_iff x).1 ht
      cases hn : numOf (tailB x 3) with
      | none => rfl
      | some z =>
        exfalso
        apply hc
        have hf := numOf_free hn
        have etl : (tailB x 3).data.toList = r := by rw [tail_data, hr]; rfl
        have ex : x = joinB 32 [txB, tailB x 3] := by
          apply data_inj
          rw [joinB_data, hr]
          simp [Lib.join, txB, etl]
        have es : spl 32 x = [txB, tailB x 3] := by
          conv => lhs; rw [ex]
          refine spl_join 32 _ (by simp) (fun y hy b hb => ?_)
          simp at hy
          rcases hy with rfl | rfl
          · exact (tx_signs.1 b hb).1
          · exact hf b hb
        rw [es]
        exact ⟨rfl, rfl⟩
    · rw [if_neg ht]

/-- The first colon. -/
def colon (x : ByteArray) : Int := Lib.indexByte x.data.toList 58
theorem colon_none {x : ByteArray} (h : cutF x = false) : colon x < 0 := by
  rcases parts_at 58 x.data.toList with h1 | ⟨y, r, e, h1⟩
  · unfold colon; rw [idx_miss 58 _ h1]; decide
  · have hc := cut_hit y r h1
    unfold cutF at h
    rw [e, hc] at h
    cases h
theorem colon_some {x : ByteArray} (h : cutF x = true) : ∃ k : Nat, colon x = k ∧ k < x.size ∧ headB x k = cutH x ∧ tailB x (k + 1) = cutT x := by
  rcases parts_at 58 x.data.toList with h1 | ⟨y, r, e, h1⟩
  · have hi : Lib.index x.data.toList [58] = -1 := by rw [Lib.index_one]; exact idx_miss 58 _ h1
    unfold cutF Lib.cut at h
    rw [hi, if_neg (by omega)] at h
    cases h
  · have hc := cut_hit y r h1
    refine ⟨y.length, ?_, ?_, ?_, ?_⟩
    · unfold colon; rw [e]; exact idx_hit 58 y r h1
    · rw [size_list, e]; simp
    · apply data_inj
      rw [head_data, e]
      unfold cutH
      rw [e, hc]; simp
    · apply data_inj
      rw [tail_data, e]
      unfold cutT
      rw [e, hc]
      simp

/-- A line, as the reference reads it. -/
def refStep (t : TxD) (x : ByteArray) : Option TxD :=
  if cutF x = false then none else if prE (cutT x) ≠ 0 then none
  else if (spl 32 (cutH x)).getD 0 ⟨#[]⟩ = inB ∧ (spl 32 (cutH x)).length = 3 then
    (match numOf ((spl 32 (cutH x)).getD 1 ⟨#[]⟩), numOf ((spl 32 (cutH x)).getD 2 ⟨#[]⟩) with
     | some a, some b => if t.2.2.length = 0 then some (t.1, t.2.1 ++ [(a, b, prL (cutT x))], t.2.2) else none
     | _, _ => none)
  else if (spl 32 (cutH x)).getD 0 ⟨#[]⟩ = outB ∧ (spl 32 (cutH x)).length = 2 then
    (match numOf ((spl 32 (cutH x)).getD 1 ⟨#[]⟩) with
     | some a => some (t.1, t.2.1, t.2.2 ++ [(a, prL (cutT x))])
     | none => none)
  else none

theorem step_eq (t : TxD) (x : ByteArray) : stepLn t x = refStep t x := by
  unfold refStep
  by_cases h1 : cutF x = false
  · rw [if_pos h1]
    have e1 : ∀ w n, lineOf x w n = none := fun w n => by unfold lineOf; rw [h1]; rfl
    unfold stepLn outStep
    rw [e1, e1]
  · have h1' : cutF x = true := by simpa using h1
    rw [if_neg h1]
    by_cases h2 : prE (cutT x) ≠ 0
    · rw [if_pos h2]
      have e1 : ∀ w n, lineOf x w n = none := fun w n => by
        unfold lineOf
        rw [if_pos h1']
        cases rowOf (cutH x) w n with
        | none => rfl
        | some Z => exact if_neg h2
      unfold stepLn outStep
      rw [e1, e1]
    · rw [if_neg h2]
      have h2' : prE (cutT x) = 0 := by simpa using h2
      have el : ∀ w n, lineOf x w n = (rowOf (cutH x) w n).map fun Z => (Z, prL (cutT x)) := fun w n => by
        unfold lineOf
        rw [if_pos h1']
        cases rowOf (cutH x) w n with
        | none => rfl
        | some Z => exact if_pos h2'
      obtain ⟨ws, hws⟩ : ∃ ws, spl 32 (cutH x) = ws := ⟨_, rfl⟩
      have er : ∀ w n, rowOf (cutH x) w n = if ws.getD 0 ⟨#[]⟩ = w ∧ ws.length = n + 1 then numAll (ws.drop 1) else none := fun w n => by unfold rowOf; rw [hws]
      rw [hws]
      by_cases h3 : ws.getD 0 ⟨#[]⟩ = inB ∧ ws.length = 3
      · rw [if_pos h3]
        have eo : lineOf x outB 1 = none := by
          rw [el, er, if_neg (fun h => out_in (h.1.symm.trans h3.1))]; rfl
        have eo2 : outStep t x = none := by unfold outStep; rw [eo]
        obtain ⟨a, b, c, rfl⟩ : ∃ a b c, ws = [a, b, c] := by
          match ws, h3.2 with
          | [a, b, c], _ => exact ⟨a, b, c, rfl⟩
        have ei : lineOf x inB 2 = (numAll [b, c]).map fun Z => (Z, prL (cutT x)) := by rw [el, er, if_pos h3]; rfl
        unfold stepLn
        rw [ei, eo2]
        show _ = (match numOf b, numOf c with | some a, some b => _ | _, _ => none)
        unfold numAll
        cases hb : numOf b with
        | none => simp [hb]
        | some z1 =>
          cases hcc : numOf c with
          | none => simp [hb, hcc]
          | some z2 => simp [hb, hcc]
      · rw [if_neg h3]
        have ei : lineOf x inB 2 = none := by rw [el, er, if_neg h3]; rfl
        unfold stepLn
        rw [ei]
        show outStep t x = _
        by_cases h4 : ws.getD 0 ⟨#[]⟩ = outB ∧ ws.length = 2
        · rw [if_pos h4]
          obtain ⟨a, b, rfl⟩ : ∃ a b, ws = [a, b] := by
            match ws, h4.2 with
            | [a, b], _ => exact ⟨a, b, rfl⟩
          have eo : lineOf x outB 1 = (numAll [b]).map fun Z => (Z, prL (cutT x)) := by rw [el, er, if_pos h4]; rfl
          unfold outStep
          rw [eo, numAll_one]
          show _ = (match numOf b with | some a => _ | none => none)
          cases numOf b <;> rfl
        · rw [if_neg h4]
          have eo : lineOf x outB 1 = none := by rw [el, er, if_neg h4]; rfl
          unfold outStep
          rw [eo]

end Go.Proofs.YthhlofipapfbnaaGreatDoor

/- Mathematics of the reference's ReadBlock: lines kept with their ends, put together again to pieces. -/
namespace Go.Proofs.YthhlofipapfbnaaGreatDoor
open Go.RowKit

def sla (s : ByteArray) : List ByteArray := Lib.splitB ⟨#[10]⟩ 1 (Lib.countB s ⟨#[10]⟩) s
theorem sla_len (s : ByteArray) : (sla s).length = Lib.countB s ⟨#[10]⟩ + 1 := Lib.splitB_all ⟨#[10]⟩ (Nat.le_refl 1) 1 _ s rfl
theorem line_cases (l : List UInt8) : (∀ b ∈ l, b ≠ 10) ∨ ∃ x r, l = x ++ 10 :: r ∧ ∀ b ∈ x, b ≠ 10 := by
  induction l with
  | nil => exact .inl (fun b h => by cases h)
  | cons a l ih =>
    by_cases ha : a = 10
    · exact .inr ⟨[], l, by rw [ha]; rfl, fun b h => by cases h⟩
    · rcases ih with h | ⟨x, r, e, h⟩
      · exact .inl (fun b hb => (List.mem_cons.1 hb).elim (fun e => e ▸ ha) (h b))
      · exact .inr ⟨a :: x, r, by rw [e]; rfl, fun b hb => (List.mem_cons.1 hb).elim (fun e => e ▸ ha) (h b)⟩
theorem sla_miss (s : ByteArray) (h : ∀ b ∈ s.data.toList, b ≠ 10) : sla s = [s] := by
  refine Lib.splitB_miss _ _ _ _ ?_
  show Lib.index s.data.toList [10] = -1
  rw [Lib.index_one]
  exact idx_miss 10 _ h
theorem sla_hit (s : ByteArray) (x r : List UInt8) (e : s.data.toList = x ++ 10 :: r) (h : ∀ b ∈ x, b ≠ 10) : sla s = ⟨(x ++ [10]).toArray⟩ :: sla ⟨r.toArray⟩ := by
  have hi : Lib.indexB s ⟨#[10]⟩ = (x.length : Nat) := by
    show Lib.index s.data.toList [10] = _
    rw [e, Lib.index_one]
    exact idx_hit 10 x r h
  have e2 : s.extract (x.length + (⟨#[10]⟩ : ByteArray).size) s.size = ⟨r.toArray⟩ := by
    apply ba_ext
    rw [ext_list, size_list s, e]
    show ((x ++ 10 :: r).drop (x.length + 1)).take _ = _
    rw [← List.drop_drop, List.drop_left]
    show (r.take _) = r
    refine List.take_of_length_le ?_
    show _ ≤ (x ++ 10 :: r).length - (x.length + 1)
    simp
    omega
  have e1 : s.extract 0 (x.length + 1) = ⟨(x ++ [10]).toArray⟩ := by
    apply ba_ext
    rw [ext_list, e]
    rw [show x ++ 10 :: r = (x ++ [10]) ++ r by simp]
    show ((x ++ [10]) ++ r).take (x.length + 1 - 0) = _
    rw [show x.length + 1 - 0 = (x ++ [10]).length by simp, List.take_left]
  unfold sla
  rw [Lib.countB_hit s ⟨#[10]⟩ x.length (Nat.le_refl 1) hi, Nat.add_comm 1, Lib.splitB_hit _ 1 _ s x.length hi, e1, e2]

def preT (l : List UInt8) : Bool := [116, 120, 32].isPrefixOf l
theorem hasTx_pre (x : ByteArray) : hasTx x = preT x.data.toList := by
  unfold preT
  rw [Bool.eq_iff_iff, hasTx_iff, List.isPrefixOf_iff_prefix]
  constructor
  · rintro ⟨r, e⟩; exact ⟨r, e.symm⟩
  · rintro ⟨r, e⟩; exact ⟨r, e.symm⟩
theorem preT_line (x r : List UInt8) : preT (x ++ 10 :: r) = preT (x ++ [10]) := by
  unfold preT
  match x with
  | [] => simp [List.isPrefixOf]
  | [a] => simp [List.isPrefixOf]
  | [a, b] => simp [List.isPrefixOf]
  | a :: b :: c :: d => simp [List.isPrefixOf]

/-- No piece begins in this text. -/
def NoC (l : List UInt8) : Prop := ∀ j, Lib.occAt l cutL j = false
theorem noC_nil : NoC [] := fun j => by unfold Lib.occAt cutL; simp
theorem noC_free (x : List UInt8) (h : ∀ b ∈ x, b ≠ 10) : NoC x := fun j => by
  by_cases q : j < x.length
  · unfold Lib.occAt cutL
    rw [List.drop_eq_getElem_cons q, List.isPrefixOf]
    have := h x[j] (List.getElem_mem q)
    rw [show ((10 : UInt8) == x[j]) = false by simpa using Ne.symm this]
    rfl
  · exact occ_past _ _ (by omega)
theorem noC_line (x : List UInt8) (h : ∀ b ∈ x, b ≠ 10) : NoC (x ++ [10]) := fun j => by
  rw [occ_line x [] h]
  split
  · rfl
  · split
    · rfl
    · exact noC_nil _
theorem occ_app : ∀ (q u : List UInt8) (j : Nat), j < q.length → Lib.occAt (q ++ 10 :: u) cutL j = Lib.occAt (q ++ [10]) cutL j
  | [], _, _, h => absurd h (by simp)
  | a :: q, u, 0, _ => by
    unfold Lib.occAt cutL
    match q with
    | [] => simp [List.isPrefixOf]
    | [b] => simp [List.isPrefixOf]
    | [b, c] => simp [List.isPrefixOf]
    | b :: c :: d :: e => simp [List.isPrefixOf]
  | a :: q, u, j + 1, h => occ_app q u j (by simpa using h)
theorem occ_at (q u : List UInt8) : Lib.occAt (q ++ 10 :: u) cutL q.length = preT u := by
  unfold Lib.occAt cutL preT
  rw [List.drop_left]
  simp [List.isPrefixOf]
theorem occ_beyond (q u : List UInt8) (k : Nat) : Lib.occAt (q ++ 10 :: u) cutL (q.length + 1 + k) = Lib.occAt u cutL k := by
  unfold Lib.occAt
  rw [← List.drop_drop, ← List.drop_drop, List.drop_left]
  rfl
theorem noC_app (q u : List UInt8) (hq : NoC (q ++ [10])) (hp : preT u = false) (hu : NoC u) : NoC (q ++ 10 :: u) := fun j => by
  rcases Nat.lt_trichotomy j q.length with h | h | h
  · rw [occ_app q u j h]; exact hq j
  · rw [h, occ_at]; exact hp
  · rw [show j = q.length + 1 + (j - q.length - 1) by omega, occ_beyond]; exact hu _

theorem pcsF_any : ∀ (f g : Nat) (s : ByteArray), s.size ≤ f → s.size ≤ g → pcsF f s = pcsF g s
  | 0, g, s, h, _ => by rw [pcsF_none g s (by omega)]; rfl
  | f + 1, 0, s, _, h => by rw [pcsF_none _ s (by omega), pcsF_none _ s (by omega)]
  | f + 1, g + 1, s, h1, h2 => by
    by_cases h : s.size = 0
    · rw [pcsF_none _ s h, pcsF_none _ s h]
    · have he := endP_ok s (by omega)
      rw [pcsF_step f s (by omega), pcsF_step g s (by omega), pcsF_any f g _ (by rw [rest_size]; omega) (by rw [rest_size]; omega)]
theorem pcs_step (s : ByteArray) (h : 0 < s.size) : pcs s = s.extract 0 (endP s) :: pcs (s.extract (endP s) s.size) := by
  unfold pcs
  obtain ⟨g, hg⟩ : ∃ g, s.size = g + 1 := ⟨s.size - 1, by omega⟩
  have he := endP_ok s h
  have e := pcsF_step g s h
  rw [← hg] at e
  rw [e, pcsF_any g _ _ (by rw [rest_size]; omega) (Nat.le_refl _)]
theorem pcs_nil (s : ByteArray) (h : s.size = 0) : pcs s = [] := pcsF_none _ _ h
theorem pcs_one (s : ByteArray) (h : 0 < s.size) (hn : NoC s.data.toList) : pcs s = [s] := by
  have e : endP s = s.size := by
    unfold endP
    rw [show cutB.data.toList = cutL from rfl, if_pos (Lib.index_none (fun j _ => hn j))]
  rw [pcs_step s h, e, pcs_nil _ (by simp)]
  congr 1
  apply ba_ext
  rw [ext_list]
  exact List.take_of_length_le (by rw [size_list s]; simp)
theorem pcs_cut (a t : ByteArray) (q : List UInt8) (ha : a.data.toList = q ++ [10]) (hn : NoC (q ++ [10])) (ht : preT t.data.toList = true) : pcs (a ++ t) = a :: pcs t := by
  have hd : (a ++ t).data.toList = q ++ 10 :: t.data.toList := by simp [ByteArray.data_append, ha]
  have hz : a.size = q.length + 1 := by rw [size_list, ha]; simp
  have e : endP (a ++ t) = a.size := by
    have hi : Lib.index (a ++ t).data.toList cutB.data.toList = (q.length : Nat) := by
      rw [hd]
      exact Lib.index_first (by simp) (by rw [show cutB.data.toList = cutL from rfl, occ_at]; exact ht) (fun j hj => by rw [show cutB.data.toList = cutL from rfl, occ_app q _ j hj]; exact hn j)
    unfold endP
    rw [hi, if_neg (by omega), hz]
    omega
  rw [pcs_step _ (by rw [ByteArray.size_append]; omega), e, ext_left, ext_right]

/-- Lines put together to pieces. -/
def glue : List ByteArray → List ByteArray → List ByteArray
  | P, [] => P
  | P, x :: r => if x.size = 0 then glue P r else if P.length = 0 ∨ hasTx x = true then glue (P ++ [x]) r else glue (P.dropLast ++ [P.getLastD ⟨#[]⟩ ++ x]) r
theorem glue_end (P : List ByteArray) : glue P [] = P := rfl
theorem glue_skip (P r : List ByteArray) (x : ByteArray) (h : x.size = 0) : glue P (x :: r) = glue P r := by rw [glue, if_pos h]
theorem glue_new (P r : List ByteArray) (x : ByteArray) (h : x.size ≠ 0) (ht : P.length = 0 ∨ hasTx x = true) : glue P (x :: r) = glue (P ++ [x]) r := by rw [glue, if_neg h, if_pos ht]
theorem glue_on (P r : List ByteArray) (a x : ByteArray) (h : x.size ≠ 0) (ht : hasTx x = false) : glue (P ++ [a]) (x :: r) = glue (P ++ [a ++ x]) r := by
  rw [glue, if_neg h, if_neg (by simp [ht])]
  simp
theorem glue_is : ∀ (n : Nat) (t a : ByteArray) (P : List ByteArray) (q : List UInt8), t.size ≤ n → a.data.toList = q ++ [10] → NoC (q ++ [10]) → glue (P ++ [a]) (sla t) = P ++ pcs (a ++ t)
  | n, t, a, P, q, hn, ha, hq => by
    have hz : a.size = q.length + 1 := by rw [size_list, ha]; simp
    rcases line_cases t.data.toList with h | ⟨x, r, e, h⟩
    · rw [sla_miss t h]
      by_cases h0 : t.size = 0
      · have e0 : a ++ t = a := by
          apply ba_ext
          have : t.data.toList = [] := List.length_eq_zero_iff.1 (by rw [← size_list]; exact h0)
          simp [ByteArray.data_append, this]
        rw [glue_skip _ _ _ h0, glue_end, e0, pcs_one a (by omega) (by rw [ha]; exact hq)]
      · cases ht : hasTx t with
        | true =>
          rw [glue_new _ _ _ h0 (.inr ht), glue_end, pcs_cut a t q ha hq (by rw [← hasTx_pre]; exact ht), pcs_one t (by omega) (noC_free _ h)]
          simp
        | false =>
          rw [glue_on _ _ _ _ h0 ht, glue_end, pcs_one (a ++ t) (by rw [ByteArray.size_append]; omega)]
          rw [show (a ++ t).data.toList = q ++ 10 :: t.data.toList by simp [ByteArray.data_append, ha]]
          exact noC_app q _ hq (by rw [← hasTx_pre]; exact ht) (noC_free _ h)
    · rw [sla_hit t x r e h]
      obtain ⟨L, hL⟩ : ∃ L : ByteArray, L = ⟨(x ++ [10]).toArray⟩ := ⟨_, rfl⟩
      have hLd : L.data.toList = x ++ [10] := by rw [hL]
      have hLz : L.size = x.length + 1 := by rw [size_list, hLd]; simp
      rw [← hL]
      have hts : t.size = x.length + (r.length + 1) := by rw [size_list, e]; simp
      obtain ⟨m, rfl⟩ : ∃ m, n = m + 1 := ⟨n - 1, by omega⟩
      have hr : (⟨r.toArray⟩ : ByteArray).size ≤ m := by
        show r.toArray.size ≤ m
        simp
        omega
      have et : L ++ ⟨r.toArray⟩ = t := by
        apply ba_ext
        rw [e]
        simp [ByteArray.data_append, hLd]
      have hpt : preT t.data.toList = hasTx L := by rw [hasTx_pre, hLd, e, preT_line]
      cases ht : hasTx L with
      | true =>
        rw [glue_new _ _ _ (by omega) (.inr ht), glue_is m ⟨r.toArray⟩ L (P ++ [a]) x hr hLd (noC_line x h), et, pcs_cut a t q ha hq (by rw [hpt, ht])]
        simp
      | false =>
        have hd : (a ++ L).data.toList = (q ++ 10 :: x) ++ [10] := by simp [ByteArray.data_append, ha, hLd]
        rw [glue_on _ _ _ _ (by omega) ht, glue_is m ⟨r.toArray⟩ (a ++ L) P (q ++ 10 :: x) hr hd (by
          rw [show (q ++ 10 :: x) ++ [10] = q ++ 10 :: (x ++ [10]) by simp]
          exact noC_app q _ hq (by rw [← hLd, ← hasTx_pre]; exact ht) (noC_line x h))]
        congr 2
        rw [← et]
        apply ba_ext
        simp [ByteArray.data_append]
theorem glue_all (t : ByteArray) : glue [] (sla t) = pcs t := by
  rcases line_cases t.data.toList with h | ⟨x, r, e, h⟩
  · rw [sla_miss t h]
    by_cases h0 : t.size = 0
    · rw [glue_skip _ _ _ h0, glue_end, pcs_nil t h0]
    · rw [glue_new _ _ _ h0 (.inl rfl), glue_end, pcs_one t (by omega) (noC_free _ h)]
      rfl
  · rw [sla_hit t x r e h]
    obtain ⟨L, hL⟩ : ∃ L : ByteArray, L = ⟨(x ++ [10]).toArray⟩ := ⟨_, rfl⟩
    have hLd : L.data.toList = x ++ [10] := by rw [hL]
    have hLz : L.size = x.length + 1 := by rw [size_list, hLd]; simp
    rw [← hL, glue_new _ _ _ (by omega) (.inl rfl), glue_is _ ⟨r.toArray⟩ L [] x (Nat.le_refl _) hLd (noC_line x h)]
    show pcs _ = _
    congr 1
    apply ba_ext
    rw [e]
    simp [ByteArray.data_append, hLd]
/-- The first line without its end, and the pieces of the others. -/
theorem sla_parts (s : ByteArray) : ∃ h T, sla s = h :: T ∧ glue [] T = pcs (resN s) ∧ ((∃ q, h.data.toList = q ++ [10] ∧ cutN s = ⟨q.toArray⟩) ∨ ((∀ b ∈ h.data.toList, b ≠ 10) ∧ cutN s = h)) := by
  rcases line_cases s.data.toList with h | ⟨x, r, e, h⟩
  · have hi : Lib.index s.data.toList [10] = -1 := by rw [Lib.index_one]; exact idx_miss 10 _ h
    have hc : Lib.cut s.data.toList [10] = (s.data.toList, [], false) := by unfold Lib.cut; rw [hi]; rfl
    refine ⟨s, [], sla_miss s h, ?_, .inr ⟨h, ?_⟩⟩
    · rw [glue_end, pcs_nil]
      unfold resN
      rw [hc]
      rfl
    · unfold cutN
      rw [hc]
  · have hc := cut_line x r h
    refine ⟨⟨(x ++ [10]).toArray⟩, sla ⟨r.toArray⟩, sla_hit s x r e h, ?_, .inl ⟨x, rfl, ?_⟩⟩
    · rw [glue_all]
      unfold resN
      rw [e, hc]
    · unfold cutN
      rw [e, hc]

end Go.Proofs.YthhlofipapfbnaaGreatDoor

/- The contract of the reference's ReadOps: the orders of a text that isn't too long. -/
namespace Go.Proofs.YthhlofipapfbnaaGreatDoor
open Go.RowKit

set_option maxHeartbeats 400000 in
theorem readops_none (w : World) :
    Calls Tryz.prog 109 #[.string ⟨#[]⟩] w fun e w' => e = .returned (.tuple #[.slice none 0 0, .int .i64 0]) ∧ w = w' := by
  go_enter Tryz.func109, Tryz.ntmps109
  go_wp2
  go_ret2
  exact ⟨rfl, rfl⟩

end Go.Proofs.YthhlofipapfbnaaGreatDoor
