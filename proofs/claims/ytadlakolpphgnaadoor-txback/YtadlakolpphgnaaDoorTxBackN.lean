/- What is printed of a transaction is read, and what is read is printed as it was. Nothing of the program. -/
import Derived.Test.YtadlakolpphgnaaDoorTxBackM
namespace Go.Proofs.YtadlakolpphgnaaDoor

theorem dec_backL : ∀ (u : Nat), u < 1000000000000 → Lib.parseUint10 0 (Lib.decDigits u) = .ok u := by
  intro u
  induction u using Nat.strongRecOn with
  | ind u ih =>
    intro hu
    rw [Lib.decDigits]
    split
    · rename_i h
      have e := dig_val u h
      simp only [Lib.parseUint10, e]
      rw [if_pos (by omega), if_neg (by omega), if_neg (by omega)]
      congr 1
      omega
    · rename_i h
      have e := dig_val (u % 10) (by omega)
      have := uint_snoc (Lib.decDigits (u / 10)) 0 (u / 10) (UInt8.ofNat (48 + u % 10)) (ih (u / 10) (by omega) (by omega)) (by omega) (by omega) (by omega) (by omega)
      rw [this, e]
      congr 1
      omega
theorem atoi_backL (n : Int) (h0 : -10000000000 ≤ n) (h1 : n ≤ 10000000000) : Lib.atoiAll (Lib.itoa n) = .ok n := by
  unfold Lib.itoa
  split
  · rename_i hn
    have e := dec_backL n.natAbs (by omega)
    unfold Lib.atoiAll
    have h45 : (45 : UInt8).toNat = 45 := rfl
    simp only [h45, or_true, if_true, Lib.parseMag, dec_ne, if_false, e]
    rw [if_neg (by omega), if_neg (by omega)]
    congr 1
    first | omega | (simp; omega)
  · rename_i hn
    have e := dec_backL n.toNat (by omega)
    have hd := dec_digits n.toNat
    have hne := dec_ne n.toNat
    generalize Lib.decDigits n.toNat = l at *
    cases l with
    | nil => exact absurd rfl hne
    | cons c r =>
      have hc := hd c (by simp)
      have g1 : ¬ (c.toNat = 43 ∨ c.toNat = 45) := by omega
      have g2 : ¬ c.toNat = 45 := by omega
      have hm : Lib.parseMag (c :: r) = .ok n.toNat := by unfold Lib.parseMag; rw [if_neg hne]; exact e
      unfold Lib.atoiAll
      dsimp only
      rw [if_neg g1, hm]
      dsimp only
      rw [if_neg (by omega), if_neg (by omega), if_neg g2]
      congr 1
      omega
theorem itoa_plain (n : Int) (b : UInt8) (h : b ∈ Lib.itoa n) : b ≠ 32 ∧ b ≠ 58 ∧ b ≠ 10 := by
  have key : ∀ b : UInt8, 48 ≤ b.toNat ∧ b.toNat ≤ 57 → b ≠ 32 ∧ b ≠ 58 ∧ b ≠ 10 := fun b hb => by
    refine ⟨fun e => ?_, fun e => ?_, fun e => ?_⟩ <;> (rw [e] at hb; exact absurd hb (by decide))
  unfold Lib.itoa at h
  split at h
  · simp only [List.mem_cons] at h
    rcases h with rfl | h
    · decide
    · exact key b (dec_digits _ b h)
  · exact key b (dec_digits _ b h)

theorem textB_data (n : Int) : (textB n).data.toList = Lib.itoa n := by simp [textB]
theorem num_text (z : Int) (h : -10000000000 ≤ z ∧ z ≤ 10000000000) : numOf (textB z) = some z := by
  unfold numOf
  rw [textB_data, atoi_backL z h.1 h.2]
  simp
theorem text_num {x : ByteArray} {z : Int} (h : numOf x = some z) : x = textB z := by
  unfold numOf at h
  split at h
  · split at h
    · rename_i e
      injection h with h
      subst h
      exact (ba_list e).symm
    · cases h
  · cases h

/-! Rows. -/
theorem row_fold : ∀ (Z : List Int) (word : ByteArray), (rowB word Z).data.toList = word.data.toList ++ ((Z.map textB).map (fun x => 32 :: x.data.toList)).flatten
  | [], word => by simp [rowB]
  | z :: r, word => by
    have ih := row_fold r (word ++ (⟨#[32]⟩ ++ textB z))
    have e : rowB word (z :: r) = rowB (word ++ (⟨#[32]⟩ ++ textB z)) r := rfl
    rw [e, ih]
    simp [ByteArray.data_append]
theorem row_join (word : ByteArray) (Z : List Int) : rowB word Z = joinB 32 (word :: Z.map textB) := by
  apply data_inj
  rw [row_fold, joinB_data, List.map_cons, Lib.join_cons, Lib.joinTail]
  simp [Function.comp_def]
theorem row_spl (word : ByteArray) (Z : List Int) (hw : ∀ b ∈ word.data.toList, b ≠ 32) : spl 32 (rowB word Z) = word :: Z.map textB := by
  rw [row_join]
  exact spl_join 32 _ (by simp) (fun x hx b hb => by
    rcases List.mem_cons.1 hx with rfl | hx
    · exact hw b hb
    · obtain ⟨z, _, rfl⟩ := List.mem_map.1 hx
      rw [textB_data] at hb
      exact (itoa_plain z b hb).1)
theorem rowOf_row (word : ByteArray) (Z : List Int) (hw : ∀ b ∈ word.data.toList, b ≠ 32) (hz : ∀ z ∈ Z, -10000000000 ≤ z ∧ z ≤ 10000000000) : rowOf (rowB word Z) word Z.length = some Z := by
  unfold rowOf
  rw [row_spl word Z hw, if_pos ⟨rfl, by simp⟩]
  show numAll (Z.map textB) = some Z
  unfold numAll
  rw [if_pos]
  · congr 1
    rw [List.map_map]
    conv => rhs; rw [← List.map_id Z]
    apply List.map_congr_left
    intro z hm
    show (numOf (textB z)).getD 0 = z
    rw [num_text z (hz z hm)]; rfl
  · rw [List.all_eq_true]
    intro x hx
    obtain ⟨z, hm, rfl⟩ := List.mem_map.1 hx
    rw [num_text z (hz z hm)]; rfl
theorem rowOf_other (word w2 : ByteArray) (Z : List Int) (n : Nat) (hw : ∀ b ∈ word.data.toList, b ≠ 32) (hne : word ≠ w2) : rowOf (rowB word Z) w2 n = none := by
  unfold rowOf
  rw [row_spl word Z hw, if_neg (fun h => hne h.1)]
theorem row_back {s word : ByteArray} {n : Nat} {Z : List Int} (h : rowOf s word n = some Z) : s = rowB word Z := by
  unfold rowOf at h
  split at h
  · rename_i h1
    have hs := join_spl 32 s
    cases hq : spl 32 s with
    | nil => have := spl_pos 32 s; rw [hq] at this; cases this
    | cons x r =>
      rw [hq] at h1 h hs
      have hx : x = word := h1.1
      subst hx
      change numAll r = some Z at h
      unfold numAll at h
      split at h
      · rename_i ha
        injection h with h
        have hr : r = Z.map textB := by
          rw [← h, List.map_map]
          conv => lhs; rw [← List.map_id r]
          apply List.map_congr_left
          intro y hy
          have hy2 := List.all_eq_true.1 ha y hy
          cases hz : numOf y with
          | none => rw [hz] at hy2; cases hy2
          | some z => show y = textB ((numOf y).getD 0); rw [hz]; exact text_num hz
        rw [row_join, ← hr]; exact hs.symm
      · cases h
  · cases h

/-! Orders. -/
theorem word_text {x : ByteArray} {q : Int × Int} (h : parseW x = some q) : x = opText q := by
  unfold parseW at h
  cases hn : numOf x with
  | some n =>
    rw [hn] at h
    injection h with h
    subst h
    rw [text_num hn]
    simp [opText, textB]
  | none =>
    rw [hn] at h
    cases hk : kindOf x with
    | none => rw [hk] at h; cases h
    | some k =>
      rw [hk] at h
      injection h with h
      subst h
      unfold kindOf at hk
      have h1 := List.find?_some hk
      have h2 := List.mem_of_find?_eq_some hk
      have h3 : k ≠ 1 := fun e => by subst e; revert h2; decide
      have h4 : (nameB k).toList = x.toList := by simpa using h1
      have h5 : opText ((k : Int), 0) = nameB k := by
        unfold opText
        rw [if_neg (by show ¬ (k : Int) = 1; omega)]
        show nameB ((k : Int).toNat) = _
        rw [Int.toNat_natCast]
      rw [h5]; exact (ba_list h4).symm
theorem words_text : ∀ {ws : List ByteArray} {l : List (Int × Int)}, parseAll ws = some l → ws = l.map opText
  | [], l, h => by simp only [parseAll] at h; injection h with h; subst h; rfl
  | x :: r, l, h => by
    simp only [parseAll] at h
    cases hx : parseW x with
    | none => rw [hx] at h; cases h
    | some q =>
      cases hr : parseAll r with
      | none => rw [hx, hr] at h; cases h
      | some m =>
        rw [hx, hr] at h
        injection h with h
        subst h
        rw [List.map_cons, ← word_text hx, ← words_text hr]
theorem ops_back {s : ByteArray} (h : prE s = 0) : opsText (prL s) = s := by
  unfold prE at h
  unfold prL
  split at h
  · cases h
  · rename_i hs
    rw [if_neg hs]
    cases hp : parseAll (wordsOf s) with
    | none => rw [hp] at h; cases h
    | some l =>
      rw [hp] at h
      change chk l = 0 at h
      show opsText (if chk l = 0 then l else []) = s
      rw [if_pos h]
      have hw := words_text hp
      unfold wordsOf at hw
      split at hw
      · rename_i h0
        have e : l = [] := by cases l with | nil => rfl | cons _ _ => cases hw
        subst e
        cases s with
        | mk d =>
          have : d = #[] := Array.eq_empty_of_size_eq_zero h0
          rw [this]; rfl
      · have e : opsText l = joinB 32 (spl 32 s) := by
          show joinB 32 (l.map opText) = _
          rw [← hw]; rfl
        rw [e]; exact join_spl 32 s

/-! Lines. -/
def lineT (word : ByteArray) (Z : List Int) (l : List (Int × Int)) : ByteArray := (rowB word Z ++ ⟨#[58]⟩) ++ opsText l
theorem row_free (word : ByteArray) (Z : List Int) (c : UInt8) (hw : ∀ b ∈ word.data.toList, b ≠ c) (hc : c = 58 ∨ c = 10) : ∀ b ∈ (rowB word Z).data.toList, b ≠ c := by
  intro b hb
  rw [row_fold] at hb
  rcases List.mem_append.1 hb with hb | hb
  · exact hw b hb
  · obtain ⟨y, hy, hb⟩ := List.mem_flatten.1 hb
    obtain ⟨x, hx, rfl⟩ := List.mem_map.1 hy
    obtain ⟨z, _, rfl⟩ := List.mem_map.1 hx
    rcases List.mem_cons.1 hb with rfl | hb
    · rcases hc with rfl | rfl <;> decide
    · rw [textB_data] at hb
      rcases hc with rfl | rfl
      · exact (itoa_plain z b hb).2.1
      · exact (itoa_plain z b hb).2.2
theorem line_cut (word : ByteArray) (Z : List Int) (l : List (Int × Int)) (hw : ∀ b ∈ word.data.toList, b ≠ 58) : cutH (lineT word Z l) = rowB word Z ∧ cutT (lineT word Z l) = opsText l ∧ cutF (lineT word Z l) = true := by
  have e : (lineT word Z l).data.toList = (rowB word Z).data.toList ++ 58 :: (opsText l).data.toList := by simp [lineT, ByteArray.data_append]
  have hc := cut_hit (rowB word Z).data.toList (opsText l).data.toList (row_free word Z 58 hw (Or.inl rfl))
  unfold cutH cutT cutF
  rw [e, hc]
  exact ⟨data_inj (by simp), data_inj (by simp), rfl⟩
theorem lineOf_line (word : ByteArray) (Z : List Int) (l : List (Int × Int)) (hw : ∀ b ∈ word.data.toList, b ≠ 32 ∧ b ≠ 58) (hz : ∀ z ∈ Z, -10000000000 ≤ z ∧ z ≤ 10000000000) (hl : chk l = 0) : lineOf (lineT word Z l) word Z.length = some (Z, l) := by
  obtain ⟨h1, h2, h3⟩ := line_cut word Z l (fun b hb => (hw b hb).2)
  obtain ⟨r1, r2⟩ := read_back l hl
  unfold lineOf
  rw [h3, h1, h2, rowOf_row word Z (fun b hb => (hw b hb).1) hz]
  show (if prE (opsText l) = 0 then some (Z, prL (opsText l)) else none) = _
  rw [if_pos r1, r2]
theorem lineOf_other (word w2 : ByteArray) (Z : List Int) (l : List (Int × Int)) (n : Nat) (hw : ∀ b ∈ word.data.toList, b ≠ 32 ∧ b ≠ 58) (hne : word ≠ w2) : lineOf (lineT word Z l) w2 n = none := by
  obtain ⟨h1, h2, h3⟩ := line_cut word Z l (fun b hb => (hw b hb).2)
  unfold lineOf
  rw [h3, h1, rowOf_other word w2 Z n (fun b hb => (hw b hb).1) hne]
  rfl
theorem line_back {s word : ByteArray} {n : Nat} {Z : List Int} {L : List (Int × Int)} (h : lineOf s word n = some (Z, L)) : s = lineT word Z L := by
  unfold lineOf at h
  split at h
  · rename_i hf
    cases hr : rowOf (cutH s) word n with
    | none => rw [hr] at h; cases h
    | some Y =>
      rw [hr] at h
      change (if prE (cutT s) = 0 then some (Y, prL (cutT s)) else none) = _ at h
      split at h
      · rename_i hp
        injection h with h
        injection h with h1 h2
        subst h1 h2
        have hs := cut_parts s hf
        unfold lineT
        rw [ops_back hp, ← row_back hr]
        exact hs
      · cases h
  · cases h

end Go.Proofs.YtadlakolpphgnaaDoor
