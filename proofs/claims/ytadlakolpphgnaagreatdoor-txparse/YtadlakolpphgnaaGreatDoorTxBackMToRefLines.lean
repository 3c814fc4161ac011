/- Pieces of texts: what is joined is split, what is split is joined. Nothing of the program. -/
import Derived.Test.YtadlakolpphgnaaGreatDoorTxState
import Derived.Test.YtadlakolpphgnaaGreatDoorLockBack
import Derived.Test.YtadlakolpphgnaaGreatDoorRefText
namespace Go.Proofs.YtadlakolpphgnaaGreatDoor

theorem idx_miss (c : UInt8) : ∀ (x : List UInt8), (∀ b ∈ x, b ≠ c) → Lib.indexByte x c = -1
  | [], _ => rfl
  | b :: r, h => by
    unfold Lib.indexByte
    have hb : (b == c) = false := by simpa using h b (by simp)
    rw [hb, idx_miss c r (fun d hd => h d (by simp [hd]))]
    rfl
theorem idx_hit (c : UInt8) : ∀ (x r : List UInt8), (∀ b ∈ x, b ≠ c) → Lib.indexByte (x ++ c :: r) c = x.length
  | [], r, _ => by unfold Lib.indexByte; simp
  | b :: x, r, h => by
    have ih := idx_hit c x r (fun d hd => h d (by simp [hd]))
    rw [List.cons_append]
    unfold Lib.indexByte
    have hb : (b == c) = false := by simpa using h b (by simp)
    rw [hb, ih]
    have hne : ((x.length : Int) == -1) = false := by rw [beq_eq_false_iff_ne]; omega
    rw [hne]
    simp
theorem parts_at (c : UInt8) : ∀ (s : List UInt8), (∀ b ∈ s, b ≠ c) ∨ ∃ x r, s = x ++ c :: r ∧ ∀ b ∈ x, b ≠ c
  | [] => Or.inl (fun b hb => by cases hb)
  | b :: s => by
    by_cases h : b = c
    · subst h; exact Or.inr ⟨[], s, rfl, fun d hd => by cases hd⟩
    · rcases parts_at c s with h1 | ⟨x, r, rfl, h1⟩
      · exact Or.inl (fun d hd => by rcases List.mem_cons.1 hd with rfl | hd; exact h; exact h1 d hd)
      · exact Or.inr ⟨b :: x, r, rfl, fun d hd => by rcases List.mem_cons.1 hd with rfl | hd; exact h; exact h1 d hd⟩

theorem split_joinC (c : UInt8) : ∀ (xs : List (List UInt8)), xs ≠ [] → (∀ x ∈ xs, ∀ b ∈ x, b ≠ c) → Lib.splitK [c] 0 (Lib.count (Lib.join xs [c]) [c]) (Lib.join xs [c]) = xs
  | [], h, _ => absurd rfl h
  | [x], _, h => by
    rw [Lib.join_one]
    have hi : Lib.index x [c] = -1 := by rw [Lib.index_one]; exact idx_miss c x (h x (by simp))
    rw [Lib.count_miss hi]
    rfl
  | x :: y :: r, _, h => by
    have ej : Lib.join (x :: y :: r) [c] = x ++ c :: Lib.join (y :: r) [c] := by simp [Lib.join, List.intercalate]
    have hi : Lib.index (Lib.join (x :: y :: r) [c]) [c] = (x.length : Int) := by rw [ej, Lib.index_one]; exact idx_hit c x _ (h x (by simp))
    have hc := Lib.count_hit (s := Lib.join (x :: y :: r) [c]) (sub := [c]) (by simp) hi
    have hd : (Lib.join (x :: y :: r) [c]).drop (x.length + ([c] : List UInt8).length) = Lib.join (y :: r) [c] := by
      rw [ej, List.length_singleton, ← List.drop_drop, List.drop_left]; rfl
    have ht : (Lib.join (x :: y :: r) [c]).take (x.length + 0) = x := by rw [ej, Nat.add_zero, List.take_left]
    rw [hd] at hc
    rw [hc, Nat.add_comm, Lib.splitK]
    have hne : (Lib.index (Lib.join (x :: y :: r) [c]) [c] == -1) = false := by rw [hi, beq_eq_false_iff_ne]; omega
    rw [hne]
    simp only [Bool.false_eq_true, if_false, hi, Int.toNat_natCast]
    rw [ht, hd, split_joinC c (y :: r) (by simp) (fun z hz => h z (by simp [hz]))]

theorem splitK_ne (c : UInt8) : ∀ (k : Nat) (s : List UInt8), Lib.splitK [c] 0 k s ≠ []
  | 0, s => by simp [Lib.splitK]
  | k + 1, s => by unfold Lib.splitK; split <;> simp
theorem join_split (c : UInt8) : ∀ (k : Nat) (s : List UInt8), Lib.join (Lib.splitK [c] 0 k s) [c] = s
  | 0, s => by simp [Lib.splitK, Lib.join_one]
  | k + 1, s => by
    unfold Lib.splitK
    split
    · rw [Lib.join_one]
    · rename_i h
      rcases parts_at c s with h1 | ⟨x, r, rfl, h1⟩
      · exact absurd (by rw [Lib.index_one, idx_miss c s h1]; rfl) h
      · have hi : Lib.index (x ++ c :: r) [c] = (x.length : Int) := by rw [Lib.index_one]; exact idx_hit c x r h1
        rw [hi, Int.toNat_natCast, Nat.add_zero, List.take_left]
        have hd : (x ++ c :: r).drop (x.length + ([c] : List UInt8).length) = r := by
          rw [List.length_singleton, ← List.drop_drop, List.drop_left]; rfl
        rw [hd]
        have hs := join_split c k r
        cases hq : Lib.splitK [c] 0 k r with
        | nil => exact absurd hq (splitK_ne c k r)
        | cons y t =>
          rw [hq] at hs
          have ej : Lib.join (x :: y :: t) [c] = x ++ c :: Lib.join (y :: t) [c] := by simp [Lib.join, List.intercalate]
          rw [ej, hs]

/-- Pieces joined by a sign. -/
def joinB (c : UInt8) (xs : List ByteArray) : ByteArray := ⟨(Lib.join (xs.map (·.data.toList)) [c]).toArray⟩
theorem joinB_data (c : UInt8) (xs : List ByteArray) : (joinB c xs).data.toList = Lib.join (xs.map (·.data.toList)) [c] := by simp [joinB]
theorem spl_data (c : UInt8) (s : ByteArray) : (spl c s).map (·.data.toList) = Lib.splitK [c] 0 (Lib.count s.data.toList [c]) s.data.toList := by
  unfold spl; rw [Lib.splitB_data]
theorem spl_join (c : UInt8) (xs : List ByteArray) (h : xs ≠ []) (hc : ∀ x ∈ xs, ∀ b ∈ x.data.toList, b ≠ c) : spl c (joinB c xs) = xs := by
  apply map_inj
  rw [spl_data, joinB_data]
  exact split_joinC c _ (by simpa using h) (fun x hx b hb => by
    obtain ⟨y, hy, rfl⟩ := List.mem_map.1 hx
    exact hc y hy b hb)
theorem join_spl (c : UInt8) (s : ByteArray) : joinB c (spl c s) = s := by
  apply data_inj
  rw [joinB_data, spl_data, join_split]

/-! The colon. -/
theorem cut_hit (x r : List UInt8) (h : ∀ b ∈ x, b ≠ 58) : Lib.cut (x ++ 58 :: r) [58] = (x, r, true) := by
  have hi : Lib.index (x ++ 58 :: r) [58] = (x.length : Int) := by rw [Lib.index_one]; exact idx_hit 58 x r h
  unfold Lib.cut
  rw [hi, if_pos (by omega), Int.toNat_natCast, List.take_left]
  have hd : (x ++ 58 :: r).drop (x.length + ([58] : List UInt8).length) = r := by
    rw [List.length_singleton, ← List.drop_drop, List.drop_left]; rfl
  rw [hd]
theorem cut_parts (s : ByteArray) (h : cutF s = true) : s = (cutH s ++ ⟨#[58]⟩) ++ cutT s := by
  rcases parts_at 58 s.data.toList with h1 | ⟨x, r, e, h1⟩
  · have hi : Lib.index s.data.toList [58] = -1 := by rw [Lib.index_one]; exact idx_miss 58 _ h1
    unfold cutF Lib.cut at h
    rw [hi, if_neg (by omega)] at h
    cases h
  · have hc := cut_hit x r h1
    apply data_inj
    unfold cutH cutT
    rw [e, hc]
    simp [ByteArray.data_append]

end Go.Proofs.YtadlakolpphgnaaGreatDoor

/- What is printed of a transaction is read, and what is read is printed as it was. Nothing of the program. -/
namespace Go.Proofs.YtadlakolpphgnaaGreatDoor

theorem dec_backL : ∀ (u : Nat), u < 1000000000000 → Lib.parseUint10 0 (Lib.decDigits u) = .ok u := by
  intro u
  induction u using Nat.strongRecOn with
  | ind u ih =>
    intro hu
    rw [Lib.decDigits]
    split
    · rename_i h
      have e := dig_val u h
      simp only [Lib.parseUint10, e]
      rw [if_pos (by omega), if_neg (by omega), if_neg (by omega)]
      congr 1
      omega
    · rename_i h
      have e := dig_val (u % 10) (by omega)
      have := uint_snoc (Lib.decDigits (u / 10)) 0 (u / 10) (UInt8.ofNat (48 + u % 10)) (ih (u / 10) (by omega) (by omega)) (by omega) (by omega) (by omega) (by omega)
      rw [this, e]
      congr 1
      omega
theorem atoi_backL (n : Int) (h0 : -10000000000 ≤ n) (h1 : n ≤ 10000000000) : Lib.atoiAll (Lib.itoa n) = .ok n := by
  unfold Lib.itoa
  split
  · rename_i hn
    have e := dec_backL n.natAbs (by omega)
    unfold Lib.atoiAll
    have h45 : (45 : UInt8).toNat = 45 := rfl
    simp only [h45, or_true, if_true, Lib.parseMag, dec_ne, if_false, e]
    rw [if_neg (by omega), if_neg (by omega)]
    congr 1
    first | omega | (simp; omega)
  · rename_i hn
    have e := dec_backL n.toNat (by omega)
    have hd := dec_digits n.toNat
    have hne := dec_ne n.toNat
    generalize Lib.decDigits n.toNat = l at *
    cases l with
    | nil => exact absurd rfl hne
    | cons c r =>
      have hc := hd c (by simp)
      have g1 : ¬ (c.toNat = 43 ∨ c.toNat = 45) := by omega
      have g2 : ¬ c.toNat = 45 := by omega
      have hm : Lib.parseMag (c :: r) = .ok n.toNat := by unfold Lib.parseMag; rw [if_neg hne]; exact e
      unfold Lib.atoiAll
      dsimp only
      rw [if_neg g1, hm]
      dsimp only
      rw [if_neg (by omega), if_neg (by omega), if_neg g2]
      congr 1
      omega
theorem itoa_plain (n : Int) (b : UInt8) (h : b ∈ Lib.itoa n) : b ≠ 32 ∧ b ≠ 58 ∧ b ≠ 10 := by
  have key : ∀ b : UInt8, 48 ≤ b.toNat ∧ b.toNat ≤ 57 → b ≠ 32 ∧ b ≠ 58 ∧ b ≠ 10 := fun b hb => by
    refine ⟨fun e => ?_, fun e => ?_, fun e => ?_⟩ <;> (rw [e] at hb; exact absurd hb (by decide))
  unfold Lib.itoa at h
  split at h
  · simp only [List.mem_cons] at h
    rcases h with rfl | h
    · decide
    · exact key b (dec_digits _ b h)
  · exact key b (dec_digits _ b h)

theorem textB_data (n : Int) : (textB n).data.toList = Lib.itoa n := by simp [textB]
theorem num_text (z : Int) (h : -10000000000 ≤ z ∧ z ≤ 10000000000) : numOf (textB z) = some z := by
  unfold numOf
  rw [textB_data, atoi_backL z h.1 h.2]
  simp
theorem text_num {x : ByteArray} {z : Int} (h : numOf x = some z) : x = textB z := by
  unfold numOf at h
  split at h
  · split at h
    · rename_i e
      injection h with h
      subst h
      exact (ba_list e).symm
    · cases h
  · cases h

/-! Rows. -/
theorem row_fold : ∀ (Z : List Int) (word : ByteArray), (rowB word Z).data.toList = word.data.toList ++ ((Z.map textB).map (fun x => 32 :: x.data.toList)).flatten
  | [], word => by simp [rowB]
  | z :: r, word => by
    have ih := row_fold r (word ++ (⟨#[32]⟩ ++ textB z))
    have e : rowB word (z :: r) = rowB (word ++ (⟨#[32]⟩ ++ textB z)) r := rfl
    rw [e, ih]
    simp [ByteArray.data_append]
theorem row_join (word : ByteArray) (Z : List Int) : rowB word Z = joinB 32 (word :: Z.map textB) := by
  apply data_inj
  rw [row_fold, joinB_data, List.map_cons, Lib.join_cons, Lib.joinTail]
  simp [Function.comp_def]
theorem row_spl (word : ByteArray) (Z : List Int) (hw : ∀ b ∈ word.data.toList, b ≠ 32) : spl 32 (rowB word Z) = word :: Z.map textB := by
  rw [row_join]
  exact spl_join 32 _ (by simp) (fun x hx b hb => by
    rcases List.mem_cons.1 hx with rfl | hx
    · exact hw b hb
    · obtain ⟨z, _, rfl⟩ := List.mem_map.1 hx
      rw [textB_data] at hb
      exact (itoa_plain z b hb).1)
theorem rowOf_row (word : ByteArray) (Z : List Int) (hw : ∀ b ∈ word.data.toList, b ≠ 32) (hz : ∀ z ∈ Z, -10000000000 ≤ z ∧ z ≤ 10000000000) : rowOf (rowB word Z) word Z.length = some Z := by
  unfold rowOf
  rw [row_spl word Z hw, if_pos ⟨rfl, by simp⟩]
  show numAll (Z.map textB) = some Z
  unfold numAll
  rw [if_pos]
  · congr 1
    rw [List.map_map]
    conv => rhs; rw [← List.map_id Z]
    apply List.map_congr_left
    intro z hm
    show (numOf (textB z)).getD 0 = z
    rw [num_text z (hz z hm)]; rfl
  · rw [List.all_eq_true]
    intro x hx
    obtain ⟨z, hm, rfl⟩ := List.mem_map.1 hx
    rw [num_text z (hz z hm)]; rfl
theorem rowOf_other (word w2 : ByteArray) (Z : List Int) (n : Nat) (hw : ∀ b ∈ word.data.toList, b ≠ 32) (hne : word ≠ w2) : rowOf (rowB word Z) w2 n = none := by
  unfold rowOf
  rw [row_spl word Z hw, if_neg (fun h => hne h.1)]
theorem row_back {s word : ByteArray} {n : Nat} {Z : List Int} (h : rowOf s word n = some Z) : s = rowB word Z := by
  unfold rowOf at h
  split at h
  · rename_i h1
    have hs := join_spl 32 s
    cases hq : spl 32 s with
    | nil => have := spl_pos 32 s; rw [hq] at this; cases this
    | cons x r =>
      rw [hq] at h1 h hs
      have hx : x = word := h1.1
      subst hx
      change numAll r = some Z at h
      unfold numAll at h
      split at h
      · rename_i ha
        injection h with h
        have hr : r = Z.map textB := by
          rw [← h, List.map_map]
          conv => lhs; rw [← List.map_id r]
          apply List.map_congr_left
          intro y hy
          have hy2 := List.all_eq_true.1 ha y hy
          cases hz : numOf y with
          | none => rw [hz] at hy2; cases hy2
          | some z => show y = textB ((numOf y).getD 0); rw [hz]; exact text_num hz
        rw [row_join, ← hr]; exact hs.symm
      · cases h
  · cases h

/-! Orders. -/
theorem word_text {x : ByteArray} {q : Int × Int} (h : parseW x = some q) : x = opText q := by
  unfold parseW at h
  cases hn : numOf x with
  | some n =>
    rw [hn] at h
    injection h with h
    subst h
    rw [text_num hn]
    simp [opText, textB]
  | none =>
    rw [hn] at h
    cases hk : kindOf x with
    | none => rw [hk] at h; cases h
    | some k =>
      rw [hk] at h
      injection h with h
      subst h
      unfold kindOf at hk
      have h1 := List.find?_some hk
      have h2 := List.mem_of_find?_eq_some hk
      have h3 : k ≠ 1 := fun e => by subst e; revert h2; decide
      have h4 : (nameB k).toList = x.toList := by simpa using h1
      have h5 : opText ((k : Int), 0) = nameB k := by
        unfold opText
        rw [if_neg (by show ¬ (k : Int) = 1; omega)]
        show nameB ((k : Int).toNat) = _
        rw [Int.toNat_natCast]
      rw [h5]; exact (ba_list h4).symm
theorem words_text : ∀ {ws : List ByteArray} {l : List (Int × Int)}, parseAll ws = some l → ws = l.map opText
  | [], l, h => by simp only [parseAll] at h; injection h with h; subst h; rfl
  | x :: r, l, h => by
    simp only [parseAll] at h
    cases hx : parseW x with
    | none => rw [hx] at h; cases h
    | some q =>
      cases hr : parseAll r with
      | none => rw [hx, hr] at h; cases h
      | some m =>
        rw [hx, hr] at h
        injection h with h
        subst h
        rw [List.map_cons, ← word_text hx, ← words_text hr]
theorem ops_back {s : ByteArray} (h : prE s = 0) : opsText (prL s) = s := by
  unfold prE at h
  unfold prL
  split at h
  · cases h
  · rename_i hs
    rw [if_neg hs]
    cases hp : parseAll (wordsOf s) with
    | none => rw [hp] at h; cases h
    | some l =>
      rw [hp] at h
      change chk l = 0 at h
      show opsText (if chk l = 0 then l else []) = s
      rw [if_pos h]
      have hw := words_text hp
      unfold wordsOf at hw
      split at hw
      · rename_i h0
        have e : l = [] := by cases l with | nil => rfl | cons _ _ => cases hw
        subst e
        cases s with
        | mk d =>
          have : d = #[] := Array.eq_empty_of_size_eq_zero h0
          rw [this]; rfl
      · have e : opsText l = joinB 32 (spl 32 s) := by
          show joinB 32 (l.map opText) = _
          rw [← hw]; rfl
        rw [e]; exact join_spl 32 s

/-! Lines. -/
def lineT (word : ByteArray) (Z : List Int) (l : List (Int × Int)) : ByteArray := (rowB word Z ++ ⟨#[58]⟩) ++ opsText l
theorem row_free (word : ByteArray) (Z : List Int) (c : UInt8) (hw : ∀ b ∈ word.data.toList, b ≠ c) (hc : c = 58 ∨ c = 10) : ∀ b ∈ (rowB word Z).data.toList, b ≠ c := by
  intro b hb
  rw [row_fold] at hb
  rcases List.mem_append.1 hb with hb | hb
  · exact hw b hb
  · obtain ⟨y, hy, hb⟩ := List.mem_flatten.1 hb
    obtain ⟨x, hx, rfl⟩ := List.mem_map.1 hy
    obtain ⟨z, _, rfl⟩ := List.mem_map.1 hx
    rcases List.mem_cons.1 hb with rfl | hb
    · rcases hc with rfl | rfl <;> decide
    · rw [textB_data] at hb
      rcases hc with rfl | rfl
      · exact (itoa_plain z b hb).2.1
      · exact (itoa_plain z b hb).2.2
theorem line_cut (word : ByteArray) (Z : List Int) (l : List (Int × Int)) (hw : ∀ b ∈ word.data.toList, b ≠ 58) : cutH (lineT word Z l) = rowB word Z ∧ cutT (lineT word Z l) = opsText l ∧ cutF (lineT word Z l) = true := by
  have e : (lineT word Z l).data.toList = (rowB word Z).data.toList ++ 58 :: (opsText l).data.toList := by simp [lineT, ByteArray.data_append]
  have hc := cut_hit (rowB word Z).data.toList (opsText l).data.toList (row_free word Z 58 hw (Or.inl rfl))
  unfold cutH cutT cutF
  rw [e, hc]
  exact ⟨data_inj (by simp), data_inj (by simp), rfl⟩
theorem lineOf_line (word : ByteArray) (Z : List Int) (l : List (Int × Int)) (hw : ∀ b ∈ word.data.toList, b ≠ 32 ∧ b ≠ 58) (hz : ∀ z ∈ Z, -10000000000 ≤ z ∧ z ≤ 10000000000) (hl : chk l = 0) : lineOf (lineT word Z l) word Z.length = some (Z, l) := by
  obtain ⟨h1, h2, h3⟩ := line_cut word Z l (fun b hb => (hw b hb).2)
  obtain ⟨r1, r2⟩ := read_back l hl
  unfold lineOf
  rw [h3, h1, h2, rowOf_row word Z (fun b hb => (hw b hb).1) hz]
  show (if prE (opsText l) = 0 then some (Z, prL (opsText l)) else none) = _
  rw [if_pos r1, r2]
theorem lineOf_other (word w2 : ByteArray) (Z : List Int) (l : List (Int × Int)) (n : Nat) (hw : ∀ b ∈ word.data.toList, b ≠ 32 ∧ b ≠ 58) (hne : word ≠ w2) : lineOf (lineT word Z l) w2 n = none := by
  obtain ⟨h1, h2, h3⟩ := line_cut word Z l (fun b hb => (hw b hb).2)
  unfold lineOf
  rw [h3, h1, rowOf_other word w2 Z n (fun b hb => (hw b hb).1) hne]
  rfl
theorem line_back {s word : ByteArray} {n : Nat} {Z : List Int} {L : List (Int × Int)} (h : lineOf s word n = some (Z, L)) : s = lineT word Z L := by
  unfold lineOf at h
  split at h
  · rename_i hf
    cases hr : rowOf (cutH s) word n with
    | none => rw [hr] at h; cases h
    | some Y =>
      rw [hr] at h
      change (if prE (cutT s) = 0 then some (Y, prL (cutT s)) else none) = _ at h
      split at h
      · rename_i hp
        injection h with h
        injection h with h1 h2
        subst h1 h2
        have hs := cut_parts s hf
        unfold lineT
        rw [ops_back hp, ← row_back hr]
        exact hs
      · cases h
  · cases h

end Go.Proofs.YtadlakolpphgnaaGreatDoor

/- The text of a transaction and its lines: there and back. Nothing of the program. -/
namespace Go.Proofs.YtadlakolpphgnaaGreatDoor

def inL (x : InD) : ByteArray := lineT inB [x.1, x.2.1] x.2.2
def outL (x : OutD) : ByteArray := lineT outB [x.1] x.2
def endN (s x : ByteArray) : ByteArray := s ++ (x ++ ⟨#[10]⟩)

theorem join_fold : ∀ (ls : List ByteArray) (s : ByteArray), (ls.foldl endN (s ++ ⟨#[10]⟩)).data.toList = s.data.toList ++ (ls.map (fun x => 10 :: x.data.toList)).flatten ++ [10]
  | [], s => by simp [ByteArray.data_append]
  | x :: r, s => by
    have e : (x :: r).foldl endN (s ++ ⟨#[10]⟩) = r.foldl endN (((s ++ ⟨#[10]⟩) ++ x) ++ ⟨#[10]⟩) := by
      show r.foldl endN ((s ++ ⟨#[10]⟩) ++ (x ++ ⟨#[10]⟩)) = _
      congr 1
      exact data_inj (by simp [ByteArray.data_append])
    rw [e, join_fold r]
    simp [ByteArray.data_append]
theorem fold_join (l0 : ByteArray) (ls : List ByteArray) : ls.foldl endN (l0 ++ ⟨#[10]⟩) = joinB 10 (l0 :: ls) ++ ⟨#[10]⟩ := by
  apply data_inj
  rw [join_fold, ByteArray.data_append, Array.toList_append, joinB_data, List.map_cons, Lib.join_cons, Lib.joinTail]
  simp [Function.comp_def]

theorem ins_fold (h : Int) (I : List InD) : insText h I = (I.map inL).foldl endN (headText h) := by
  unfold insText; rw [List.foldl_map]; rfl
theorem outs_fold (t : ByteArray) (O : List OutD) : outsText t O = (O.map outL).foldl endN t := by
  unfold outsText; rw [List.foldl_map]; rfl
theorem txText_lines (h : Int) (I : List InD) (O : List OutD) : txText (h, I, O) = joinB 10 (rowB txB [h] :: (I.map inL ++ O.map outL)) ++ ⟨#[10]⟩ := by
  rw [← fold_join, List.foldl_append]
  show outsText (insText h I) O = _
  rw [outs_fold, ins_fold]; rfl

/-! The last line feed. -/
theorem ext_list (s : ByteArray) (i j : Nat) : (s.extract i j).data.toList = (s.data.toList.drop i).take (j - i) := by
  rw [ByteArray.data_extract, Array.toList_extract]
theorem size_list (s : ByteArray) : s.size = s.data.toList.length := by rw [Array.length_toList]; rfl
theorem ends_data (X : ByteArray) : endsB (X ++ ⟨#[10]⟩) = true ∧ bodyB (X ++ ⟨#[10]⟩) = X := by
  have hsz : (X ++ (⟨#[10]⟩ : ByteArray)).size = X.data.toList.length + 1 := by rw [size_one X 10, size_list]
  have hd : (X ++ (⟨#[10]⟩ : ByteArray)).data.toList = X.data.toList ++ [10] := by rw [ByteArray.data_append, Array.toList_append]
  have e1 : endsB (X ++ ⟨#[10]⟩) = true := by
    unfold endsB lastB
    rw [decide_eq_true (by omega), hsz, ByteArray.toList_eq, ext_list, hd, Nat.add_sub_cancel, List.drop_left]
    have : X.data.toList.length + 1 - X.data.toList.length = 1 := by omega
    rw [this]
    rfl
  refine ⟨e1, ?_⟩
  unfold bodyB
  rw [e1]
  show frontB _ = X
  unfold frontB
  apply data_inj
  rw [ext_list, hsz, hd, Nat.add_sub_cancel, List.drop_zero, Nat.sub_zero, List.take_left]
theorem ends_back (s : ByteArray) (h : endsB s = true) : s = bodyB s ++ ⟨#[10]⟩ := by
  unfold bodyB
  rw [h]
  show s = frontB s ++ ⟨#[10]⟩
  unfold endsB lastB at h
  simp only [Bool.and_eq_true, decide_eq_true_eq] at h
  obtain ⟨h0, h1⟩ := h
  have h2 : (s.extract (s.size - 1) s.size).toList = [10] := by simpa using h1
  rw [ByteArray.toList_eq, ext_list] at h2
  apply data_inj
  unfold frontB
  rw [ByteArray.data_append, Array.toList_append, ext_list, List.drop_zero, Nat.sub_zero]
  show s.data.toList = _ ++ [10]
  have h3 : (s.data.toList.drop (s.size - 1)).take (s.size - (s.size - 1)) = s.data.toList.drop (s.size - 1) := by
    apply List.take_of_length_le
    rw [List.length_drop, ← size_list]; omega
  rw [h3] at h2
  rw [← h2, List.take_append_drop]

/-! Signs in the texts. -/
theorem opText_free (q : Int × Int) (h : chk1 q = 0) : ∀ b ∈ (opText q).data.toList, b ≠ 10 := by
  intro b hb
  unfold opText at hb
  split at hb
  · have hb2 : b ∈ Lib.itoa q.2 := by simpa using hb
    exact (itoa_plain _ b hb2).2.2
  · have hk : 1 ≤ q.1 ∧ q.1 ≤ 13 := by
      obtain ⟨k, n⟩ := q
      simp only [chk1] at h
      split at h
      · cases h
      · simp only; omega
    have all : ∀ j : Fin 14, ∀ b ∈ (nameB j.val).data.toList, b ≠ 10 := by decide +kernel
    exact all ⟨q.1.toNat, by omega⟩ b hb
theorem ops_free (l : List (Int × Int)) (h : chk l = 0) : ∀ b ∈ (opsText l).data.toList, b ≠ 10 := by
  have hL : chkL l = 0 := by
    unfold chk at h
    split at h
    · cases h
    · exact h
  have hall : ∀ o ∈ l, chk1 o = 0 := fun o ho => by
    obtain ⟨i, hi, rfl⟩ := List.getElem_of_mem ho
    exact chkL_all hL i hi
  intro b hb
  have hd : (opsText l).data.toList = Lib.join ((l.map opText).map (·.data.toList)) [32] := by simp [opsText]
  rw [hd] at hb
  cases l with
  | nil => cases hb
  | cons o r =>
    rw [List.map_cons, List.map_cons, Lib.join_cons, Lib.joinTail] at hb
    rcases List.mem_append.1 hb with hb | hb
    · exact opText_free o (hall o (by simp)) b hb
    · obtain ⟨y, hy, hb⟩ := List.mem_flatten.1 hb
      obtain ⟨x, hx, rfl⟩ := List.mem_map.1 hy
      obtain ⟨z, hz, rfl⟩ := List.mem_map.1 hx
      obtain ⟨q, hq, rfl⟩ := List.mem_map.1 hz
      rcases List.mem_append.1 hb with hb | hb
      · have : b = 32 := by simpa using hb
        subst this; decide
      · exact opText_free q (hall q (by simp [hq])) b hb
theorem line_free (word : ByteArray) (Z : List Int) (l : List (Int × Int)) (hw : ∀ b ∈ word.data.toList, b ≠ 10) (hl : chk l = 0) : ∀ b ∈ (lineT word Z l).data.toList, b ≠ 10 := by
  intro b hb
  have e : (lineT word Z l).data.toList = (rowB word Z).data.toList ++ 58 :: (opsText l).data.toList := by simp [lineT, ByteArray.data_append]
  rw [e] at hb
  rcases List.mem_append.1 hb with hb | hb
  · exact row_free word Z 10 hw (Or.inr rfl) b hb
  · rcases List.mem_cons.1 hb with rfl | hb
    · decide
    · exact ops_free l hl b hb

theorem tx_signs : (∀ b ∈ txB.data.toList, b ≠ 32 ∧ b ≠ 58 ∧ b ≠ 10) ∧ (∀ b ∈ inB.data.toList, b ≠ 32 ∧ b ≠ 58 ∧ b ≠ 10) ∧ (∀ b ∈ outB.data.toList, b ≠ 32 ∧ b ≠ 58 ∧ b ≠ 10) := by decide +kernel
theorem out_in : outB ≠ inB := by decide +kernel

/-! Lines that were written are read. -/
theorem fold_ins (h : Int) (R : List ByteArray) : ∀ (I P : List InD), (∀ x ∈ I, ptOk x = true ∧ chk x.2.2 = 0) → foldTx (h, P, []) (I.map inL ++ R) = foldTx (h, P ++ I, []) R
  | [], P, _ => by simp
  | x :: r, P, hI => by
    have hx := hI x (by simp)
    have hp := (ptOk_iff x).1 hx.1
    have hl : lineOf (inL x) inB 2 = some ([x.1, x.2.1], x.2.2) := lineOf_line inB [x.1, x.2.1] x.2.2 (fun b hb => ⟨(tx_signs.2.1 b hb).1, (tx_signs.2.1 b hb).2.1⟩) (fun z hz => by simp at hz; omega) hx.2
    have hs : stepLn (h, P, []) (inL x) = some (h, P ++ [x], []) := by
      unfold stepLn
      rw [hl]
      rfl
    rw [List.map_cons, List.cons_append, foldTx, hs]
    show foldTx (h, P ++ [x], []) (r.map inL ++ R) = _
    rw [fold_ins h R r (P ++ [x]) (fun y hy => hI y (by simp [hy]))]
    simp
theorem fold_outs (h : Int) (P : List InD) : ∀ (O Q : List OutD), (∀ x ∈ O, (1 ≤ x.1 ∧ x.1 ≤ 1000000000) ∧ chk x.2 = 0) → foldTx (h, P, Q) (O.map outL) = some (h, P, Q ++ O)
  | [], Q, _ => by simp [foldTx]
  | x :: r, Q, hO => by
    have hx := hO x (by simp)
    have hl : lineOf (outL x) outB 1 = some ([x.1], x.2) := lineOf_line outB [x.1] x.2 (fun b hb => ⟨(tx_signs.2.2 b hb).1, (tx_signs.2.2 b hb).2.1⟩) (fun z hz => by simp at hz; omega) hx.2
    have hn : lineOf (outL x) inB 2 = none := lineOf_other outB inB [x.1] x.2 2 (fun b hb => ⟨(tx_signs.2.2 b hb).1, (tx_signs.2.2 b hb).2.1⟩) out_in
    have hs : stepLn (h, P, Q) (outL x) = some (h, P, Q ++ [x]) := by
      unfold stepLn
      rw [hn]
      show outStep (h, P, Q) (outL x) = _
      unfold outStep
      rw [hl]
      rfl
    rw [List.map_cons, foldTx, hs]
    show foldTx (h, P, Q ++ [x]) (r.map outL) = _
    rw [fold_outs h P r (Q ++ [x]) (fun y hy => hO y (by simp [hy]))]
    simp

/-- What is printed of a right transaction is read. -/
theorem tx_back (t : TxD) (hx : chkTx t = 0) : linesTx (txText t) = some t := by
  obtain ⟨h, I, O⟩ := t
  have ok := TxOk.of hx
  have e := txText_lines h I O
  obtain ⟨X, hX⟩ : ∃ X, joinB 10 (rowB txB [h] :: (I.map inL ++ O.map outL)) = X := ⟨_, rfl⟩
  rw [hX] at e
  obtain ⟨e1, e2⟩ := ends_data X
  have e3 : linesOf (X ++ ⟨#[10]⟩) = rowB txB [h] :: (I.map inL ++ O.map outL) := by
    unfold linesOf
    rw [e2, ← hX]
    refine spl_join 10 _ (by simp) (fun x hx b hb => ?_)
    rcases List.mem_cons.1 hx with rfl | hx
    · exact row_free txB [h] 10 (fun b hb => (tx_signs.1 b hb).2.2) (Or.inr rfl) b hb
    · rcases List.mem_append.1 hx with hx | hx
      · obtain ⟨y, hy, rfl⟩ := List.mem_map.1 hx
        exact line_free inB _ _ (fun b hb => (tx_signs.2.1 b hb).2.2) (ok.ins y hy).2 b hb
      · obtain ⟨y, hy, rfl⟩ := List.mem_map.1 hx
        exact line_free outB _ _ (fun b hb => (tx_signs.2.2 b hb).2.2) (ok.outs y hy).2 b hb
  have hg := ok.hgt
  have e4 : rowOf (rowB txB [h]) txB 1 = some [h] := rowOf_row txB [h] (fun b hb => (tx_signs.1 b hb).1) (fun z hz => by simp at hz; simp only at hg; omega)
  rw [e]
  unfold linesTx
  rw [e1, e3]
  show (match rowOf (rowB txB [h]) txB 1 with | some Z => foldTx (Z.getD 0 0, [], []) (I.map inL ++ O.map outL) | none => none) = _
  rw [e4]
  show foldTx (h, [], []) (I.map inL ++ O.map outL) = _
  rw [fold_ins h _ I [] ok.ins, fold_outs h _ O [] ok.outs]
  simp

/-- Unlike right transactions have unlike texts. -/
theorem tx_unlike (t u : TxD) (ht : chkTx t = 0) (hu : chkTx u = 0) (e : txText t = txText u) : t = u := by
  have h1 := tx_back t ht
  rw [e, tx_back u hu] at h1
  injection h1 with h1
  exact h1.symm

/-! Lines that are read were written. -/
theorem fold_text : ∀ (ls : List ByteArray) (t u : TxD), foldTx t ls = some u → txText u = ls.foldl endN (txText t)
  | [], t, u, h => by simp only [foldTx] at h; injection h with h; subst h; rfl
  | x :: r, t, u, h => by
    obtain ⟨hh, I, O⟩ := t
    simp only [foldTx] at h
    have out : ∀ v, outStep (hh, I, O) x = some v → txText v = endN (txText (hh, I, O)) x := fun v hv => by
      unfold outStep at hv
      cases hl : lineOf x outB 1 with
      | none => rw [hl] at hv; cases hv
      | some ZL =>
        obtain ⟨Z, L⟩ := ZL
        rw [hl] at hv
        injection hv with hv
        subst hv
        obtain ⟨z, rfl⟩ := List.length_eq_one_iff.1 (lineOf_len hl)
        have hx := line_back hl
        show outsText (insText hh I) (O ++ [(z, L)]) = _
        rw [outsText_snoc]
        show outsText (insText hh I) O ++ outText (z, L) = endN (outsText (insText hh I) O) x
        rw [hx]; rfl
    have step : ∀ v, stepLn (hh, I, O) x = some v → txText v = endN (txText (hh, I, O)) x := fun v hv => by
      unfold stepLn at hv
      cases hl : lineOf x inB 2 with
      | none => rw [hl] at hv; exact out v hv
      | some ZL =>
        obtain ⟨Z, L⟩ := ZL
        rw [hl] at hv
        change (if O.length = 0 then some (hh, I ++ [(Z.getD 0 0, Z.getD 1 0, L)], O) else outStep (hh, I, O) x) = some v at hv
        split at hv
        · rename_i h0
          have e0 : O = [] := List.length_eq_zero_iff.1 h0
          subst e0
          injection hv with hv
          subst hv
          have hz := lineOf_len hl
          obtain ⟨z1, z2, rfl⟩ : ∃ z1 z2, Z = [z1, z2] := by
            match Z, hz with
            | [a, b], _ => exact ⟨a, b, rfl⟩
          have hx := line_back hl
          show insText hh (I ++ [(z1, z2, L)]) = _
          rw [insText_snoc]
          show insText hh I ++ inText (z1, z2, L) = endN (insText hh I) x
          rw [hx]; rfl
        · exact out v hv
    cases hs : stepLn (hh, I, O) x with
    | none => rw [hs] at h; cases h
    | some v =>
      rw [hs] at h
      change foldTx v r = some u at h
      rw [fold_text r v u h, step v hs]
      rfl

/-- What is read as a transaction is its text. -/
theorem tx_text (s : ByteArray) (t : TxD) (h : linesTx s = some t) : txText t = s := by
  unfold linesTx at h
  split at h
  · rename_i he
    cases hr : rowOf ((linesOf s).getD 0 ⟨#[]⟩) txB 1 with
    | none => rw [hr] at h; cases h
    | some Z =>
      rw [hr] at h
      obtain ⟨z, rfl⟩ := List.length_eq_one_iff.1 (rowOf_len hr)
      change foldTx (z, [], []) ((linesOf s).drop 1) = some t at h
      have hs := ends_back s he
      have hj : joinB 10 (linesOf s) = bodyB s := join_spl 10 (bodyB s)
      cases hq : linesOf s with
      | nil => have := spl_pos 10 (bodyB s); change 0 < (linesOf s).length at this; rw [hq] at this; cases this
      | cons l0 ls =>
        rw [hq] at h hr hj
        have h0 : l0 = rowB txB [z] := row_back hr
        have hf := fold_text ls (z, [], []) t h
        rw [hf]
        show ls.foldl endN (headText z) = s
        have e : headText z = l0 ++ ⟨#[10]⟩ := by rw [h0]; rfl
        rw [e, fold_join, hj]
        exact hs.symm
  · cases h

end Go.Proofs.YtadlakolpphgnaaGreatDoor

/- The reference's way to read a transaction's lines is the program's: mathematics alone. -/
namespace Go.Proofs.YtadlakolpphgnaaGreatDoor

theorem pieces_ex (c : UInt8) : ∀ (n : Nat) (s : List UInt8), s.length ≤ n → ∃ xs : List (List UInt8), xs ≠ [] ∧ (∀ x ∈ xs, ∀ b ∈ x, b ≠ c) ∧ s = Lib.join xs [c]
  | 0, s, h => by
    have : s = [] := List.length_eq_zero_iff.1 (by omega)
    subst this
    exact ⟨[[]], by simp, (fun x hx b hb => by simp at hx; subst hx; cases hb), by rw [Lib.join_one]⟩
  | n + 1, s, h => by
    rcases parts_at c s with h1 | ⟨x, r, rfl, h1⟩
    · exact ⟨[s], by simp, (fun x hx b hb => by simp at hx; subst hx; exact h1 b hb), by rw [Lib.join_one]⟩
    · obtain ⟨ys, y1, y2, y3⟩ := pieces_ex c n r (by simp at h; omega)
      refine ⟨x :: ys, by simp, fun z hz b hb => ?_, ?_⟩
      · rcases List.mem_cons.1 hz with rfl | hz
        · exact h1 b hb
        · exact y2 z hz b hb
      · obtain ⟨y, ys', rfl⟩ : ∃ y ys', ys = y :: ys' := by
          cases ys with
          | nil => exact absurd rfl y1
          | cons y ys' => exact ⟨y, ys', rfl⟩
        rw [y3]
        simp [Lib.join]
theorem spl_free (c : UInt8) (s x : ByteArray) (hx : x ∈ spl c s) : ∀ b ∈ x.data.toList, b ≠ c := by
  obtain ⟨xs, h1, h2, h3⟩ := pieces_ex c _ s.data.toList (Nat.le_refl _)
  have e : s = joinB c (xs.map fun l => ⟨l.toArray⟩) := by
    apply data_inj
    rw [joinB_data, h3]
    congr 1
    rw [List.map_map]
    have : ((fun x : ByteArray => x.data.toList) ∘ fun l : List UInt8 => (⟨l.toArray⟩ : ByteArray)) = id := by funext l; simp
    rw [this, List.map_id]
  have e2 : spl c s = xs.map fun l => ⟨l.toArray⟩ := by
    conv => lhs; rw [e]
    exact spl_join c _ (by simpa using h1) (fun y hy b hb => by
      obtain ⟨l, hl, rfl⟩ := List.mem_map.1 hy
      exact h2 l hl b (by simpa using hb))
  rw [e2] at hx
  obtain ⟨l, hl, rfl⟩ := List.mem_map.1 hx
  intro b hb
  exact h2 l hl b (by simpa using hb)

theorem joinB_end (c : UInt8) (xs : List ByteArray) (h : xs ≠ []) : joinB c (xs ++ [⟨#[]⟩]) = joinB c xs ++ ⟨#[c]⟩ := by
  apply data_inj
  rw [joinB_data, List.map_append, List.map_cons, List.map_nil, join_snoc _ _ _ (by simpa using h)]
  simp [ByteArray.data_append, joinB_data]

/-- A text that is ended by a line feed: its pieces are those of what stands ahead, and nothing. -/
theorem spl_ends (s : ByteArray) (h : endsB s = true) : spl 10 s = linesOf s ++ [⟨#[]⟩] := by
  have e := ends_back s h
  have hne : linesOf s ≠ [] := fun e2 => by have := spl_pos 10 (bodyB s); unfold linesOf at e2; rw [e2] at this; simp at this
  have e3 : s = joinB 10 (linesOf s ++ [⟨#[]⟩]) := by
    rw [joinB_end 10 _ hne]
    unfold linesOf
    rw [join_spl]
    exact e
  conv => lhs; rw [e3]
  refine spl_join 10 _ (by simp) (fun x hx b hb => ?_)
  rcases List.mem_append.1 hx with hx | hx
  · exact spl_free 10 _ x hx b hb
  · simp at hx; subst hx; cases hb
theorem spl_not (s : ByteArray) (h : endsB s = false) (h2 : 2 ≤ (spl 10 s).length) : (spl 10 s).getD ((spl 10 s).length - 1) ⟨#[]⟩ ≠ ⟨#[]⟩ := by
  intro e
  obtain ⟨ys, y, hy⟩ : ∃ ys y, spl 10 s = ys ++ [y] := by
    rcases List.eq_nil_or_concat (spl 10 s) with h1 | ⟨ys, y, h1⟩
    · rw [h1] at h2; simp at h2
    · exact ⟨ys, y, by rw [h1]; simp⟩
  rw [hy] at e h2
  simp at e
  subst e
  have hne : ys ≠ [] := fun e2 => by subst e2; simp at h2
  have e3 := join_spl 10 s
  rw [hy, joinB_end 10 ys hne] at e3
  have := (ends_data (joinB 10 ys)).1
  rw [e3, h] at this
  cases this

/-- Does a text open with 'tx '? -/
def hasTx (x : ByteArray) : Bool := decide (3 ≤ x.size) && ((x.extract 0 3).toList == [116, 120, 32])
def tailB (x : ByteArray) (k : Nat) : ByteArray := x.extract k x.size
def headB (x : ByteArray) (k : Nat) : ByteArray := x.extract 0 k

theorem tail_data (x : ByteArray) (k : Nat) : (tailB x k).data.toList = x.data.toList.drop k := by
  unfold tailB; rw [ext_list, size_list]
  rw [List.take_of_length_le (by rw [List.length_drop]; omega)]
theorem head_data (x : ByteArray) (k : Nat) : (headB x k).data.toList = x.data.toList.take k := by
  unfold headB; rw [ext_list]; simp
theorem hasTx_iff (x : ByteArray) : hasTx x = true ↔ ∃ r : List UInt8, x.data.toList = [116, 120, 32] ++ r := by
  unfold hasTx
  rw [Bool.and_eq_true, decide_eq_true_iff, beq_iff_eq, ByteArray.toList_eq]
  have e := head_data x 3
  unfold headB at e
  rw [e]
  constructor
  · rintro ⟨_, h⟩
    exact ⟨x.data.toList.drop 3, by rw [← h, List.take_append_drop]⟩
  · rintro ⟨r, h⟩
    rw [size_list, h]
    simp

theorem numOf_free {x : ByteArray} {z : Int} (h : numOf x = some z) : ∀ b ∈ x.data.toList, b ≠ 32 := by
  have e := text_num h
  intro b hb
  rw [e, textB_data] at hb
  exact (itoa_plain z b hb).1

theorem numAll_one (p : ByteArray) : numAll [p] = (numOf p).map fun n => [n] := by
  unfold numAll
  cases h : numOf p <;> simp [h]

/-- The first line, as the reference reads it. -/
theorem head_eq (x : ByteArray) : rowOf x txB 1 = if hasTx x = true then (numOf (tailB x 3)).map (fun n => [n]) else none := by
  by_cases hc : (spl 32 x).getD 0 ⟨#[]⟩ = txB ∧ (spl 32 x).length = 2
  · obtain ⟨p, hp⟩ : ∃ p, spl 32 x = [txB, p] := by
      obtain ⟨h1, h2⟩ := hc
      match hs : spl 32 x, h2 with
      | [a, b], _ => rw [hs] at h1; exact ⟨b, by simp at h1; rw [h1]⟩
    have ej := join_spl 32 x
    rw [hp] at ej
    have ed : x.data.toList = [116, 120, 32] ++ p.data.toList := by
      rw [← ej, joinB_data]
      simp [Lib.join, txB]
    have ht : hasTx x = true := (hasTx_iff x).2 ⟨_, ed⟩
    have etl : tailB x 3 = p := by
      apply data_inj
      rw [tail_data, ed]; rfl
    rw [if_pos ht, etl]
    unfold rowOf
    rw [if_pos hc, hp]
    exact numAll_one p
  · have e : rowOf x txB 1 = none := by unfold rowOf; rw [if_neg hc]
    rw [e]
    by_cases ht : hasTx x = true
    · rw [if_pos ht]
      obtain ⟨r, hr⟩ := (hasTx_iff x).1 ht
      cases hn : numOf (tailB x 3) with
      | none => rfl
      | some z =>
        exfalso
        apply hc
        have hf := numOf_free hn
        have etl : (tailB x 3).data.toList = r := by rw [tail_data, hr]; rfl
        have ex : x = joinB 32 [txB, tailB x 3] := by
          apply data_inj
          rw [joinB_data, hr]
          simp [Lib.join, txB, etl]
        have es : spl 32 x = [txB, tailB x 3] := by
          conv => lhs; rw [ex]
          refine spl_join 32 _ (by simp) (fun y hy b hb => ?_)
          simp at hy
          rcases hy with rfl | rfl
          · exact (tx_signs.1 b hb).1
          · exact hf b hb
        rw [es]
        exact ⟨rfl, rfl⟩
    · rw [if_neg ht]

/-- The first colon. -/
def colon (x : ByteArray) : Int := Lib.indexByte x.data.toList 58
theorem colon_none {x : ByteArray} (h : cutF x = false) : colon x < 0 := by
  rcases parts_at 58 x.data.toList with h1 | ⟨y, r, e, h1⟩
  · unfold colon; rw [idx_miss 58 _ h1]; decide
  · have hc := cut_hit y r h1
    unfold cutF at h
    rw [e, hc] at h
    cases h
theorem colon_some {x : ByteArray} (h : cutF x = true) : ∃ k : Nat, colon x = k ∧ k < x.size ∧ headB x k = cutH x ∧ tailB x (k + 1) = cutT x := by
  rcases parts_at 58 x.data.toList with h1 | ⟨y, r, e, h1⟩
  · have hi : Lib.index x.data.toList [58] = -1 := by rw [Lib.index_one]; exact idx_miss 58 _ h1
    unfold cutF Lib.cut at h
    rw [hi, if_neg (by omega)] at h
    cases h
  · have hc := cut_hit y r h1
    refine ⟨y.length, ?_, ?_, ?_, ?_⟩
    · unfold colon; rw [e]; exact idx_hit 58 y r h1
    · rw [size_list, e]; simp
    · apply data_inj
      rw [head_data, e]
      unfold cutH
      rw [e, hc]; simp
    · apply data_inj
      rw [tail_data, e]
      unfold cutT
      rw [e, hc]
      simp

/-- A line, as the reference reads it. -/
def refStep (t : TxD) (x : ByteArray) : Option TxD :=
  if cutF x = false then none else if prE (cutT x) ≠ 0 then none
  else if (spl 32 (cutH x)).getD 0 ⟨#[]⟩ = inB ∧ (spl 32 (cutH x)).length = 3 then
    (match numOf ((spl 32 (cutH x)).getD 1 ⟨#[]⟩), numOf ((spl 32 (cutH x)).getD 2 ⟨#[]⟩) with
     | some a, some b => if t.2.2.length = 0 then some (t.1, t.2.1 ++ [(a, b, prL (cutT x))], t.2.2) else none
     | _, _ => none)
  else if (spl 32 (cutH x)).getD 0 ⟨#[]⟩ = outB ∧ (spl 32 (cutH x)).length = 2 then
    (match numOf ((spl 32 (cutH x)).getD 1 ⟨#[]⟩) with
     | some a => some (t.1, t.2.1, t.2.2 ++ [(a, prL (cutT x))])
     | none => none)
  else none

theorem step_eq (t : TxD) (x : ByteArray) : stepLn t x = refStep t x := by
  unfold refStep
  by_cases h1 : cutF x = false
  · rw [if_pos h1]
    have e1 : ∀ w n, lineOf x w n = none := fun w n => by unfold lineOf; rw [h1]; rfl
    unfold stepLn outStep
    rw [e1, e1]
  · have h1' : cutF x = true := by simpa using h1
    rw [if_neg h1]
    by_cases h2 : prE (cutT x) ≠ 0
    · rw [if_pos h2]
      have e1 : ∀ w n, lineOf x w n = none := fun w n => by
        unfold lineOf
        rw [if_pos h1']
        cases rowOf (cutH x) w n with
        | none => rfl
        | some Z => exact if_neg h2
      unfold stepLn outStep
      rw [e1, e1]
    · rw [if_neg h2]
      have h2' : prE (cutT x) = 0 := by simpa using h2
      have el : ∀ w n, lineOf x w n = (rowOf (cutH x) w n).map fun Z => (Z, prL (cutT x)) := fun w n => by
        unfold lineOf
        rw [if_pos h1']
        cases rowOf (cutH x) w n with
        | none => rfl
        | some Z => exact if_pos h2'
      obtain ⟨ws, hws⟩ : ∃ ws, spl 32 (cutH x) = ws := ⟨_, rfl⟩
      have er : ∀ w n, rowOf (cutH x) w n = if ws.getD 0 ⟨#[]⟩ = w ∧ ws.length = n + 1 then numAll (ws.drop 1) else none := fun w n => by unfold rowOf; rw [hws]
      rw [hws]
      by_cases h3 : ws.getD 0 ⟨#[]⟩ = inB ∧ ws.length = 3
      · rw [if_pos h3]
        have eo : lineOf x outB 1 = none := by
          rw [el, er, if_neg (fun h => out_in (h.1.symm.trans h3.1))]; rfl
        have eo2 : outStep t x = none := by unfold outStep; rw [eo]
        obtain ⟨a, b, c, rfl⟩ : ∃ a b c, ws = [a, b, c] := by
          match ws, h3.2 with
          | [a, b, c], _ => exact ⟨a, b, c, rfl⟩
        have ei : lineOf x inB 2 = (numAll [b, c]).map fun Z => (Z, prL (cutT x)) := by rw [el, er, if_pos h3]; rfl
        unfold stepLn
        rw [ei, eo2]
        show _ = (match numOf b, numOf c with | some a, some b => _ | _, _ => none)
        unfold numAll
        cases hb : numOf b with
        | none => simp [hb]
        | some z1 =>
          cases hcc : numOf c with
          | none => simp [hb, hcc]
          | some z2 => simp [hb, hcc]
      · rw [if_neg h3]
        have ei : lineOf x inB 2 = none := by rw [el, er, if_neg h3]; rfl
        unfold stepLn
        rw [ei]
        show outStep t x = _
        by_cases h4 : ws.getD 0 ⟨#[]⟩ = outB ∧ ws.length = 2
        · rw [if_pos h4]
          obtain ⟨a, b, rfl⟩ : ∃ a b, ws = [a, b] := by
            match ws, h4.2 with
            | [a, b], _ => exact ⟨a, b, rfl⟩
          have eo : lineOf x outB 1 = (numAll [b]).map fun Z => (Z, prL (cutT x)) := by rw [el, er, if_pos h4]; rfl
          unfold outStep
          rw [eo, numAll_one]
          show _ = (match numOf b with | some a => _ | none => none)
          cases numOf b <;> rfl
        · rw [if_neg h4]
          have eo : lineOf x outB 1 = none := by rw [el, er, if_neg h4]; rfl
          unfold outStep
          rw [eo]

end Go.Proofs.YtadlakolpphgnaaGreatDoor
