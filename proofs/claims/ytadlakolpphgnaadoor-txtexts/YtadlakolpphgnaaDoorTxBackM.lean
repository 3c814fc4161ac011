/- Pieces of texts: what is joined is split, what is split is joined. Nothing of the program. -/
import Derived.Test.YtadlakolpphgnaaDoorTxState
import Derived.Test.YtadlakolpphgnaaDoorLockBack
namespace Go.Proofs.YtadlakolpphgnaaDoor

theorem idx_miss (c : UInt8) : ∀ (x : List UInt8), (∀ b ∈ x, b ≠ c) → Lib.indexByte x c = -1
  | [], _ => rfl
  | b :: r, h => by
    unfold Lib.indexByte
    have hb : (b == c) = false := by simpa using h b (by simp)
    rw [hb, idx_miss c r (fun d hd => h d (by simp [hd]))]
    rfl
theorem idx_hit (c : UInt8) : ∀ (x r : List UInt8), (∀ b ∈ x, b ≠ c) → Lib.indexByte (x ++ c :: r) c = x.length
  | [], r, _ => by unfold Lib.indexByte; simp
  | b :: x, r, h => by
    have ih := idx_hit c x r (fun d hd => h d (by simp [hd]))
    rw [List.cons_append]
    unfold Lib.indexByte
    have hb : (b == c) = false := by simpa using h b (by simp)
    rw [hb, ih]
    have hne : ((x.length : Int) == -1) = false := by rw [beq_eq_false_iff_ne]; omega
    rw [hne]
    simp
theorem parts_at (c : UInt8) : ∀ (s : List UInt8), (∀ b ∈ s, b ≠ c) ∨ ∃ x r, s = x ++ c :: r ∧ ∀ b ∈ x, b ≠ c
  | [] => Or.inl (fun b hb => by cases hb)
  | b :: s => by
    by_cases h : b = c
    · subst h; exact Or.inr ⟨[], s, rfl, fun d hd => by cases hd⟩
    · rcases parts_at c s with h1 | ⟨x, r, rfl, h1⟩
      · exact Or.inl (fun d hd => by rcases List.mem_cons.1 hd with rfl | hd; exact h; exact h1 d hd)
      · exact Or.inr ⟨b :: x, r, rfl, fun d hd => by rcases List.mem_cons.1 hd with rfl | hd; exact h; exact h1 d hd⟩

theorem split_joinC (c : UInt8) : ∀ (xs : List (List UInt8)), xs ≠ [] → (∀ x ∈ xs, ∀ b ∈ x, b ≠ c) → Lib.splitK [c] 0 (Lib.count (Lib.join xs [c]) [c]) (Lib.join xs [c]) = xs
  | [], h, _ => absurd rfl h
  | [x], _, h => by
    rw [Lib.join_one]
    have hi : Lib.index x [c] = -1 := by rw [Lib.index_one]; exact idx_miss c x (h x (by simp))
    rw [Lib.count_miss hi]
    rfl
  | x :: y :: r, _, h => by
    have ej : Lib.join (x :: y :: r) [c] = x ++ c :: Lib.join (y :: r) [c] := by simp [Lib.join, List.intercalate]
    have hi : Lib.index (Lib.join (x :: y :: r) [c]) [c] = (x.length : Int) := by rw [ej, Lib.index_one]; exact idx_hit c x _ (h x (by simp))
    have hc := Lib.count_hit (s := Lib.join (x :: y :: r) [c]) (sub := [c]) (by simp) hi
    have hd : (Lib.join (x :: y :: r) [c]).drop (x.length + ([c] : List UInt8).length) = Lib.join (y :: r) [c] := by
      rw [ej, List.length_singleton, ← List.drop_drop, List.drop_left]; rfl
    have ht : (Lib.join (x :: y :: r) [c]).take (x.length + 0) = x := by rw [ej, Nat.add_zero, List.take_left]
    rw [hd] at hc
    rw [hc, Nat.add_comm, Lib.splitK]
    have hne : (Lib.index (Lib.join (x :: y :: r) [c]) [c] == -1) = false := by rw [hi, beq_eq_false_iff_ne]; omega
    rw [hne]
    simp only [Bool.false_eq_true, if_false, hi, Int.toNat_natCast]
    rw [ht, hd, split_joinC c (y :: r) (by simp) (fun z hz => h z (by simp [hz]))]

theorem splitK_ne (c : UInt8) : ∀ (k : Nat) (s : List UInt8), Lib.splitK [c] 0 k s ≠ []
  | 0, s => by simp [Lib.splitK]
  | k + 1, s => by unfold Lib.splitK; split <;> simp
theorem join_split (c : UInt8) : ∀ (k : Nat) (s : List UInt8), Lib.join (Lib.splitK [c] 0 k s) [c] = s
  | 0, s => by simp [Lib.splitK, Lib.join_one]
  | k + 1, s => by
    unfold Lib.splitK
    split
    · rw [Lib.join_one]
    · rename_i h
      rcases parts_at c s with h1 | ⟨x, r, rfl, h1⟩
      · exact absurd (by rw [Lib.index_one, idx_miss c s h1]; rfl) h
      · have hi : Lib.index (x ++ c :: r) [c] = (x.length : Int) := by rw [Lib.index_one]; exact idx_hit c x r h1
        rw [hi, Int.toNat_natCast, Nat.add_zero, List.take_left]
        have hd : (x ++ c :: r).drop (x.length + ([c] : List UInt8).length) = r := by
          rw [List.length_singleton, ← List.drop_drop, List.drop_left]; rfl
        rw [hd]
        have hs := join_split c k r
        cases hq : Lib.splitK [c] 0 k r with
        | nil => exact absurd hq (splitK_ne c k r)
        | cons y t =>
          rw [hq] at hs
          have ej : Lib.join (x :: y :: t) [c] = x ++ c :: Lib.join (y :: t) [c] := by simp [Lib.join, List.intercalate]
          rw [ej, hs]

/-- Pieces joined by a sign. -/
def joinB (c : UInt8) (xs : List ByteArray) : ByteArray := ⟨(Lib.join (xs.map (·.data.toList)) [c]).toArray⟩
theorem joinB_data (c : UInt8) (xs : List ByteArray) : (joinB c xs).data.toList = Lib.join (xs.map (·.data.toList)) [c] := by simp [joinB]
theorem spl_data (c : UInt8) (s : ByteArray) : (spl c s).map (·.data.toList) = Lib.splitK [c] 0 (Lib.count s.data.toList [c]) s.data.toList := by
  unfold spl; rw [Lib.splitB_data]
theorem spl_join (c : UInt8) (xs : List ByteArray) (h : xs ≠ []) (hc : ∀ x ∈ xs, ∀ b ∈ x.data.toList, b ≠ c) : spl c (joinB c xs) = xs := by
  apply map_inj
  rw [spl_data, joinB_data]
  exact split_joinC c _ (by simpa using h) (fun x hx b hb => by
    obtain ⟨y, hy, rfl⟩ := List.mem_map.1 hx
    exact hc y hy b hb)
theorem join_spl (c : UInt8) (s : ByteArray) : joinB c (spl c s) = s := by
  apply data_inj
  rw [joinB_data, spl_data, join_split]

/-! The colon. -/
theorem cut_hit (x r : List UInt8) (h : ∀ b ∈ x, b ≠ 58) : Lib.cut (x ++ 58 :: r) [58] = (x, r, true) := by
  have hi : Lib.index (x ++ 58 :: r) [58] = (x.length : Int) := by rw [Lib.index_one]; exact idx_hit 58 x r h
  unfold Lib.cut
  rw [hi, if_pos (by omega), Int.toNat_natCast, List.take_left]
  have hd : (x ++ 58 :: r).drop (x.length + ([58] : List UInt8).length) = r := by
    rw [List.length_singleton, ← List.drop_drop, List.drop_left]; rfl
  rw [hd]
theorem cut_parts (s : ByteArray) (h : cutF s = true) : s = (cutH s ++ ⟨#[58]⟩) ++ cutT s := by
  rcases parts_at 58 s.data.toList with h1 | ⟨x, r, e, h1⟩
  · have hi : Lib.index s.data.toList [58] = -1 := by rw [Lib.index_one]; exact idx_miss 58 _ h1
    unfold cutF Lib.cut at h
    rw [hi, if_neg (by omega)] at h
    cases h
  · have hc := cut_hit x r h1
    apply data_inj
    unfold cutH cutT
    rw [e, hc]
    simp [ByteArray.data_append]

end Go.Proofs.YtadlakolpphgnaaDoor
