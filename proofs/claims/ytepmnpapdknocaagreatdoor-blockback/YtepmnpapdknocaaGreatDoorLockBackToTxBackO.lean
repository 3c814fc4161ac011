/- What is printed is read: the orders of the text of right orders are the orders. -/
import Derived.Test.YtepmnpapdknocaaGreatDoorLockRead
import Derived.Lib.IndexBytes
import Derived.Test.YtepmnpapdknocaaGreatDoorTxLineToTxState
namespace Go.Proofs.YtepmnpapdknocaaGreatDoor
open Go.RowKit

theorem dig_val (d : Nat) (h : d < 10) : (UInt8.ofNat (48 + d)).toNat = 48 + d := by
  have : ∀ m : Fin 10, (UInt8.ofNat (48 + m.val)).toNat = 48 + m.val := by decide
  exact this ⟨d, h⟩

theorem uint_snoc : ∀ (l : List UInt8) (acc m : Nat) (c : UInt8), Lib.parseUint10 acc l = .ok m → 48 ≤ c.toNat → c.toNat ≤ 57 → m * 10 + (c.toNat - 48) < 18446744073709551616 → m < 1844674407370955162 →
    Lib.parseUint10 acc (l ++ [c]) = .ok (m * 10 + (c.toNat - 48))
  | [], acc, m, c, h, h1, h2, h3, h4 => by
    simp only [Lib.parseUint10] at h
    injection h with h
    subst h
    simp only [List.nil_append, Lib.parseUint10]
    rw [if_pos ⟨h1, h2⟩, if_neg (by omega), if_neg (by omega)]
  | x :: r, acc, m, c, h, h1, h2, h3, h4 => by
    simp only [List.cons_append, Lib.parseUint10] at h ⊢
    split at h
    · rename_i hx
      rw [if_pos hx]
      split at h
      · cases h
      · rename_i g1
        rw [if_neg g1]
        split at h
        · cases h
        · rename_i g2
          rw [if_neg g2]
          exact uint_snoc r _ m c h h1 h2 h3 h4
    · cases h

theorem dec_back : ∀ (u : Nat), u < 10000000 → Lib.parseUint10 0 (Lib.decDigits u) = .ok u := by
  intro u
  induction u using Nat.strongRecOn with
  | ind u ih =>
    intro hu
    rw [Lib.decDigits]
    split
    · rename_i h
      have e := dig_val u h
      simp only [Lib.parseUint10, e]
      rw [if_pos (by omega), if_neg (by omega), if_neg (by omega)]
      congr 1
      omega
    · rename_i h
      have e := dig_val (u % 10) (by omega)
      have := uint_snoc (Lib.decDigits (u / 10)) 0 (u / 10) (UInt8.ofNat (48 + u % 10)) (ih (u / 10) (by omega) (by omega)) (by omega) (by omega) (by omega) (by omega)
      rw [this, e]
      congr 1
      omega

theorem dec_digits : ∀ (u : Nat) (b : UInt8), b ∈ Lib.decDigits u → 48 ≤ b.toNat ∧ b.toNat ≤ 57 := by
  intro u
  induction u using Nat.strongRecOn with
  | ind u ih =>
    intro b hb
    rw [Lib.decDigits] at hb
    split at hb
    · rename_i h
      simp only [List.mem_singleton] at hb
      rw [hb, dig_val u h]; omega
    · rename_i h
      simp only [List.mem_append, List.mem_singleton] at hb
      rcases hb with hb | hb
      · exact ih (u / 10) (by omega) b hb
      · rw [hb, dig_val (u % 10) (by omega)]; omega

theorem dec_ne (u : Nat) : Lib.decDigits u ≠ [] := by
  intro e
  have := Lib.decDigits_length u
  rw [e] at this
  have := Lib.nDigits_pos u
  simp at *
  omega

theorem atoi_back (n : Int) (h0 : -1000000 ≤ n) (h1 : n ≤ 1000000) : Lib.atoiAll (Lib.itoa n) = .ok n := by
  unfold Lib.itoa
  split
  · rename_i hn
    have e := dec_back n.natAbs (by omega)
    unfold Lib.atoiAll
    have h45 : (45 : UInt8).toNat = 45 := rfl
    simp only [h45, or_true, if_true, Lib.parseMag, dec_ne, if_false, e]
    rw [if_neg (by omega), if_neg (by omega)]
    congr 1
    first | omega | (simp; omega)
  · rename_i hn
    have e := dec_back n.toNat (by omega)
    have hd := dec_digits n.toNat
    have hne := dec_ne n.toNat
    generalize Lib.decDigits n.toNat = l at *
    cases l with
    | nil => exact absurd rfl hne
    | cons c r =>
      have hc := hd c (by simp)
      have g1 : ¬ (c.toNat = 43 ∨ c.toNat = 45) := by omega
      have g2 : ¬ c.toNat = 45 := by omega
      have hm : Lib.parseMag (c :: r) = .ok n.toNat := by unfold Lib.parseMag; rw [if_neg hne]; exact e
      unfold Lib.atoiAll
      dsimp only
      rw [if_neg g1, hm]
      dsimp only
      rw [if_neg (by omega), if_neg (by omega), if_neg g2]
      congr 1
      omega

theorem itoa_chars (n : Int) (b : UInt8) (h : b ∈ Lib.itoa n) : b ≠ 32 := by
  unfold Lib.itoa at h
  have key : ∀ b : UInt8, 48 ≤ b.toNat → b ≠ 32 := fun b hb e => by rw [e] at hb; exact absurd hb (by decide)
  split at h
  · simp only [List.mem_cons] at h
    rcases h with rfl | h
    · decide
    · exact key b (dec_digits _ b h).1
  · exact key b (dec_digits _ b h).1
theorem itoa_ne (n : Int) : Lib.itoa n ≠ [] := by
  unfold Lib.itoa
  split
  · simp
  · exact dec_ne _

theorem names_fine : ∀ k : Fin 14, 2 ≤ k.val → (∀ b ∈ (nameB k.val).data.toList, b ≠ 32) ∧ (nameB k.val).data.toList ≠ [] ∧ Lib.atoiAll (nameB k.val).data.toList = .«syntax» := by decide +kernel

theorem kind_name : ∀ k : Fin 14, 2 ≤ k.val → kindOf (nameB k.val) = some k.val := by decide +kernel

theorem chk1_parts {k n : Int} (h : chk1 (k, n) = 0) : (k = 1 ∧ -1000000 ≤ n ∧ n ≤ 1000000) ∨ (2 ≤ k ∧ k ≤ 13 ∧ n = 0) := by
  simp only [chk1] at h
  split at h
  · cases h
  · rename_i h1
    split at h
    · cases h
    · rename_i h2
      simp only [not_or, Bool.not_eq_false, not_and] at h1 h2
      have hf := (fit_iff n).1 h2.2
      by_cases hk : k = 1
      · exact Or.inl ⟨hk, hf⟩
      · refine Or.inr ⟨by omega, by omega, ?_⟩
        have := h2.1 hk
        omega

theorem op_fine (o : Int × Int) (h : chk1 o = 0) : (∀ b ∈ (opText o).data.toList, b ≠ 32) ∧ (opText o).data.toList ≠ [] ∧ parseW (opText o) = some o := by
  obtain ⟨k, n⟩ := o
  rcases chk1_parts h with ⟨rfl, h0, h1⟩ | ⟨h2, h3, rfl⟩
  · have e : opText (1, n) = textB n := rfl
    rw [e]
    refine ⟨fun b hb => itoa_chars n b (by simpa [textB] using hb), by simpa [textB] using itoa_ne n, ?_⟩
    have hn : numOf (textB n) = some n := by
      unfold numOf
      have : Lib.atoiAll (textB n).data.toList = .ok n := by simpa [textB] using atoi_back n h0 h1
      rw [this]
      simp
    unfold parseW
    rw [hn]
  · obtain ⟨m, rfl⟩ := Int.eq_ofNat_of_zero_le (show 0 ≤ k by omega)
    have e : opText ((m : Int), 0) = nameB m := by simp [opText]; intro h; omega
    have hf := names_fine ⟨m, by omega⟩ (by show 2 ≤ m; omega)
    have hk := kind_name ⟨m, by omega⟩ (by show 2 ≤ m; omega)
    rw [e]
    refine ⟨hf.1, hf.2.1, ?_⟩
    have hn : numOf (nameB m) = none := by
      unfold numOf
      have h3 : Lib.atoiAll (nameB m).data.toList = .«syntax» := hf.2.2
      rw [h3]
    unfold parseW
    rw [hn]
    have hk' : kindOf (nameB m) = some m := hk
    rw [hk']
    rfl

theorem byte_miss : ∀ (x : List UInt8), (∀ b ∈ x, b ≠ 32) → Lib.indexByte x 32 = -1
  | [], _ => rfl
  | b :: r, h => by
    unfold Lib.indexByte
    have hb : (b == 32) = false := by simpa using h b (by simp)
    rw [hb, byte_miss r (fun c hc => h c (by simp [hc]))]
    rfl
theorem byte_hit : ∀ (x r : List UInt8), (∀ b ∈ x, b ≠ 32) → Lib.indexByte (x ++ 32 :: r) 32 = x.length
  | [], r, _ => rfl
  | b :: x, r, h => by
    have ih := byte_hit x r (fun c hc => h c (by simp [hc]))
    rw [List.cons_append]
    unfold Lib.indexByte
    have hb : (b == 32) = false := by simpa using h b (by simp)
    rw [hb, ih]
    have hne : ((x.length : Int) == -1) = false := by rw [beq_eq_false_iff_ne]; omega
    rw [hne]
    simp

theorem split_join : ∀ (xs : List (List UInt8)), xs ≠ [] → (∀ x ∈ xs, ∀ b ∈ x, b ≠ 32) → Lib.splitK [32] 0 (Lib.count (Lib.join xs [32]) [32]) (Lib.join xs [32]) = xs
  | [], h, _ => absurd rfl h
  | [x], _, h => by
    rw [Lib.join_one]
    have hi : Lib.index x [32] = -1 := by rw [Lib.index_one]; exact byte_miss x (h x (by simp))
    rw [Lib.count_miss hi]
    rfl
  | x :: y :: r, _, h => by
    have ej : Lib.join (x :: y :: r) [32] = x ++ 32 :: Lib.join (y :: r) [32] := by simp [Lib.join, List.intercalate]
    have hi : Lib.index (Lib.join (x :: y :: r) [32]) [32] = (x.length : Int) := by rw [ej, Lib.index_one]; exact byte_hit x _ (h x (by simp))
    have hc := Lib.count_hit (s := Lib.join (x :: y :: r) [32]) (sub := [32]) (by simp) hi
    have hd : (Lib.join (x :: y :: r) [32]).drop (x.length + ([32] : List UInt8).length) = Lib.join (y :: r) [32] := by
      rw [ej, List.length_singleton, ← List.drop_drop, List.drop_left]; rfl
    have ht : (Lib.join (x :: y :: r) [32]).take (x.length + 0) = x := by rw [ej, Nat.add_zero, List.take_left]
    rw [hd] at hc
    rw [hc, Nat.add_comm, Lib.splitK]
    have hne : (Lib.index (Lib.join (x :: y :: r) [32]) [32] == -1) = false := by rw [hi, beq_eq_false_iff_ne]; omega
    rw [hne]
    simp only [Bool.false_eq_true, if_false, hi, Int.toNat_natCast]
    rw [ht, hd, split_join (y :: r) (by simp) (fun z hz => h z (by simp [hz]))]

theorem data_inj {a b : ByteArray} (h : a.data.toList = b.data.toList) : a = b := by
  cases a; cases b
  simp at h
  rw [h]
theorem map_inj : ∀ {xs ys : List ByteArray}, xs.map (·.data.toList) = ys.map (·.data.toList) → xs = ys
  | [], [], _ => rfl
  | [], _ :: _, h => by simp at h
  | _ :: _, [], h => by simp at h
  | x :: xs, y :: ys, h => by
    simp only [List.map_cons, List.cons.injEq] at h
    rw [data_inj h.1, map_inj h.2]

theorem join_ne : ∀ (xs : List (List UInt8)), xs ≠ [] → (∀ x ∈ xs, x ≠ []) → Lib.join xs [32] ≠ []
  | [], h, _ => absurd rfl h
  | [x], _, h => by rw [Lib.join_one]; exact h x (by simp)
  | x :: y :: r, _, _ => by simp [Lib.join, List.intercalate]

theorem words_back (l : List (Int × Int)) (h : chkL l = 0) : wordsOf (opsText l) = l.map opText := by
  have hall : ∀ o ∈ l, chk1 o = 0 := fun o ho => by
    obtain ⟨i, hi, rfl⟩ := List.getElem_of_mem ho
    exact chkL_all h i hi
  cases l with
  | nil => rfl
  | cons o r =>
    have hd : (opsText (o :: r)).data.toList = Lib.join (((o :: r).map opText).map (·.data.toList)) [32] := by simp [opsText]
    have hne : (opsText (o :: r)).size ≠ 0 := by
      intro e
      have h2 : (opsText (o :: r)).data.toList = [] := by
        have h3 : (opsText (o :: r)).data = #[] := Array.eq_empty_of_size_eq_zero e
        rw [h3]
      rw [hd] at h2
      refine join_ne _ (by simp) (fun x hx => ?_) h2
      simp only [List.map_map, List.mem_map] at hx
      obtain ⟨q, hq, rfl⟩ := hx
      exact (op_fine q (hall q hq)).2.1
    unfold wordsOf
    rw [if_neg hne]
    apply map_inj
    rw [Lib.splitB_data]
    show Lib.splitK [32] 0 (Lib.count (opsText (o :: r)).data.toList [32]) (opsText (o :: r)).data.toList = _
    rw [hd]
    refine split_join _ (by simp) (fun x hx b hb => ?_)
    simp only [List.map_map, List.mem_map] at hx
    obtain ⟨q, hq, rfl⟩ := hx
    exact (op_fine q (hall q hq)).1 b hb

theorem all_back : ∀ (l : List (Int × Int)), (∀ o ∈ l, chk1 o = 0) → parseAll (l.map opText) = some l
  | [], _ => rfl
  | o :: r, h => by
    simp only [List.map_cons, parseAll, (op_fine o (h o (by simp))).2.2, all_back r (fun q hq => h q (by simp [hq]))]
    rfl

theorem read_back (l : List (Int × Int)) (h : chk l = 0) : prE (opsText l) = 0 ∧ prL (opsText l) = l := by
  have h16 : l.length ≤ 16 := by
    unfold chk at h
    split at h
    · cases h
    · omega
  have hL : chkL l = 0 := by
    unfold chk at h
    split at h
    · cases h
    · exact h
  have hsz : ¬ 4000 < (opsText l).size := by
    have := opsText_len l h16 hL
    have e : (opsText l).size = (Lib.join ((l.map opText).map (·.data.toList)) [32]).length := by simp [opsText, ByteArray.size]
    omega
  have hp : parseAll (wordsOf (opsText l)) = some l := by
    rw [words_back l hL]
    exact all_back l (fun o ho => by
      obtain ⟨i, hi, rfl⟩ := List.getElem_of_mem ho
      exact chkL_all hL i hi)
  constructor
  · unfold prE; rw [if_neg hsz, hp]; exact h
  · unfold prL; rw [if_neg hsz, hp]; simp [h]

end Go.Proofs.YtepmnpapdknocaaGreatDoor

/- Pieces of texts: what is joined is split, what is split is joined. Nothing of the program. -/
namespace Go.Proofs.YtepmnpapdknocaaGreatDoor

theorem idx_miss (c : UInt8) : ∀ (x : List UInt8), (∀ b ∈ x, b ≠ c) → Lib.indexByte x c = -1
  | [], _ => rfl
  | b :: r, h => by
    unfold Lib.indexByte
    have hb : (b == c) = false := by simpa using h b (by simp)
    rw [hb, idx_miss c r (fun d hd => h d (by simp [hd]))]
    rfl
theorem idx_hit (c : UInt8) : ∀ (x r : List UInt8), (∀ b ∈ x, b ≠ c) → Lib.indexByte (x ++ c :: r) c = x.length
  | [], r, _ => by unfold Lib.indexByte; simp
  | b :: x, r, h => by
    have ih := idx_hit c x r (fun d hd => h d (by simp [hd]))
    rw [List.cons_append]
    unfold Lib.indexByte
    have hb : (b == c) = false := by simpa using h b (by simp)
    rw [hb, ih]
    have hne : ((x.length : Int) == -1) = false := by rw [beq_eq_false_iff_ne]; omega
    rw [hne]
    simp
theorem split_joinC (c : UInt8) : ∀ (xs : List (List UInt8)), xs ≠ [] → (∀ x ∈ xs, ∀ b ∈ x, b ≠ c) → Lib.splitK [c] 0 (Lib.count (Lib.join xs [c]) [c]) (Lib.join xs [c]) = xs
  | [], h, _ => absurd rfl h
  | [x], _, h => by
    rw [Lib.join_one]
    have hi : Lib.index x [c] = -1 := by rw [Lib.index_one]; exact idx_miss c x (h x (by simp))
    rw [Lib.count_miss hi]
    rfl
  | x :: y :: r, _, h => by
    have ej : Lib.join (x :: y :: r) [c] = x ++ c :: Lib.join (y :: r) [c] := by simp [Lib.join, List.intercalate]
    have hi : Lib.index (Lib.join (x :: y :: r) [c]) [c] = (x.length : Int) := by rw [ej, Lib.index_one]; exact idx_hit c x _ (h x (by simp))
    have hc := Lib.count_hit (s := Lib.join (x :: y :: r) [c]) (sub := [c]) (by simp) hi
    have hd : (Lib.join (x :: y :: r) [c]).drop (x.length + ([c] : List UInt8).length) = Lib.join (y :: r) [c] := by
      rw [ej, List.length_singleton, ← List.drop_drop, List.drop_left]; rfl
    have ht : (Lib.join (x :: y :: r) [c]).take (x.length + 0) = x := by rw [ej, Nat.add_zero, List.take_left]
    rw [hd] at hc
    rw [hc, Nat.add_comm, Lib.splitK]
    have hne : (Lib.index (Lib.join (x :: y :: r) [c]) [c] == -1) = false := by rw [hi, beq_eq_false_iff_ne]; omega
    rw [hne]
    simp only [Bool.false_eq_true, if_false, hi, Int.toNat_natCast]
    rw [ht, hd, split_joinC c (y :: r) (by simp) (fun z hz => h z (by simp [hz]))]

/-- Pieces joined by a sign. -/
def joinB (c : UInt8) (xs : List ByteArray) : ByteArray := ⟨(Lib.join (xs.map (·.data.toList)) [c]).toArray⟩
theorem joinB_data (c : UInt8) (xs : List ByteArray) : (joinB c xs).data.toList = Lib.join (xs.map (·.data.toList)) [c] := by simp [joinB]
theorem spl_data (c : UInt8) (s : ByteArray) : (spl c s).map (·.data.toList) = Lib.splitK [c] 0 (Lib.count s.data.toList [c]) s.data.toList := by
  unfold spl; rw [Lib.splitB_data]
theorem spl_join (c : UInt8) (xs : List ByteArray) (h : xs ≠ []) (hc : ∀ x ∈ xs, ∀ b ∈ x.data.toList, b ≠ c) : spl c (joinB c xs) = xs := by
  apply map_inj
  rw [spl_data, joinB_data]
  exact split_joinC c _ (by simpa using h) (fun x hx b hb => by
    obtain ⟨y, hy, rfl⟩ := List.mem_map.1 hx
    exact hc y hy b hb)
/-! The colon. -/
theorem cut_hit (x r : List UInt8) (h : ∀ b ∈ x, b ≠ 58) : Lib.cut (x ++ 58 :: r) [58] = (x, r, true) := by
  have hi : Lib.index (x ++ 58 :: r) [58] = (x.length : Int) := by rw [Lib.index_one]; exact idx_hit 58 x r h
  unfold Lib.cut
  rw [hi, if_pos (by omega), Int.toNat_natCast, List.take_left]
  have hd : (x ++ 58 :: r).drop (x.length + ([58] : List UInt8).length) = r := by
    rw [List.length_singleton, ← List.drop_drop, List.drop_left]; rfl
  rw [hd]
end Go.Proofs.YtepmnpapdknocaaGreatDoor

/- What is printed of a transaction is read, and what is read is printed as it was. Nothing of the program. -/
namespace Go.Proofs.YtepmnpapdknocaaGreatDoor

theorem dec_backL : ∀ (u : Nat), u < 1000000000000 → Lib.parseUint10 0 (Lib.decDigits u) = .ok u := by
  intro u
  induction u using Nat.strongRecOn with
  | ind u ih =>
    intro hu
    rw [Lib.decDigits]
    split
    · rename_i h
      have e := dig_val u h
      simp only [Lib.parseUint10, e]
      rw [if_pos (by omega), if_neg (by omega), if_neg (by omega)]
      congr 1
      omega
    · rename_i h
      have e := dig_val (u % 10) (by omega)
      have := uint_snoc (Lib.decDigits (u / 10)) 0 (u / 10) (UInt8.ofNat (48 + u % 10)) (ih (u / 10) (by omega) (by omega)) (by omega) (by omega) (by omega) (by omega)
      rw [this, e]
      congr 1
      omega
theorem atoi_backL (n : Int) (h0 : -10000000000 ≤ n) (h1 : n ≤ 10000000000) : Lib.atoiAll (Lib.itoa n) = .ok n := by
  unfold Lib.itoa
  split
  · rename_i hn
    have e := dec_backL n.natAbs (by omega)
    unfold Lib.atoiAll
    have h45 : (45 : UInt8).toNat = 45 := rfl
    simp only [h45, or_true, if_true, Lib.parseMag, dec_ne, if_false, e]
    rw [if_neg (by omega), if_neg (by omega)]
    congr 1
    first | omega | (simp; omega)
  · rename_i hn
    have e := dec_backL n.toNat (by omega)
    have hd := dec_digits n.toNat
    have hne := dec_ne n.toNat
    generalize Lib.decDigits n.toNat = l at *
    cases l with
    | nil => exact absurd rfl hne
    | cons c r =>
      have hc := hd c (by simp)
      have g1 : ¬ (c.toNat = 43 ∨ c.toNat = 45) := by omega
      have g2 : ¬ c.toNat = 45 := by omega
      have hm : Lib.parseMag (c :: r) = .ok n.toNat := by unfold Lib.parseMag; rw [if_neg hne]; exact e
      unfold Lib.atoiAll
      dsimp only
      rw [if_neg g1, hm]
      dsimp only
      rw [if_neg (by omega), if_neg (by omega), if_neg g2]
      congr 1
      omega
theorem itoa_plain (n : Int) (b : UInt8) (h : b ∈ Lib.itoa n) : b ≠ 32 ∧ b ≠ 58 ∧ b ≠ 10 := by
  have key : ∀ b : UInt8, 48 ≤ b.toNat ∧ b.toNat ≤ 57 → b ≠ 32 ∧ b ≠ 58 ∧ b ≠ 10 := fun b hb => by
    refine ⟨fun e => ?_, fun e => ?_, fun e => ?_⟩ <;> (rw [e] at hb; exact absurd hb (by decide))
  unfold Lib.itoa at h
  split at h
  · simp only [List.mem_cons] at h
    rcases h with rfl | h
    · decide
    · exact key b (dec_digits _ b h)
  · exact key b (dec_digits _ b h)

theorem textB_data (n : Int) : (textB n).data.toList = Lib.itoa n := by simp [textB]
theorem num_text (z : Int) (h : -10000000000 ≤ z ∧ z ≤ 10000000000) : numOf (textB z) = some z := by
  unfold numOf
  rw [textB_data, atoi_backL z h.1 h.2]
  simp
/-! Rows. -/
theorem row_fold : ∀ (Z : List Int) (word : ByteArray), (rowB word Z).data.toList = word.data.toList ++ ((Z.map textB).map (fun x => 32 :: x.data.toList)).flatten
  | [], word => by simp [rowB]
  | z :: r, word => by
    have ih := row_fold r (word ++ (⟨#[32]⟩ ++ textB z))
    have e : rowB word (z :: r) = rowB (word ++ (⟨#[32]⟩ ++ textB z)) r := rfl
    rw [e, ih]
    simp [ByteArray.data_append]
theorem row_join (word : ByteArray) (Z : List Int) : rowB word Z = joinB 32 (word :: Z.map textB) := by
  apply data_inj
  rw [row_fold, joinB_data, List.map_cons, Lib.join_cons, Lib.joinTail]
  simp [Function.comp_def]
theorem row_spl (word : ByteArray) (Z : List Int) (hw : ∀ b ∈ word.data.toList, b ≠ 32) : spl 32 (rowB word Z) = word :: Z.map textB := by
  rw [row_join]
  exact spl_join 32 _ (by simp) (fun x hx b hb => by
    rcases List.mem_cons.1 hx with rfl | hx
    · exact hw b hb
    · obtain ⟨z, _, rfl⟩ := List.mem_map.1 hx
      rw [textB_data] at hb
      exact (itoa_plain z b hb).1)
theorem rowOf_row (word : ByteArray) (Z : List Int) (hw : ∀ b ∈ word.data.toList, b ≠ 32) (hz : ∀ z ∈ Z, -10000000000 ≤ z ∧ z ≤ 10000000000) : rowOf (rowB word Z) word Z.length = some Z := by
  unfold rowOf
  rw [row_spl word Z hw, if_pos ⟨rfl, by simp⟩]
  show numAll (Z.map textB) = some Z
  unfold numAll
  rw [if_pos]
  · congr 1
    rw [List.map_map]
    conv => rhs; rw [← List.map_id Z]
    apply List.map_congr_left
    intro z hm
    show (numOf (textB z)).getD 0 = z
    rw [num_text z (hz z hm)]; rfl
  · rw [List.all_eq_true]
    intro x hx
    obtain ⟨z, hm, rfl⟩ := List.mem_map.1 hx
    rw [num_text z (hz z hm)]; rfl
theorem rowOf_other (word w2 : ByteArray) (Z : List Int) (n : Nat) (hw : ∀ b ∈ word.data.toList, b ≠ 32) (hne : word ≠ w2) : rowOf (rowB word Z) w2 n = none := by
  unfold rowOf
  rw [row_spl word Z hw, if_neg (fun h => hne h.1)]
/-! Orders. -/
/-! Lines. -/
def lineT (word : ByteArray) (Z : List Int) (l : List (Int × Int)) : ByteArray := (rowB word Z ++ ⟨#[58]⟩) ++ opsText l
theorem row_free (word : ByteArray) (Z : List Int) (c : UInt8) (hw : ∀ b ∈ word.data.toList, b ≠ c) (hc : c = 58 ∨ c = 10) : ∀ b ∈ (rowB word Z).data.toList, b ≠ c := by
  intro b hb
  rw [row_fold] at hb
  rcases List.mem_append.1 hb with hb | hb
  · exact hw b hb
  · obtain ⟨y, hy, hb⟩ := List.mem_flatten.1 hb
    obtain ⟨x, hx, rfl⟩ := List.mem_map.1 hy
    obtain ⟨z, _, rfl⟩ := List.mem_map.1 hx
    rcases List.mem_cons.1 hb with rfl | hb
    · rcases hc with rfl | rfl <;> decide
    · rw [textB_data] at hb
      rcases hc with rfl | rfl
      · exact (itoa_plain z b hb).2.1
      · exact (itoa_plain z b hb).2.2
theorem line_cut (word : ByteArray) (Z : List Int) (l : List (Int × Int)) (hw : ∀ b ∈ word.data.toList, b ≠ 58) : cutH (lineT word Z l) = rowB word Z ∧ cutT (lineT word Z l) = opsText l ∧ cutF (lineT word Z l) = true := by
  have e : (lineT word Z l).data.toList = (rowB word Z).data.toList ++ 58 :: (opsText l).data.toList := by simp [lineT, ByteArray.data_append]
  have hc := cut_hit (rowB word Z).data.toList (opsText l).data.toList (row_free word Z 58 hw (Or.inl rfl))
  unfold cutH cutT cutF
  rw [e, hc]
  exact ⟨data_inj (by simp), data_inj (by simp), rfl⟩
theorem lineOf_line (word : ByteArray) (Z : List Int) (l : List (Int × Int)) (hw : ∀ b ∈ word.data.toList, b ≠ 32 ∧ b ≠ 58) (hz : ∀ z ∈ Z, -10000000000 ≤ z ∧ z ≤ 10000000000) (hl : chk l = 0) : lineOf (lineT word Z l) word Z.length = some (Z, l) := by
  obtain ⟨h1, h2, h3⟩ := line_cut word Z l (fun b hb => (hw b hb).2)
  obtain ⟨r1, r2⟩ := read_back l hl
  unfold lineOf
  rw [h3, h1, h2, rowOf_row word Z (fun b hb => (hw b hb).1) hz]
  show (if prE (opsText l) = 0 then some (Z, prL (opsText l)) else none) = _
  rw [if_pos r1, r2]
theorem lineOf_other (word w2 : ByteArray) (Z : List Int) (l : List (Int × Int)) (n : Nat) (hw : ∀ b ∈ word.data.toList, b ≠ 32 ∧ b ≠ 58) (hne : word ≠ w2) : lineOf (lineT word Z l) w2 n = none := by
  obtain ⟨h1, h2, h3⟩ := line_cut word Z l (fun b hb => (hw b hb).2)
  unfold lineOf
  rw [h3, h1, rowOf_other word w2 Z n (fun b hb => (hw b hb).1) hne]
  rfl
end Go.Proofs.YtepmnpapdknocaaGreatDoor

/- The text of a transaction and its lines: there and back. Nothing of the program. -/
namespace Go.Proofs.YtepmnpapdknocaaGreatDoor

def inL (x : InD) : ByteArray := lineT inB [x.1, x.2.1] x.2.2
def outL (x : OutD) : ByteArray := lineT outB [x.1] x.2
def endN (s x : ByteArray) : ByteArray := s ++ (x ++ ⟨#[10]⟩)

theorem join_fold : ∀ (ls : List ByteArray) (s : ByteArray), (ls.foldl endN (s ++ ⟨#[10]⟩)).data.toList = s.data.toList ++ (ls.map (fun x => 10 :: x.data.toList)).flatten ++ [10]
  | [], s => by simp [ByteArray.data_append]
  | x :: r, s => by
    have e : (x :: r).foldl endN (s ++ ⟨#[10]⟩) = r.foldl endN (((s ++ ⟨#[10]⟩) ++ x) ++ ⟨#[10]⟩) := by
      show r.foldl endN ((s ++ ⟨#[10]⟩) ++ (x ++ ⟨#[10]⟩)) = _
      congr 1
      exact data_inj (by simp [ByteArray.data_append])
    rw [e, join_fold r]
    simp [ByteArray.data_append]
theorem fold_join (l0 : ByteArray) (ls : List ByteArray) : ls.foldl endN (l0 ++ ⟨#[10]⟩) = joinB 10 (l0 :: ls) ++ ⟨#[10]⟩ := by
  apply data_inj
  rw [join_fold, ByteArray.data_append, Array.toList_append, joinB_data, List.map_cons, Lib.join_cons, Lib.joinTail]
  simp [Function.comp_def]

theorem ins_fold (h : Int) (I : List InD) : insText h I = (I.map inL).foldl endN (headText h) := by
  unfold insText; rw [List.foldl_map]; rfl
theorem outs_fold (t : ByteArray) (O : List OutD) : outsText t O = (O.map outL).foldl endN t := by
  unfold outsText; rw [List.foldl_map]; rfl
theorem txText_lines (h : Int) (I : List InD) (O : List OutD) : txText (h, I, O) = joinB 10 (rowB txB [h] :: (I.map inL ++ O.map outL)) ++ ⟨#[10]⟩ := by
  rw [← fold_join, List.foldl_append]
  show outsText (insText h I) O = _
  rw [outs_fold, ins_fold]; rfl

/-! The last line feed. -/
theorem ext_list (s : ByteArray) (i j : Nat) : (s.extract i j).data.toList = (s.data.toList.drop i).take (j - i) := by
  rw [ByteArray.data_extract, Array.toList_extract]
theorem size_list (s : ByteArray) : s.size = s.data.toList.length := by rw [Array.length_toList]; rfl
theorem ends_data (X : ByteArray) : endsB (X ++ ⟨#[10]⟩) = true ∧ bodyB (X ++ ⟨#[10]⟩) = X := by
  have hsz : (X ++ (⟨#[10]⟩ : ByteArray)).size = X.data.toList.length + 1 := by rw [size_one X 10, size_list]
  have hd : (X ++ (⟨#[10]⟩ : ByteArray)).data.toList = X.data.toList ++ [10] := by rw [ByteArray.data_append, Array.toList_append]
  have e1 : endsB (X ++ ⟨#[10]⟩) = true := by
    unfold endsB lastB
    rw [decide_eq_true (by omega), hsz, ByteArray.toList_eq, ext_list, hd, Nat.add_sub_cancel, List.drop_left]
    have : X.data.toList.length + 1 - X.data.toList.length = 1 := by omega
    rw [this]
    rfl
  refine ⟨e1, ?_⟩
  unfold bodyB
  rw [e1]
  show frontB _ = X
  unfold frontB
  apply data_inj
  rw [ext_list, hsz, hd, Nat.add_sub_cancel, List.drop_zero, Nat.sub_zero, List.take_left]
/-! Signs in the texts. -/
theorem opText_free (q : Int × Int) (h : chk1 q = 0) : ∀ b ∈ (opText q).data.toList, b ≠ 10 := by
  intro b hb
  unfold opText at hb
  split at hb
  · have hb2 : b ∈ Lib.itoa q.2 := by simpa using hb
    exact (itoa_plain _ b hb2).2.2
  · have hk : 1 ≤ q.1 ∧ q.1 ≤ 13 := by
      obtain ⟨k, n⟩ := q
      simp only [chk1] at h
      split at h
      · cases h
      · simp only; omega
    have all : ∀ j : Fin 14, ∀ b ∈ (nameB j.val).data.toList, b ≠ 10 := by decide +kernel
    exact all ⟨q.1.toNat, by omega⟩ b hb
theorem ops_free (l : List (Int × Int)) (h : chk l = 0) : ∀ b ∈ (opsText l).data.toList, b ≠ 10 := by
  have hL : chkL l = 0 := by
    unfold chk at h
    split at h
    · cases h
    · exact h
  have hall : ∀ o ∈ l, chk1 o = 0 := fun o ho => by
    obtain ⟨i, hi, rfl⟩ := List.getElem_of_mem ho
    exact chkL_all hL i hi
  intro b hb
  have hd : (opsText l).data.toList = Lib.join ((l.map opText).map (·.data.toList)) [32] := by simp [opsText]
  rw [hd] at hb
  cases l with
  | nil => cases hb
  | cons o r =>
    rw [List.map_cons, List.map_cons, Lib.join_cons, Lib.joinTail] at hb
    rcases List.mem_append.1 hb with hb | hb
    · exact opText_free o (hall o (by simp)) b hb
    · obtain ⟨y, hy, hb⟩ := List.mem_flatten.1 hb
      obtain ⟨x, hx, rfl⟩ := List.mem_map.1 hy
      obtain ⟨z, hz, rfl⟩ := List.mem_map.1 hx
      obtain ⟨q, hq, rfl⟩ := List.mem_map.1 hz
      rcases List.mem_append.1 hb with hb | hb
      · have : b = 32 := by simpa using hb
        subst this; decide
      · exact opText_free q (hall q (by simp [hq])) b hb
theorem line_free (word : ByteArray) (Z : List Int) (l : List (Int × Int)) (hw : ∀ b ∈ word.data.toList, b ≠ 10) (hl : chk l = 0) : ∀ b ∈ (lineT word Z l).data.toList, b ≠ 10 := by
  intro b hb
  have e : (lineT word Z l).data.toList = (rowB word Z).data.toList ++ 58 :: (opsText l).data.toList := by simp [lineT, ByteArray.data_append]
  rw [e] at hb
  rcases List.mem_append.1 hb with hb | hb
  · exact row_free word Z 10 hw (Or.inr rfl) b hb
  · rcases List.mem_cons.1 hb with rfl | hb
    · decide
    · exact ops_free l hl b hb

theorem tx_signs : (∀ b ∈ txB.data.toList, b ≠ 32 ∧ b ≠ 58 ∧ b ≠ 10) ∧ (∀ b ∈ inB.data.toList, b ≠ 32 ∧ b ≠ 58 ∧ b ≠ 10) ∧ (∀ b ∈ outB.data.toList, b ≠ 32 ∧ b ≠ 58 ∧ b ≠ 10) := by decide +kernel
theorem out_in : outB ≠ inB := by decide +kernel

/-! Lines that were written are read. -/
theorem fold_ins (h : Int) (R : List ByteArray) : ∀ (I P : List InD), (∀ x ∈ I, ptOk x = true ∧ chk x.2.2 = 0) → foldTx (h, P, []) (I.map inL ++ R) = foldTx (h, P ++ I, []) R
  | [], P, _ => by simp
  | x :: r, P, hI => by
    have hx := hI x (by simp)
    have hp := (ptOk_iff x).1 hx.1
    have hl : lineOf (inL x) inB 2 = some ([x.1, x.2.1], x.2.2) := lineOf_line inB [x.1, x.2.1] x.2.2 (fun b hb => ⟨(tx_signs.2.1 b hb).1, (tx_signs.2.1 b hb).2.1⟩) (fun z hz => by simp at hz; omega) hx.2
    have hs : stepLn (h, P, []) (inL x) = some (h, P ++ [x], []) := by
      unfold stepLn
      rw [hl]
      rfl
    rw [List.map_cons, List.cons_append, foldTx, hs]
    show foldTx (h, P ++ [x], []) (r.map inL ++ R) = _
    rw [fold_ins h R r (P ++ [x]) (fun y hy => hI y (by simp [hy]))]
    simp
theorem fold_outs (h : Int) (P : List InD) : ∀ (O Q : List OutD), (∀ x ∈ O, (1 ≤ x.1 ∧ x.1 ≤ 1000000000) ∧ chk x.2 = 0) → foldTx (h, P, Q) (O.map outL) = some (h, P, Q ++ O)
  | [], Q, _ => by simp [foldTx]
  | x :: r, Q, hO => by
    have hx := hO x (by simp)
    have hl : lineOf (outL x) outB 1 = some ([x.1], x.2) := lineOf_line outB [x.1] x.2 (fun b hb => ⟨(tx_signs.2.2 b hb).1, (tx_signs.2.2 b hb).2.1⟩) (fun z hz => by simp at hz; omega) hx.2
    have hn : lineOf (outL x) inB 2 = none := lineOf_other outB inB [x.1] x.2 2 (fun b hb => ⟨(tx_signs.2.2 b hb).1, (tx_signs.2.2 b hb).2.1⟩) out_in
    have hs : stepLn (h, P, Q) (outL x) = some (h, P, Q ++ [x]) := by
      unfold stepLn
      rw [hn]
      show outStep (h, P, Q) (outL x) = _
      unfold outStep
      rw [hl]
      rfl
    rw [List.map_cons, foldTx, hs]
    show foldTx (h, P, Q ++ [x]) (r.map outL) = _
    rw [fold_outs h P r (Q ++ [x]) (fun y hy => hO y (by simp [hy]))]
    simp

/-- What is printed of a right transaction is read. -/
theorem tx_back (t : TxD) (hx : chkTx t = 0) : linesTx (txText t) = some t := by
  obtain ⟨h, I, O⟩ := t
  have ok := TxOk.of hx
  have e := txText_lines h I O
  obtain ⟨X, hX⟩ : ∃ X, joinB 10 (rowB txB [h] :: (I.map inL ++ O.map outL)) = X := ⟨_, rfl⟩
  rw [hX] at e
  obtain ⟨e1, e2⟩ := ends_data X
  have e3 : linesOf (X ++ ⟨#[10]⟩) = rowB txB [h] :: (I.map inL ++ O.map outL) := by
    unfold linesOf
    rw [e2, ← hX]
    refine spl_join 10 _ (by simp) (fun x hx b hb => ?_)
    rcases List.mem_cons.1 hx with rfl | hx
    · exact row_free txB [h] 10 (fun b hb => (tx_signs.1 b hb).2.2) (Or.inr rfl) b hb
    · rcases List.mem_append.1 hx with hx | hx
      · obtain ⟨y, hy, rfl⟩ := List.mem_map.1 hx
        exact line_free inB _ _ (fun b hb => (tx_signs.2.1 b hb).2.2) (ok.ins y hy).2 b hb
      · obtain ⟨y, hy, rfl⟩ := List.mem_map.1 hx
        exact line_free outB _ _ (fun b hb => (tx_signs.2.2 b hb).2.2) (ok.outs y hy).2 b hb
  have hg := ok.hgt
  have e4 : rowOf (rowB txB [h]) txB 1 = some [h] := rowOf_row txB [h] (fun b hb => (tx_signs.1 b hb).1) (fun z hz => by simp at hz; simp only at hg; omega)
  rw [e]
  unfold linesTx
  rw [e1, e3]
  show (match rowOf (rowB txB [h]) txB 1 with | some Z => foldTx (Z.getD 0 0, [], []) (I.map inL ++ O.map outL) | none => none) = _
  rw [e4]
  show foldTx (h, [], []) (I.map inL ++ O.map outL) = _
  rw [fold_ins h _ I [] ok.ins, fold_outs h _ O [] ok.outs]
  simp

/-! Lines that are read were written. -/
end Go.Proofs.YtepmnpapdknocaaGreatDoor
