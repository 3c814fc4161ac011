/- What is printed is read: the orders of the text of right orders are the orders. -/
import Derived.Test.YtadlakolpphgnaaGreatDoorLockRead
import Derived.Lib.IndexBytes
namespace Go.Proofs.YtadlakolpphgnaaGreatDoor
open Go.RowKit

theorem dig_val (d : Nat) (h : d < 10) : (UInt8.ofNat (48 + d)).toNat = 48 + d := by
  have : ∀ m : Fin 10, (UInt8.ofNat (48 + m.val)).toNat = 48 + m.val := by decide
  exact this ⟨d, h⟩

theorem uint_snoc : ∀ (l : List UInt8) (acc m : Nat) (c : UInt8), Lib.parseUint10 acc l = .ok m → 48 ≤ c.toNat → c.toNat ≤ 57 → m * 10 + (c.toNat - 48) < 18446744073709551616 → m < 1844674407370955162 →
    Lib.parseUint10 acc (l ++ [c]) = .ok (m * 10 + (c.toNat - 48))
  | [], acc, m, c, h, h1, h2, h3, h4 => by
    simp only [Lib.parseUint10] at h
    injection h with h
    subst h
    simp only [List.nil_append, Lib.parseUint10]
    rw [if_pos ⟨h1, h2⟩, if_neg (by omega), if_neg (by omega)]
  | x :: r, acc, m, c, h, h1, h2, h3, h4 => by
    simp only [List.cons_append, Lib.parseUint10] at h ⊢
    split at h
    · rename_i hx
      rw [if_pos hx]
      split at h
      · cases h
      · rename_i g1
        rw [if_neg g1]
        split at h
        · cases h
        · rename_i g2
          rw [if_neg g2]
          exact uint_snoc r _ m c h h1 h2 h3 h4
    · cases h

theorem dec_back : ∀ (u : Nat), u < 10000000 → Lib.parseUint10 0 (Lib.decDigits u) = .ok u := by
  intro u
  induction u using Nat.strongRecOn with
  | ind u ih =>
    intro hu
    rw [Lib.decDigits]
    split
    · rename_i h
      have e := dig_val u h
      simp only [Lib.parseUint10, e]
      rw [if_pos (by omega), if_neg (by omega), if_neg (by omega)]
      congr 1
      omega
    · rename_i h
      have e := dig_val (u % 10) (by omega)
      have := uint_snoc (Lib.decDigits (u / 10)) 0 (u / 10) (UInt8.ofNat (48 + u % 10)) (ih (u / 10) (by omega) (by omega)) (by omega) (by omega) (by omega) (by omega)
      rw [this, e]
      congr 1
      omega

theorem dec_digits : ∀ (u : Nat) (b : UInt8), b ∈ Lib.decDigits u → 48 ≤ b.toNat ∧ b.toNat ≤ 57 := by
  intro u
  induction u using Nat.strongRecOn with
  | ind u ih =>
    intro b hb
    rw [Lib.decDigits] at hb
    split at hb
    · rename_i h
      simp only [List.mem_singleton] at hb
      rw [hb, dig_val u h]; omega
    · rename_i h
      simp only [List.mem_append, List.mem_singleton] at hb
      rcases hb with hb | hb
      · exact ih (u / 10) (by omega) b hb
      · rw [hb, dig_val (u % 10) (by omega)]; omega

theorem dec_ne (u : Nat) : Lib.decDigits u ≠ [] := by
  intro e
  have := Lib.decDigits_length u
  rw [e] at this
  have := Lib.nDigits_pos u
  simp at *
  omega

theorem atoi_back (n : Int) (h0 : -1000000 ≤ n) (h1 : n ≤ 1000000) : Lib.atoiAll (Lib.itoa n) = .ok n := by
  unfold Lib.itoa
  split
  · rename_i hn
    have e := dec_back n.natAbs (by omega)
    unfold Lib.atoiAll
    have h45 : (45 : UInt8).toNat = 45 := rfl
    simp only [h45, or_true, if_true, Lib.parseMag, dec_ne, if_false, e]
    rw [if_neg (by omega), if_neg (by omega)]
    congr 1
    first | omega | (simp; omega)
  · rename_i hn
    have e := dec_back n.toNat (by omega)
    have hd := dec_digits n.toNat
    have hne := dec_ne n.toNat
    generalize Lib.decDigits n.toNat = l at *
    cases l with
    | nil => exact absurd rfl hne
    | cons c r =>
      have hc := hd c (by simp)
      have g1 : ¬ (c.toNat = 43 ∨ c.toNat = 45) := by omega
      have g2 : ¬ c.toNat = 45 := by omega
      have hm : Lib.parseMag (c :: r) = .ok n.toNat := by unfold Lib.parseMag; rw [if_neg hne]; exact e
      unfold Lib.atoiAll
      dsimp only
      rw [if_neg g1, hm]
      dsimp only
      rw [if_neg (by omega), if_neg (by omega), if_neg g2]
      congr 1
      omega

theorem itoa_chars (n : Int) (b : UInt8) (h : b ∈ Lib.itoa n) : b ≠ 32 := by
  unfold Lib.itoa at h
  have key : ∀ b : UInt8, 48 ≤ b.toNat → b ≠ 32 := fun b hb e => by rw [e] at hb; exact absurd hb (by decide)
  split at h
  · simp only [List.mem_cons] at h
    rcases h with rfl | h
    · decide
    · exact key b (dec_digits _ b h).1
  · exact key b (dec_digits _ b h).1
theorem itoa_ne (n : Int) : Lib.itoa n ≠ [] := by
  unfold Lib.itoa
  split
  · simp
  · exact dec_ne _

theorem names_fine : ∀ k : Fin 14, 2 ≤ k.val → (∀ b ∈ (nameB k.val).data.toList, b ≠ 32) ∧ (nameB k.val).data.toList ≠ [] ∧ Lib.atoiAll (nameB k.val).data.toList = .«syntax» := by decide +kernel

theorem kind_name : ∀ k : Fin 14, 2 ≤ k.val → kindOf (nameB k.val) = some k.val := by decide +kernel

theorem chk1_parts {k n : Int} (h : chk1 (k, n) = 0) : (k = 1 ∧ -1000000 ≤ n ∧ n ≤ 1000000) ∨ (2 ≤ k ∧ k ≤ 13 ∧ n = 0) := by
  simp only [chk1] at h
  split at h
  · cases h
  · rename_i h1
    split at h
    · cases h
    · rename_i h2
      simp only [not_or, Bool.not_eq_false, not_and] at h1 h2
      have hf := (fit_iff n).1 h2.2
      by_cases hk : k = 1
      · exact Or.inl ⟨hk, hf⟩
      · refine Or.inr ⟨by omega, by omega, ?_⟩
        have := h2.1 hk
        omega

theorem op_fine (o : Int × Int) (h : chk1 o = 0) : (∀ b ∈ (opText o).data.toList, b ≠ 32) ∧ (opText o).data.toList ≠ [] ∧ parseW (opText o) = some o := by
  obtain ⟨k, n⟩ := o
  rcases chk1_parts h with ⟨rfl, h0, h1⟩ | ⟨h2, h3, rfl⟩
  · have e : opText (1, n) = textB n := rfl
    rw [e]
    refine ⟨fun b hb => itoa_chars n b (by simpa [textB] using hb), by simpa [textB] using itoa_ne n, ?_⟩
    have hn : numOf (textB n) = some n := by
      unfold numOf
      have : Lib.atoiAll (textB n).data.toList = .ok n := by simpa [textB] using atoi_back n h0 h1
      rw [this]
      simp
    unfold parseW
    rw [hn]
  · obtain ⟨m, rfl⟩ := Int.eq_ofNat_of_zero_le (show 0 ≤ k by omega)
    have e : opText ((m : Int), 0) = nameB m := by simp [opText]; intro h; omega
    have hf := names_fine ⟨m, by omega⟩ (by show 2 ≤ m; omega)
    have hk := kind_name ⟨m, by omega⟩ (by show 2 ≤ m; omega)
    rw [e]
    refine ⟨hf.1, hf.2.1, ?_⟩
    have hn : numOf (nameB m) = none := by
      unfold numOf
      have h3 : Lib.atoiAll (nameB m).data.toList = .«syntax» := hf.2.2
      rw [h3]
    unfold parseW
    rw [hn]
    have hk' : kindOf (nameB m) = some m := hk
    rw [hk']
    rfl

theorem byte_miss : ∀ (x : List UInt8), (∀ b ∈ x, b ≠ 32) → Lib.indexByte x 32 = -1
  | [], _ => rfl
  | b :: r, h => by
    unfold Lib.indexByte
    have hb : (b == 32) = false := by simpa using h b (by simp)
    rw [hb, byte_miss r (fun c hc => h c (by simp [hc]))]
    rfl
theorem byte_hit : ∀ (x r : List UInt8), (∀ b ∈ x, b ≠ 32) → Lib.indexByte (x ++ 32 :: r) 32 = x.length
  | [], r, _ => rfl
  | b :: x, r, h => by
    have ih := byte_hit x r (fun c hc => h c (by simp [hc]))
    rw [List.cons_append]
    unfold Lib.indexByte
    have hb : (b == 32) = false := by simpa using h b (by simp)
    rw [hb, ih]
    have hne : ((x.length : Int) == -1) = false := by rw [beq_eq_false_iff_ne]; omega
    rw [hne]
    simp

theorem split_join : ∀ (xs : List (List UInt8)), xs ≠ [] → (∀ x ∈ xs, ∀ b ∈ x, b ≠ 32) → Lib.splitK [32] 0 (Lib.count (Lib.join xs [32]) [32]) (Lib.join xs [32]) = xs
  | [], h, _ => absurd rfl h
  | [x], _, h => by
    rw [Lib.join_one]
    have hi : Lib.index x [32] = -1 := by rw [Lib.index_one]; exact byte_miss x (h x (by simp))
    rw [Lib.count_miss hi]
    rfl
  | x :: y :: r, _, h => by
    have ej : Lib.join (x :: y :: r) [32] = x ++ 32 :: Lib.join (y :: r) [32] := by simp [Lib.join, List.intercalate]
    have hi : Lib.index (Lib.join (x :: y :: r) [32]) [32] = (x.length : Int) := by rw [ej, Lib.index_one]; exact byte_hit x _ (h x (by simp))
    have hc := Lib.count_hit (s := Lib.join (x :: y :: r) [32]) (sub := [32]) (by simp) hi
    have hd : (Lib.join (x :: y :: r) [32]).drop (x.length + ([32] : List UInt8).length) = Lib.join (y :: r) [32] := by
      rw [ej, List.length_singleton, ← List.drop_drop, List.drop_left]; rfl
    have ht : (Lib.join (x :: y :: r) [32]).take (x.length + 0) = x := by rw [ej, Nat.add_zero, List.take_left]
    rw [hd] at hc
    rw [hc, Nat.add_comm, Lib.splitK]
    have hne : (Lib.index (Lib.join (x :: y :: r) [32]) [32] == -1) = false := by rw [hi, beq_eq_false_iff_ne]; omega
    rw [hne]
    simp only [Bool.false_eq_true, if_false, hi, Int.toNat_natCast]
    rw [ht, hd, split_join (y :: r) (by simp) (fun z hz => h z (by simp [hz]))]

theorem data_inj {a b : ByteArray} (h : a.data.toList = b.data.toList) : a = b := by
  cases a; cases b
  simp at h
  rw [h]
theorem map_inj : ∀ {xs ys : List ByteArray}, xs.map (·.data.toList) = ys.map (·.data.toList) → xs = ys
  | [], [], _ => rfl
  | [], _ :: _, h => by simp at h
  | _ :: _, [], h => by simp at h
  | x :: xs, y :: ys, h => by
    simp only [List.map_cons, List.cons.injEq] at h
    rw [data_inj h.1, map_inj h.2]

theorem join_ne : ∀ (xs : List (List UInt8)), xs ≠ [] → (∀ x ∈ xs, x ≠ []) → Lib.join xs [32] ≠ []
  | [], h, _ => absurd rfl h
  | [x], _, h => by rw [Lib.join_one]; exact h x (by simp)
  | x :: y :: r, _, _ => by simp [Lib.join, List.intercalate]

theorem words_back (l : List (Int × Int)) (h : chkL l = 0) : wordsOf (opsText l) = l.map opText := by
  have hall : ∀ o ∈ l, chk1 o = 0 := fun o ho => by
    obtain ⟨i, hi, rfl⟩ := List.getElem_of_mem ho
    exact chkL_all h i hi
  cases l with
  | nil => rfl
  | cons o r =>
    have hd : (opsText (o :: r)).data.toList = Lib.join (((o :: r).map opText).map (·.data.toList)) [32] := by simp [opsText]
    have hne : (opsText (o :: r)).size ≠ 0 := by
      intro e
      have h2 : (opsText (o :: r)).data.toList = [] := by
        have h3 : (opsText (o :: r)).data = #[] := Array.eq_empty_of_size_eq_zero e
        rw [h3]
      rw [hd] at h2
      refine join_ne _ (by simp) (fun x hx => ?_) h2
      simp only [List.map_map, List.mem_map] at hx
      obtain ⟨q, hq, rfl⟩ := hx
      exact (op_fine q (hall q hq)).2.1
    unfold wordsOf
    rw [if_neg hne]
    apply map_inj
    rw [Lib.splitB_data]
    show Lib.splitK [32] 0 (Lib.count (opsText (o :: r)).data.toList [32]) (opsText (o :: r)).data.toList = _
    rw [hd]
    refine split_join _ (by simp) (fun x hx b hb => ?_)
    simp only [List.map_map, List.mem_map] at hx
    obtain ⟨q, hq, rfl⟩ := hx
    exact (op_fine q (hall q hq)).1 b hb

theorem all_back : ∀ (l : List (Int × Int)), (∀ o ∈ l, chk1 o = 0) → parseAll (l.map opText) = some l
  | [], _ => rfl
  | o :: r, h => by
    simp only [List.map_cons, parseAll, (op_fine o (h o (by simp))).2.2, all_back r (fun q hq => h q (by simp [hq]))]
    rfl

theorem read_back (l : List (Int × Int)) (h : chk l = 0) : prE (opsText l) = 0 ∧ prL (opsText l) = l := by
  have h16 : l.length ≤ 16 := by
    unfold chk at h
    split at h
    · cases h
    · omega
  have hL : chkL l = 0 := by
    unfold chk at h
    split at h
    · cases h
    · exact h
  have hsz : ¬ 4000 < (opsText l).size := by
    have := opsText_len l h16 hL
    have e : (opsText l).size = (Lib.join ((l.map opText).map (·.data.toList)) [32]).length := by simp [opsText, ByteArray.size]
    omega
  have hp : parseAll (wordsOf (opsText l)) = some l := by
    rw [words_back l hL]
    exact all_back l (fun o ho => by
      obtain ⟨i, hi, rfl⟩ := List.getElem_of_mem ho
      exact chkL_all hL i hi)
  constructor
  · unfold prE; rw [if_neg hsz, hp]; exact h
  · unfold prL; rw [if_neg hsz, hp]; simp [h]

end Go.Proofs.YtadlakolpphgnaaGreatDoor
