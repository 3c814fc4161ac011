/- The walks of the laws of books. -/
import Derived.Test.YtfbckhaimobbmaaBookRefA
namespace Go.Proofs.Ytfbckhaimobbmaa
open Go.RowKit Go.Maps

def bA : ByteArray := ⟨#[97]⟩
def bB : ByteArray := ⟨#[98]⟩

theorem three_texts (w : World) (x y z : ByteArray) : TextsAt (w.alloc (.cells #[.string x, .string y, .string z] 9)) (some ⟨w.heap.size, 0, none⟩) 3 [x, y, z] := by
  refine ⟨rfl, fun _ => ⟨w.heap.size, 0, rfl, fun i hi => ?_⟩⟩
  rw [Nat.zero_add, World.cell?_alloc_at _ _ _ _ rfl]
  have h : i = 0 ∨ i = 1 ∨ i = 2 := by simp at hi; omega
  rcases h with rfl | rfl | rfl <;> rfl
theorem three_ints (w : World) (x y z : Int) : IntsAt (w.alloc (.cells #[.int .i64 x, .int .i64 y, .int .i64 z] 3)) (some ⟨w.heap.size, 0, none⟩) 3 [x, y, z] := by
  refine ⟨rfl, fun _ => ⟨w.heap.size, 0, rfl, fun i hi => ?_⟩⟩
  rw [Nat.zero_add, World.cell?_alloc_at _ _ _ _ rfl]
  have h : i = 0 ∨ i = 1 ∨ i = 2 := by simp at hi; omega
  rcases h with rfl | rfl | rfl <;> rfl

set_option maxRecDepth 10000 in
set_option maxHeartbeats 1600000 in
theorem booked_yes (w : World) : Calls Try.prog 9 #[] w fun e w' => e = .returned (.bool true) ∧ Below w.heap.size w w' := by
  have hb1 := bel_new w (.cells #[.string bA, .string bB, .string bA] 9)
  have AL := hide (all_is none (some ⟨w.heap.size, 0, none⟩) 0 0 3 3 [] [bA, bB, bA] [bA, bB] [1, 2, 1] 0 _ (TextsAt.nil _ none) (three_texts w bA bB bA) (by decide) (by decide))
  have HB := hide hb1
  clear hb1
  go_enter Try.func9, Try.ntmps9
  go_wp2_with fail
  refine (unhide AL).mono ?_
  rintro e w2 ⟨⟨a', n', c', a2, n2, c2, rfl, t1, t2, t3, -⟩, hb2⟩
  have hb3 := bel_new w2 (.cells #[.slice a' n' c'] 24)
  have LK := hide (look_is a' n' c' [bA, bB] 2 _ (t1.later hb3) (by decide))
  have HB3 := hide (bel_on (bel_on (unhide HB) hb2) hb3)
  have I3 := hide (t3.later hb3)
  clear t1 t2 t3 hb2 hb3
  go_wp2_with fail
  refine (unhide LK).mono ?_
  rintro e w4 ⟨rfl, hb4⟩
  have e1 : lookT [bA, bB] 2 = ⟨#[98]⟩ := by decide
  have e2 : lookE [bA, bB] 2 = 0 := by decide
  rw [e1, e2]
  have HB4 := hide (bel_on (unhide HB3) hb4)
  have hb5 := bel_new w4 (.cells #[.int .i64 1, .int .i64 2, .int .i64 1] 3)
  have hn2 : n2 = 3 := (unhide I3).1.symm
  have EQ := hide (eqInt_is a2 (some ⟨w4.heap.size, 0, none⟩) n2 3 c2 3 [1, 2, 1] [1, 2, 1] true _ (by unfold maxLen; omega) (((unhide I3).later hb4).later hb5) (three_ints w4 1 2 1) rfl)
  have HB5 := hide (bel_on (unhide HB4) hb5)
  clear hb4 hb5 e1 e2 hn2
  go_wp2_with fail
  refine (unhide EQ).mono ?_
  rintro e w6 ⟨rfl, hb6⟩
  have HB6 := hide (bel_on (unhide HB5) hb6)
  clear hb6
  go_wp2
  go_ret
  exact ⟨rfl, unhide HB6⟩

set_option maxRecDepth 10000 in
set_option maxHeartbeats 3200000 in
theorem names_bad (a al : Option Addr) (n c nl cl : Nat) (L l : List ByteArray) (s : ByteArray) (m x : Int) (w : World) (h : TextsAt w a n L) (hl : TextsAt w al nl l) (hnl : nl ≤ 17592186044416) (hx : bkChk L = x) (h0 : x ≠ 0) :
    Calls Try.prog 3 #[.agg #[.slice a n c], .string s, .slice al nl cl, .int .i64 m] w fun e w' => e = .returned (.bool true) ∧ Below w.heap.size w w' := by
  have hb1 := bel_new w (.cells #[.slice a n c] 24)
  have c0 := one_new w (.slice a n c) 24
  have en : nameR L s = ([], 0, x) := by unfold nameR; rw [if_neg (by rw [hx]; exact h0), hx]
  have ea : allR L l = ([], [], x) := by unfold allR; rw [if_neg (by rw [hx]; exact h0), hx]
  obtain ⟨W, hW⟩ : ∃ W, W = w.alloc (.cells #[.slice a n c] 24) := ⟨_, rfl⟩
  rw [← hW] at hb1 c0
  have HT := hide (h.later hb1)
  have HL := hide (hl.later hb1)
  have HB := hide hb1
  have C0 := hide c0
  have HN := hide (name_any a n c L [] s 0 x W (unhide HT) en)
  have g : (x != 0) = true := by simp [h0]
  have g2 : (x == 0) = false := by simp [h0]
  clear h hl hb1 c0 en
  go_enter Try.func3, Try.ntmps3
  go_wp2_with fail
  rw [← hW]
  clear hW
  refine (unhide HN).mono ?_
  rintro e w2 ⟨⟨a2, n2, c2, rfl, t2, -⟩, hb2⟩
  have z2 : n2 = 0 := t2.1.symm
  subst z2
  have hb3 := bel_new w2 (.cells #[.slice a2 0 c2] 24)
  have bW3 := bel_on hb2 hb3
  have c3 := cell_later bW3 (unhide C0)
  have l3 : w.heap.size < (w2.alloc (.cells #[.slice a2 0 c2] 24)).heap.size := World.block_lt_of_cell? _ _ c3
  have y3 := one_new w2 (.slice a2 0 c2) 24
  obtain ⟨X, hX⟩ : ∃ X, X = w2.alloc (.cells #[.slice a2 0 c2] 24) := ⟨_, rfl⟩
  rw [← hX] at bW3 c3 l3 y3 hb3
  have q2 : w2.heap.size < X.heap.size := World.block_lt_of_cell? _ _ y3
  have p2 := cell_later hb2 (unhide C0)
  have r2 : w.heap.size < w2.heap.size := World.block_lt_of_cell? _ _ p2
  have AL := hide (all_is a al n c nl cl L l [] [] x X ((unhide HT).later bW3) ((unhide HL).later bW3) hnl ea)
  have BW3 := hide bW3
  have C3 := hide c3
  have Y3 := hide y3
  clear hb2 hb3 bW3 t2 ea
  go_wp2_with fail
  rw [← hX]
  clear hX
  refine (unhide AL).mono ?_
  rintro e w4 ⟨⟨a4, n4, c4, a5, n5, c5, rfl, t4, -, t5, -⟩, hb4⟩
  have z4 : n4 = 0 := t4.1.symm
  have z5 : n5 = 0 := t5.1.symm
  subst z4 z5
  have hb5 := bel_new w4 (.cells #[.slice a4 0 c4] 24)
  have bX5 := bel_on hb4 hb5
  have bW5 := bel_on (unhide BW3) bX5
  have c6 := cell_later bX5 (unhide C3)
  have y6 := cell_later bX5 (unhide Y3)
  have v6 := one_new w4 (.slice a4 0 c4) 24
  obtain ⟨Y, hY⟩ : ∃ Y, Y = w4.alloc (.cells #[.slice a4 0 c4] 24) := ⟨_, rfl⟩
  rw [← hY] at c6 y6 v6 bW5 bX5
  have p4 := cell_later hb4 (unhide C3)
  have r4 : w.heap.size < w4.heap.size := World.block_lt_of_cell? _ _ p4
  clear p2
  have LK := hide (look_bad a n c L m Y ((unhide HT).later bW5) x hx h0)
  have BW5 := hide bW5
  have C6 := hide c6
  have Y6 := hide y6
  have V6 := hide v6
  have l6 : w.heap.size < Y.heap.size := World.block_lt_of_cell? _ _ c6
  clear hb4 hb5 bX5 bW5 t4 t5 c3 y3 l3
  go_wp2_with fail
  rw [← hY]
  clear hY
  refine (unhide LK).mono ?_
  rintro e w7 ⟨rfl, hb7⟩
  have bW7 := bel_on (unhide BW5) hb7
  have c7 := cell_later hb7 (unhide C6)
  have y7 := cell_later hb7 (unhide Y6)
  have v7 := cell_later hb7 (unhide V6)
  have l7 : w.heap.size < w7.heap.size := World.block_lt_of_cell? _ _ c7
  have RC := hide (rcheck_is a n c L w7 ((unhide HT).later bW7) x hx)
  have BW7 := hide bW7
  have C7 := hide c7
  have Y7 := hide y7
  have V7 := hide v7
  clear hb7 bW7 c6 y6 v6 l6 y7 v7
  go_wp2_with fail
  refine (unhide RC).mono ?_
  rintro e w8 ⟨rfl, hb8⟩
  have BK := hide (booked_yes w8)
  have BW8 := hide (bel_on (unhide BW7) hb8)
  have C8 := hide (cell_later hb8 (unhide C7))
  have Y8 := hide (cell_later hb8 (unhide Y7))
  have V8 := hide (cell_later hb8 (unhide V7))
  clear hb8 c7 l7
  go_wp2_with fail
  refine (unhide BK).mono ?_
  rintro e w9 ⟨rfl, hb9⟩
  have bW9 := bel_on (unhide BW8) hb9
  have c9 := cell_later hb9 (unhide C8)
  have Y9 := hide (cell_later hb9 (unhide Y8))
  have V9 := hide (cell_later hb9 (unhide V8))
  have l9 : w.heap.size < w9.heap.size := World.block_lt_of_cell? _ _ c9
  have CK := hide (check_is a n c L w9 ((unhide HT).later bW9) x hx)
  have BW9 := hide bW9
  have C9 := hide c9
  clear hb9 bW9
  go_wp2_with fail
  refine (unhide CK).mono ?_
  rintro e w10 ⟨rfl, hb10⟩
  have BW10 := hide (bel_on (unhide BW9) hb10)
  have y10 := cell_later hb10 (unhide Y9)
  have v10 := cell_later hb10 (unhide V9)
  have l10 : w2.heap.size < w10.heap.size := World.block_lt_of_cell? _ _ y10
  have l11 : w4.heap.size < w10.heap.size := World.block_lt_of_cell? _ _ v10
  have gx : (x != x) = false := by simp
  have gy : (x == x) = true := by simp
  clear hb10 c9 l9
  go_wp2
  go_ret
  exact ⟨rfl, bel_on (unhide HB) (unhide BW10)⟩

end Go.Proofs.Ytfbckhaimobbmaa
