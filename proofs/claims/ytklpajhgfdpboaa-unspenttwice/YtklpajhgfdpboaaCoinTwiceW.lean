/- The law UnspentTwice: what it answers. -/
import Derived.Test.YtklpajhgfdpboaaCoinAny
namespace Go.Proofs.Ytklpajhgfdpboaa
open Go.RowKit

set_option maxHeartbeats 800000 in
theorem twice1_is (name : Int) (b : Nat) (y : InD) (ka : Option Addr) (kn kc : Nat) (w : World) (h : w.cell? ⟨b, 0, none⟩ = some (.int .i64 name)) :
    Calls Try.prog 19 #[.agg #[.int .i64 y.1, .int .i64 y.2.1, .slice ka kn kc], .pointer (some ⟨b, 0, none⟩)] w fun e w' => e = .returned (.bool (decide (y.1 = name))) ∧ Below w.heap.size w w' := by
  have HB := hide (bel_new w (.cells #[.int .i64 y.1, .int .i64 y.2.1, .slice ka kn kc] 54))
  have hb := World.block_lt_of_cell? _ _ h
  by_cases e : y.1 = name
  · have g : (y.1 == name) = true := by simp [e]
    rw [decide_eq_true e]
    clear e
    go_enter Try.func19, Try.ntmps19
    go_wp2
    go_ret
    exact ⟨by rw [← g]; rfl, unhide HB⟩
  · have g : (y.1 == name) = false := by simp [e]
    rw [decide_eq_false e]
    clear e
    go_enter Try.func19, Try.ntmps19
    go_wp2
    go_ret
    exact ⟨by rw [← g]; rfl, unhide HB⟩

set_option maxRecDepth 10000 in
set_option maxHeartbeats 800000 in
theorem twice21_is (x y : InD) (b : Nat) (ka : Option Addr) (kn kc : Nat) (w : World) (h0 : w.cell? ⟨b, 0, none⟩ = some (.int .i64 x.1)) (h1 : w.cell? ⟨b, 1, none⟩ = some (.int .i64 x.2.1)) :
    Calls Try.prog 21 #[.agg #[.int .i64 y.1, .int .i64 y.2.1, .slice ka kn kc], .pointer (some ⟨b, 0, none⟩)] w fun e w' => e = .returned (.bool (sameP2 x y)) ∧ Below w.heap.size w w' := by
  have HB := hide (bel_new w (.cells #[.int .i64 y.1, .int .i64 y.2.1, .slice ka kn kc] 54))
  have hb := World.block_lt_of_cell? _ _ h0
  obtain ⟨x1, x2, x3⟩ := x
  obtain ⟨y1, y2, y3⟩ := y
  simp only at h0 h1 HB ⊢
  unfold sameP2
  simp only
  by_cases e1 : y1 = x1
  · subst e1
    by_cases e2 : y2 = x2
    · subst e2
      rw [decide_eq_true ⟨rfl, rfl⟩]
      go_enter Try.func21, Try.ntmps21
      go_wp2
      go_ret
      exact ⟨rfl, unhide HB⟩
    · rw [decide_eq_false (fun q => e2 q.2)]
      go_enter Try.func21, Try.ntmps21
      go_wp2
      go_ret
      exact ⟨rfl, unhide HB⟩
  · rw [decide_eq_false (fun q => e1 q.1)]
    go_enter Try.func21, Try.ntmps21
    go_wp2
    go_ret
    exact ⟨rfl, unhide HB⟩

set_option maxRecDepth 10000 in
set_option maxHeartbeats 800000 in
theorem twice2_is (ai : Option Addr) (ni ci : Nat) (I : List InD) (x : InD) (b : Nat) (ka : Option Addr) (kn kc : Nat) (w : World) (hI : InsAt w ai ni I) (hn : ni ≤ maxLen) (h1 : w.cell? ⟨b, 1, none⟩ = some (.slice ai ni ci)) :
    Calls Try.prog 20 #[.agg #[.int .i64 x.1, .int .i64 x.2.1, .slice ka kn kc], .pointer (some ⟨b, 0, none⟩)] w fun e w' => e = .returned (.bool (I.any (sameP2 x))) ∧ Below w.heap.size w w' := by
  obtain ⟨X, hX⟩ : ∃ X, X = w.alloc (.cells #[.int .i64 x.1, .int .i64 x.2.1, .slice ka kn kc] 54) := ⟨_, rfl⟩
  have hbX : Below w.heap.size w X := by rw [hX]; exact bel_new _ _
  have hX1 : X.heap[w.heap.size]? = some (.cells [.int .i64 x.1, .int .i64 x.2.1, .slice ka kn kc].toArray 54 (0, 0)) := by rw [hX]; exact three_heap _ _ _ _ _
  have C := hide (contains_twice21 (sameP2 x) (.pointer (some ⟨w.heap.size, 0, none⟩)) ai ni ci I _ X hn (hI.later hbX) (fun wr hb y ka kn kc => twice21_is x y w.heap.size ka kn kc wr (cell_later hb (cell_of hX1 0 _ rfl)) (cell_later hb (cell_of hX1 1 _ rfl))) rfl)
  have hb := World.block_lt_of_cell? _ _ h1
  have HBX := hide hbX
  clear hI hbX hX1 hn
  go_enter Try.func20, Try.ntmps20
  go_wp2_with fail
  rw [← hX]
  clear hX
  refine (unhide C).mono ?_
  rintro e w2 ⟨rfl, hb2⟩
  have HB2 := hide (bel_on (unhide HBX) hb2)
  clear hb2
  go_wp2
  go_ret
  exact ⟨rfl, unhide HB2⟩

end Go.Proofs.Ytklpajhgfdpboaa
