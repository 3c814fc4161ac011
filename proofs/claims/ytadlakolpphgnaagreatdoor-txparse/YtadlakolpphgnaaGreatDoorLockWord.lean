/- The contract of what reads one order. -/
import Derived.Test.YtadlakolpphgnaaGreatDoorLockNum
namespace Go.Proofs.YtadlakolpphgnaaGreatDoor
open Go.RowKit

def kindOf (s : ByteArray) : Option Nat := [2, 3, 4, 5, 6, 7, 8, 9, 10, 11, 12, 13].find? (fun k => (nameB k).toList == s.toList)

/-- The order of a word. -/
def parseW (s : ByteArray) : Option (Int × Int) :=
  match numOf s with
  | some n => some (1, n)
  | none => (kindOf s).map fun k => ((k : Int), 0)

theorem kindOf_hit (s : ByteArray) (j : Nat) (h2 : 2 ≤ j) (hj : j ≤ 13) (hno : ∀ i, 2 ≤ i → i < j → ((nameB i).toList == s.toList) = false) (hy : ((nameB j).toList == s.toList) = true) : kindOf s = some j := by
  unfold kindOf
  rw [List.find?_eq_some_iff_getElem]
  refine ⟨hy, j - 2, by simp; omega, ?_, fun i hi => ?_⟩
  · have : ∀ m : Fin 12, [2, 3, 4, 5, 6, 7, 8, 9, 10, 11, 12, 13][m.val] = m.val + 2 := by decide
    have e := this ⟨j - 2, by omega⟩
    simp only at e
    rw [e]; omega
  · have : ∀ m : Fin 12, [2, 3, 4, 5, 6, 7, 8, 9, 10, 11, 12, 13][m.val] = m.val + 2 := by decide
    have e := this ⟨i, by omega⟩
    simp only at e
    rw [e, hno (i + 2) (by omega) (by omega)]; rfl
theorem kindOf_miss (s : ByteArray) (hno : ∀ i, 2 ≤ i → i < 14 → ((nameB i).toList == s.toList) = false) : kindOf s = none := by
  unfold kindOf
  rw [List.find?_eq_none]
  intro k hk
  have : 2 ≤ k ∧ k < 14 := by
    simp only [List.mem_cons, List.mem_nil_iff, or_false] at hk
    omega
  rw [hno k this.1 this.2]
  decide

theorem ret_word {a b : Int × Int} {v : Value} (h : a = b) : Ending.returned (.tuple #[.agg #[.int .i64 a.1, .int .i64 a.2], v]) = .returned (.tuple #[.agg #[.int .i64 b.1, .int .i64 b.2], v]) := by rw [h]

set_option maxHeartbeats 1600000 in
theorem parseOrder_num (s : ByteArray) (n : Int) (hs : s.size ≤ 4000) (hn : numOf s = some n) (w : World) (hE : EnvP w) :
    Calls Tryz.prog 88 #[.string s] w fun e w' => e = .returned (.tuple #[.agg #[.int .i64 1, .int .i64 n], .bool true]) ∧ Below w.heap.size w w' := by
  have hba : Below w.heap.size w (w.alloc (.cells #[.int .i64 0, .int .i64 0] 56)) := (Below.refl _ _).alloc (Nat.le_refl _) _
  have NP := hide (numParse_any s hs _ (hE.later hba))
  rw [hn] at NP
  have HBA := hide hba
  clear hE hn hba
  go_enter Tryz.func88, Tryz.ntmps88
  go_wp2_with fail
  refine (unhide NP).mono ?_
  rintro e w1 ⟨rfl, hb1⟩
  have hblk : w1.heap[w.heap.size]? = some (.cells #[.int .i64 0, .int .i64 0] 56 (0, 0)) := (hb1.block _ (by simp)).trans (heap_alloc_new _ _)
  have c0 : w1.cell? ⟨w.heap.size, 0, none⟩ = some (.int .i64 0) := cell_of_row _ _ 0 _ _ _ hblk
  have c1 : w1.cell? ⟨w.heap.size, 1, none⟩ = some (.int .i64 0) := cell_of_row _ _ 1 _ _ _ hblk
  have f0 : w1.frozen? ⟨w.heap.size, 0, none⟩ = false := frozen_of_row _ _ 0 _ _ hblk
  have f1 : w1.frozen? ⟨w.heap.size, 1, none⟩ = false := frozen_of_row _ _ 1 _ _ hblk
  have HB1 := hide (bel_tw (unhide HBA) hb1)
  clear hb1 hblk
  go_wp2
  (try simp only [Exit.inBlock, Exit.then])
  refine bodyPost_ret (v := .tuple #[.agg #[.int .i64 1, .int .i64 n], .bool true]) ?_ rfl ⟨rfl, ?_⟩
  · rw [results_cell_tmp rfl]
    go_simp
  · exact ((unhide HB1).setCell (Nat.le_refl _) _).setCell (Nat.le_refl _) _

set_option maxHeartbeats 3200000 in
theorem parseOrder_word (s : ByteArray) (hs : s.size ≤ 4000) (hn : numOf s = none) (w : World) (hE : EnvP w) :
    Calls Tryz.prog 88 #[.string s] w fun e w' => e = .returned (.tuple #[.agg #[.int .i64 ((parseW s).getD (0, 0)).1, .int .i64 ((parseW s).getD (0, 0)).2], .bool (parseW s).isSome]) ∧ Below w.heap.size w w' := by
  have hba : Below w.heap.size w (w.alloc (.cells #[.int .i64 0, .int .i64 0] 56)) := (Below.refl _ _).alloc (Nat.le_refl _) _
  have NP := hide (numParse_any s hs _ (hE.later hba))
  rw [hn] at NP
  have HN := hide hn
  have HE := hide hE
  have HBA := hide hba
  clear hE hn hba
  go_enter Tryz.func88, Tryz.ntmps88
  go_wp2_with fail
  refine (unhide NP).mono ?_
  rintro e w1 ⟨rfl, hb1⟩
  have hblk : w1.heap[w.heap.size]? = some (.cells #[.int .i64 0, .int .i64 0] 56 (0, 0)) := (hb1.block _ (by simp)).trans (heap_alloc_new _ _)
  have c0 : w1.cell? ⟨w.heap.size, 0, none⟩ = some (.int .i64 0) := cell_of_row _ _ 0 _ _ _ hblk
  have c1 : w1.cell? ⟨w.heap.size, 1, none⟩ = some (.int .i64 0) := cell_of_row _ _ 1 _ _ _ hblk
  have f0 : w1.frozen? ⟨w.heap.size, 0, none⟩ = false := frozen_of_row _ _ 0 _ _ hblk
  have f1 : w1.frozen? ⟨w.heap.size, 1, none⟩ = false := frozen_of_row _ _ 1 _ _ hblk
  have HB1 := hide (bel_tw (unhide HBA) hb1)
  clear hb1 hblk
  have HNM := hide ((unhide HE).later (unhide HB1)).env
  have hgl := (unhide HNM).lt
  go_wp2
  go_loop [6] (fun i => ∃ j : Nat, 2 ≤ j ∧ j ≤ 14 ∧ i = .int .i64 j ∧ ∀ m, 2 ≤ m → m < j → ((nameB m).toList == s.toList) = false) (fun i => 14 - (intOf i).toNat)
  case atStart => exact ⟨2, Nat.le_refl _, by decide, rfl, fun m h1 h2 => absurd h1 (by omega)⟩
  case round =>
    obtain ⟨j, hj2, hj14, rfl, hno⟩ := hrel
    have HNO := hide hno
    clear hno
    by_cases hlt : j ≤ 13
    · have cn := (unhide HNM).name j (by omega)
      have g14 : (j : Int) < 14 := by omega
      obtain ⟨x, hx⟩ : ∃ x, x = nameB j := ⟨_, rfl⟩
      rw [← hx] at cn
      have HX := hide hx
      clear hx
      by_cases hq : (x.toList == s.toList) = true
      · go_wp2
        (try simp only [Exit.inBlock, Exit.then])
        have e : parseW s = some ((j : Int), 0) := by
          have hk := kindOf_hit s j hj2 hlt (unhide HNO) (by rw [← unhide HX]; exact hq)
          unfold parseW; rw [unhide HN, hk]; rfl
        refine bodyPost_ret (v := .tuple #[.agg #[.int .i64 j, .int .i64 0], .bool true]) ?_ rfl ⟨?_, ?_⟩
        · rw [results_cell_tmp rfl]
          go_simp
        · rw [e]; rfl
        · exact ((unhide HB1).setCell (Nat.le_refl _) _).setCell (Nat.le_refl _) _
      · have hq' : (x.toList == s.toList) = false := by simpa using hq
        clear hq
        go_wp2
        go_round
        case rel =>
          refine ⟨j + 1, by omega, by omega, by go_num, fun m h1 h2 => ?_⟩
          by_cases hm : m = j
          · subst hm; rw [← unhide HX]; exact hq'
          · exact (unhide HNO) m h1 (by omega)
        case measure => simp [intOf]; omega
    · have e14 : j = 14 := by omega
      subst e14
      clear hlt
      go_wp2
      (try simp only [Exit.inBlock, Exit.then])
      have e : parseW s = none := by
        have hk := kindOf_miss s (unhide HNO)
        unfold parseW; rw [unhide HN, hk]; rfl
      refine bodyPost_ret (v := .tuple #[.agg #[.int .i64 0, .int .i64 0], .bool false]) ?_ rfl ⟨?_, ?_⟩
      · rw [results_cell_tmp rfl]
        go_simp
      · rw [e]; rfl
      · exact ((unhide HB1).setCell (Nat.le_refl _) _).setCell (Nat.le_refl _) _

theorem parseOrder_any (s : ByteArray) (hs : s.size ≤ 4000) (w : World) (hE : EnvP w) :
    Calls Tryz.prog 88 #[.string s] w fun e w' => e = .returned (.tuple #[.agg #[.int .i64 ((parseW s).getD (0, 0)).1, .int .i64 ((parseW s).getD (0, 0)).2], .bool (parseW s).isSome]) ∧ Below w.heap.size w w' := by
  cases hn : numOf s with
  | none => exact parseOrder_word s hs hn w hE
  | some n =>
    have e : parseW s = some (1, n) := by unfold parseW; rw [hn]
    rw [e]
    exact parseOrder_num s n hs hn w hE

end Go.Proofs.YtadlakolpphgnaaGreatDoor
