/- The walk of the law TxParse: it returns true, whatever the text. -/
import Derived.Test.YtadlakolpphgnaaGreatDoorRefRtC
import Derived.Test.YtadlakolpphgnaaGreatDoorRefSameToRefSameU
import Derived.Test.YtadlakolpphgnaaGreatDoorTxWritten
namespace Go.Proofs.YtadlakolpphgnaaGreatDoor
open Go.RowKit

theorem readTx_any (s : ByteArray) (hs : s.size ≤ 4000) (w : World) (hE : EnvF w) :
    Calls Tryz.prog 13 #[.string s] w fun e w' => TxIs w.heap.size w' e (pT s) (pE s) ∧ Below w.heap.size w w' := by
  cases hn : endsB s with
  | false => exact readTx_open s hs hn w hE
  | true => exact readTx_ended s hs hn w hE

/-- What is read, as its fields. -/
theorem txIs_at {B : Nat} {w' : World} {e : Ending} {t : TxD} {x : Int} (h : TxIs B w' e t x) : ∃ ai ni ci ao no co, e = .returned (.tuple #[.agg #[.int .i64 t.1, .slice ai ni ci, .slice ao no co], .int .i64 x]) ∧ InsAt w' ai ni t.2.1 ∧ OutsAt w' ao no t.2.2 ∧ ni ≤ maxLen ∧ no ≤ maxLen := by
  obtain ⟨v1, v2, he, ho⟩ := h
  obtain ⟨ai, ci, ao, co, rfl, rfl, hI, hO, sI, sO⟩ := ho.at
  exact ⟨ai, _, ci, ao, _, co, he, hI, hO, sI.len, sO.len⟩

set_option maxRecDepth 10000 in
set_option maxHeartbeats 3200000 in
theorem tparse_long (s : ByteArray) (hs : 4000 < s.size) (w : World) (hE : EnvF w) :
    Calls Tryz.prog 4 #[.string s] w fun e w' => e = .returned (.bool true) ∧ Below w.heap.size w w' := by
  have e1 : pE s = 2 := by unfold pE; rw [if_pos hs]
  have e2 : pT s = (0, [], []) := by unfold pT; rw [if_neg (by rw [e1]; decide)]
  have TP := txParse_any s w hE.envp
  rw [e1, e2] at TP
  have HTP := hide TP
  have HE := hide hE
  have g : (4000 : Int) < (s.size : Int) := by omega
  clear TP e1 e2 hE
  go_enter Tryz.func4, Tryz.ntmps4
  go_wp2_with fail
  refine (unhide HTP).mono ?_
  rintro e w2 ⟨hti, hb2⟩
  obtain ⟨ai, ni, ci, ao, no, co, rfl, hI, hO, li, lo⟩ := txIs_at hti
  simp only at hI hO ⊢
  have hb3 := bel_new w2 (.cells #[.int .i64 0, .slice ai ni ci, .slice ao no co] 25)
  have cx := three_new w2 (.int .i64 0) (.slice ai ni ci) (.slice ao no co) 25
  obtain ⟨X, hX⟩ : ∃ X, X = w2.alloc (.cells #[.int .i64 0, .slice ai ni ci, .slice ao no co] 25) := ⟨_, rfl⟩
  rw [← hX] at hb3 cx
  have HBX := hide (bel_on hb2 hb3)
  have CX := hide cx
  have HI := hide (hI.later hb3)
  have HO := hide (hO.later hb3)
  have WR := hide (written_yes X ((unhide HE).later (unhide HBX)).envp)
  clear hti hb2 hb3 cx hI hO
  go_wp2_with fail
  rw [← hX]
  clear hX
  refine (unhide WR).mono ?_
  rintro e w4 ⟨rfl, hb4⟩
  have HB4 := hide hb4
  have WR2 := hide (written_yes w4 ((unhide HE).later (bel_on (unhide HBX) hb4)).envp)
  clear hb4
  go_wp2_with fail
  refine (unhide WR2).mono ?_
  rintro e w5 ⟨rfl, hb5⟩
  have b45 := bel_on (unhide HB4) hb5
  have c0 := cell_later b45 (unhide CX).1
  have c1 := cell_later b45 (unhide CX).2.1
  have c2 := cell_later b45 (unhide CX).2.2
  have l5 : w2.heap.size < w5.heap.size := World.block_lt_of_cell? _ _ c0
  have RS := hide (rsameTx_is 0 0 ai ao none none ni ci no co 0 0 0 0 [] [] [] [] true w5 li lo ((unhide HI).later b45) ((unhide HO).later b45) (RowsAt.nil _ _) (RowsAt.nil _ _) rfl)
  have HB5 := hide (bel_on (unhide HBX) b45)
  clear hb5 b45
  go_wp2_with fail
  refine (unhide RS).mono ?_
  rintro e w6 ⟨rfl, hb6⟩
  have HB6 := hide (bel_on (unhide HB5) hb6)
  clear hb6
  go_wp2
  go_ret
  exact ⟨rfl, unhide HB6⟩

set_option maxRecDepth 10000 in
set_option maxHeartbeats 3200000 in
theorem tparse_short (s : ByteArray) (hs : s.size ≤ 4000) (w : World) (hE : EnvF w) :
    Calls Tryz.prog 4 #[.string s] w fun e w' => e = .returned (.bool true) ∧ Below w.heap.size w w' := by
  have TP := txParse_any s w hE.envp
  have RD : Hid (∀ w', Below w.heap.size w w' → Calls Tryz.prog 13 #[.string s] w' fun e w2 => TxIs w'.heap.size w2 e (pT s) (pE s) ∧ Below w'.heap.size w' w2) := fun w' hb => readTx_any s hs w' (hE.later hb)
  obtain ⟨t, ht⟩ : ∃ t, pT s = t := ⟨_, rfl⟩
  obtain ⟨x, hx⟩ : ∃ x, pE s = x := ⟨_, rfl⟩
  rw [ht, hx] at TP RD
  obtain ⟨h, I, O⟩ := t
  have HTP := hide TP
  have HE := hide hE
  have g : ¬ (4000 : Int) < (s.size : Int) := by omega
  have gx : (x == x) = true := by simp
  clear TP hE ht hx
  go_enter Tryz.func4, Tryz.ntmps4
  go_wp2_with fail
  refine (unhide HTP).mono ?_
  rintro e w2 ⟨hti, hb2⟩
  obtain ⟨ai, ni, ci, ao, no, co, rfl, hI, hO, li, lo⟩ := txIs_at hti
  simp only at hI hO ⊢
  have hb3 := bel_new w2 (.cells #[.int .i64 h, .slice ai ni ci, .slice ao no co] 25)
  have cx := three_new w2 (.int .i64 h) (.slice ai ni ci) (.slice ao no co) 25
  obtain ⟨X, hX⟩ : ∃ X, X = w2.alloc (.cells #[.int .i64 h, .slice ai ni ci, .slice ao no co] 25) := ⟨_, rfl⟩
  rw [← hX] at hb3 cx
  have HBX := hide (bel_on hb2 hb3)
  have CX := hide cx
  have HI := hide (hI.later hb3)
  have HO := hide (hO.later hb3)
  have WR := hide (written_yes X ((unhide HE).later (unhide HBX)).envp)
  clear hti hb2 hb3 cx hI hO
  go_wp2_with fail
  rw [← hX]
  clear hX
  refine (unhide WR).mono ?_
  rintro e w4 ⟨rfl, hb4⟩
  have HB4 := hide hb4
  have RD4 := hide ((unhide RD) w4 (bel_on (unhide HBX) hb4))
  clear hb4
  go_wp2_with fail
  refine (unhide RD4).mono ?_
  rintro e w5 ⟨hti, hb5⟩
  obtain ⟨bi, mi, di, bo, mo, eo, rfl, hI', hO', -, -⟩ := txIs_at hti
  simp only at hI' hO' ⊢
  have b45 := bel_on (unhide HB4) hb5
  have hb6 := bel_new w5 (.cells #[.int .i64 h, .slice bi mi di, .slice bo mo eo] 25)
  have c0 := cell_later b45 (unhide CX).1
  have c1 := cell_later b45 (unhide CX).2.1
  have c2 := cell_later b45 (unhide CX).2.2
  have l5 : w2.heap.size < w5.heap.size := World.block_lt_of_cell? _ _ c0
  have b46 := bel_on b45 hb6
  have RS := hide (rsameTx_is h h ai ao bi bo ni ci no co mi di mo eo I I O O true _ li lo ((unhide HI).later b46) ((unhide HO).later b46) (hI'.later hb6) (hO'.later hb6) (sameT_self _))
  have HB6 := hide (bel_on (unhide HBX) b46)
  clear hb5 b45 b46 hb6 hti hI' hO'
  go_wp2_with fail
  refine (unhide RS).mono ?_
  rintro e w7 ⟨rfl, hb7⟩
  have HB7 := hide (bel_on (unhide HB6) hb7)
  clear hb7
  go_wp2
  go_ret
  exact ⟨rfl, unhide HB7⟩

theorem txParse_law (s : ByteArray) (w : World) (hE : EnvF w) :
    Calls Tryz.prog 4 #[.string s] w fun e w' => e = .returned (.bool true) ∧ Below w.heap.size w w' := by
  by_cases hs : 4000 < s.size
  · exact tparse_long s hs w hE
  · exact tparse_short s (by omega) w hE

end Go.Proofs.YtadlakolpphgnaaGreatDoor
