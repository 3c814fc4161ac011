/- The closed fact of the laws of tx: a transaction, there and back. -/
import Derived.Test.YtadlakolpphgnaaGreatDoorTxParse
import Derived.Test.YtadlakolpphgnaaGreatDoorTxPrintB
namespace Go.Proofs.YtadlakolpphgnaaGreatDoor
open Go.RowKit

def wB : ByteArray := ⟨#[116, 120, 32, 48, 10, 105, 110, 32, 51, 32, 49, 58, 55, 10, 111, 117, 116, 32, 53, 58, 55, 32, 115, 97, 109, 101, 10]⟩
def wI : InD := (3, 1, [(1, 7)])
def wO : OutD := (5, [(1, 7), (7, 0)])
theorem w_pE : pE wB = 0 := by decide +kernel
theorem w_pT : pT wB = (0, [wI], [wO]) := by
  rw [← sameT_iff]; decide +kernel
theorem w_chk : chkTx (0, [wI], [wO]) = 0 := by decide +kernel
theorem w_txT : txT (0, [wI], [wO]) = wB := by decide +kernel

set_option maxRecDepth 10000 in
set_option maxHeartbeats 3200000 in
theorem written_yes (w : World) (hE : EnvP w) :
    Calls Tryz.prog 7 #[] w fun e w' => e = .returned (.bool true) ∧ Below w.heap.size w w' := by
  have C := hide (txParse_any wB w hE)
  rw [w_pE, w_pT] at C
  have HE := hide hE
  clear hE
  go_enter Tryz.func7, Tryz.ntmps7
  go_wp2_with fail
  refine (unhide C).mono ?_
  rintro e w1 ⟨he, hb1⟩
  obtain ⟨v1, v2, rfl, hown⟩ := he
  obtain ⟨ai, ci, ao, co, rfl, rfl, hI, hO, sI, sO⟩ := hown.at
  have ba := bel_new w1 (.cells #[.int .i64 0, .slice ai 1 ci, .slice ao 1 co] 25)
  obtain ⟨n0, n1, n2⟩ := three_new w1 (.int .i64 0) (.slice ai 1 ci) (.slice ao 1 co) 25
  have P := hide (txPrint_is 0 ai ao 1 ci 1 co [wI] [wO] wB 0 _ ((unhide HE).later (bel_on hb1 ba)).env (hI.later ba) (hO.later ba) sI w_chk w_txT)
  have HI := hide (hI.later ba)
  have HO := hide (hO.later ba)
  have HN1 := hide n1
  have HN2 := hide n2
  have HB1 := hide (bel_on hb1 ba)
  clear hb1 hown hI hO sI sO ba n0 n1 n2
  simp only [List.length_cons, List.length_nil]
  go_wp2_with fail
  refine (unhide P).mono ?_
  rintro e w2 ⟨rfl, hb2⟩
  have m1 := cell_later hb2 (unhide HN1)
  have m2 := cell_later hb2 (unhide HN2)
  have hs2 : w1.heap.size < w2.heap.size := World.block_lt_of_cell? _ _ m1
  obtain ⟨bi, oi, rfl, _, hci⟩ := ((unhide HI).later hb2).2 (by decide)
  obtain ⟨bo, oo, rfl, _, hco⟩ := ((unhide HO).later hb2).2 (by decide)
  obtain ⟨i1, i2, _⟩ := hci 0 (by decide)
  obtain ⟨o1, _⟩ := hco 0 (by decide)
  simp only [Nat.zero_mul, Nat.add_zero] at i1 i2 o1
  change w2.cell? ⟨bi, oi, none⟩ = some (.int .i64 3) at i1
  change w2.cell? ⟨bi, oi + 1, none⟩ = some (.int .i64 1) at i2
  change w2.cell? ⟨bo, oo, none⟩ = some (.int .i64 5) at o1
  have HB2 := hide (bel_on (unhide HB1) hb2)
  clear hb2 hci hco
  have gw : (wB.toList == [116, 120, 32, 48, 10, 105, 110, 32, 51, 32, 49, 58, 55, 10, 111, 117, 116, 32, 53, 58, 55, 32, 115, 97, 109, 101, 10]) = true := by decide +kernel
  go_wp2
  go_ret
  exact ⟨rfl, unhide HB2⟩

end Go.Proofs.YtadlakolpphgnaaGreatDoor
