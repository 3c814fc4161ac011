/- The contract of Parse of transactions: its error, and what a text says. -/
import Derived.Test.YtadlakolpphgnaaGreatDoorTxLinesB
import Derived.Test.YtadlakolpphgnaaGreatDoorTxLinesC
namespace Go.Proofs.YtadlakolpphgnaaGreatDoor
open Go.RowKit

theorem parseLines_any (s : ByteArray) (hs : s.size ≤ 4000) (w : World) (hE : EnvP w) :
    Calls Tryz.prog 30 #[.string s] w fun e w' => LinesIs w.heap.size w' e (linesTx s) ∧ Below w.heap.size w w' := by
  cases hen : endsB s with
  | false =>
    have e : linesTx s = none := by unfold linesTx; rw [hen]; rfl
    rw [e]
    exact lines_bad s hs w hE _ rfl (Or.inl hen)
  | true =>
    cases hr : rowOf ((linesOf s).getD 0 ⟨#[]⟩) txB 1 with
    | none =>
      have e : linesTx s = none := by unfold linesTx; rw [hen, hr]; rfl
      rw [e]
      exact lines_bad s hs w hE _ hr (Or.inr rfl)
    | some Z =>
      obtain ⟨h, rfl⟩ := List.length_eq_one_iff.1 (rowOf_len hr)
      have e : linesTx s = foldTx (h, [], []) ((linesOf s).drop 1) := by unfold linesTx; rw [hen, hr]; rfl
      rw [e]
      have hpos : 0 < (linesOf s).length := spl_pos 10 (bodyB s)
      by_cases h1 : (linesOf s).length = 1
      · have e2 : (linesOf s).drop 1 = [] := List.drop_of_length_le (by omega)
        rw [e2]
        exact lines_one s hs w hE h hr hen h1
      · exact lines_good s hs w hE h hr hen (by omega)

/-- What Parse answers: its error, and the transaction. -/
def pE (s : ByteArray) : Int := if 4000 < s.size then 2 else match linesTx s with | none => 1 | some t => chkTx t
def pT (s : ByteArray) : TxD := if pE s = 0 then (linesTx s).getD (0, [], []) else (0, [], [])

/-- The answer in memory. -/
def TxIs (B : Nat) (w' : World) (e : Ending) (t : TxD) (x : Int) : Prop := ∃ v1 v2, e = .returned (.tuple #[.agg #[.int .i64 t.1, v1, v2], .int .i64 x]) ∧ TxOwn B w' v1 v2 t.2.1 t.2.2

set_option maxRecDepth 10000 in
set_option maxHeartbeats 1600000 in
theorem txParse_long (s : ByteArray) (hs : 4000 < s.size) (w : World) :
    Calls Tryz.prog 12 #[.string s] w fun e w' => TxIs w.heap.size w' e (0, [], []) 2 ∧ Below w.heap.size w w' := by
  have g : (4000 : Int) < (s.size : Int) := by omega
  have HB := hide (bel_new w resO)
  go_enter Tryz.func12, Tryz.ntmps12
  go_wp2
  (try simp only [Exit.inBlock, Exit.then])
  refine bodyPost_ret (v := .tuple #[.agg #[.int .i64 0, .slice none 0 0, .slice none 0 0], .int .i64 2]) ?_ rfl ⟨⟨_, _, rfl, TxOwn.nil _ _⟩, ?_⟩
  · rw [results_cell_tmp rfl]
    go_simp
  · first
      | exact unhide HB
      | exact (((unhide HB).setCell (Nat.le_refl _) _).setCell (Nat.le_refl _) _).setCell (Nat.le_refl _) _
      | exact bel_new w _

set_option maxRecDepth 10000 in
set_option maxHeartbeats 3200000 in
theorem txParse_text (s : ByteArray) (hs : s.size ≤ 4000) (hn : linesTx s = none) (w : World) (hE : EnvP w) :
    Calls Tryz.prog 12 #[.string s] w fun e w' => TxIs w.heap.size w' e (0, [], []) 1 ∧ Below w.heap.size w w' := by
  have g : ¬ (4000 : Int) < (s.size : Int) := by omega
  have bq := bel_new w resO
  have C := hide (parseLines_any s hs (w.alloc resO) (hE.later bq))
  rw [hn] at C
  have HQ : Hid ((w.alloc resO).heap[w.heap.size]? = some (.cells #[.int .i64 0, .slice none 0 0, .slice none 0 0] 25 (0, 0))) := heap_alloc_new _ _
  have HBQ := hide bq
  clear hE bq hn
  go_enter Tryz.func12, Tryz.ntmps12
  go_wp2_with fail
  refine (unhide C).mono ?_
  rintro e w2 ⟨he, hb2⟩
  change e = _ at he
  subst he
  obtain ⟨⟨q0, q1, q2⟩, qf⟩ := block_cells3 ((hb2.block _ (by simp)).trans (unhide HQ))
  have f0 := qf 0
  have f1 := qf 1
  have f2 := qf 2
  have hq2 : w.heap.size < w2.heap.size := World.block_lt_of_cell? _ _ q0
  have HB2 := hide (bel_on (unhide HBQ) hb2)
  clear hb2 qf
  go_wp2
  (try simp only [Exit.inBlock, Exit.then])
  refine bodyPost_ret (v := .tuple #[.agg #[.int .i64 0, .slice none 0 0, .slice none 0 0], .int .i64 1]) ?_ rfl ⟨⟨_, _, rfl, TxOwn.nil _ _⟩, ?_⟩
  · rw [results_cell_tmp rfl]
    go_simp
  · exact ((((unhide HB2).setCell (Nat.le_refl _) _).setCell (Nat.le_refl _) _).setCell (Nat.le_refl _) _).alloc (by simp; omega) _

set_option maxRecDepth 10000 in
set_option maxHeartbeats 3200000 in
theorem txParse_some (s : ByteArray) (hs : s.size ≤ 4000) (h : Int) (I : List InD) (O : List OutD) (hn : linesTx s = some (h, I, O)) (w : World) (hE : EnvP w) :
    Calls Tryz.prog 12 #[.string s] w fun e w' => TxIs w.heap.size w' e (if chkTx (h, I, O) = 0 then (h, I, O) else (0, [], [])) (chkTx (h, I, O)) ∧ Below w.heap.size w w' := by
  have g : ¬ (4000 : Int) < (s.size : Int) := by omega
  have bq := bel_new w resO
  have C := hide (parseLines_any s hs (w.alloc resO) (hE.later bq))
  rw [hn] at C
  have HQ : Hid ((w.alloc resO).heap[w.heap.size]? = some (.cells #[.int .i64 0, .slice none 0 0, .slice none 0 0] 25 (0, 0))) := heap_alloc_new _ _
  have HBQ := hide bq
  have esz : w.heap.size ≤ (w.alloc resO).heap.size := by simp
  clear hE bq hn
  by_cases hx : chkTx (h, I, O) = 0
  · rw [if_pos hx, hx]
    have HX := hide hx
    clear hx
    go_enter Tryz.func12, Tryz.ntmps12
    go_wp2_with fail
    refine (unhide C).mono ?_
    rintro e w2 ⟨he, hb2⟩
    obtain ⟨v1, v2, rfl, hown⟩ := he
    have hown' := hown.base esz
    obtain ⟨ai, ci, ao, co, rfl, rfl, hI, hO, sI, sO⟩ := hown'.at
    have ba := bel_new w2 (.cells #[.int .i64 h, .slice ai I.length ci, .slice ao O.length co] 25)
    have CK := hide (txCheck_any h ai ao I.length ci O.length co I O _ (hI.later ba) (hO.later ba) sI)
    rw [unhide HX] at CK
    obtain ⟨n0, n1, n2⟩ := three_new w2 (.int .i64 h) (.slice ai I.length ci) (.slice ao O.length co) 25
    have HQ2 := hide ((ba.block _ (by have := hb2.size; simp at this; omega)).trans ((hb2.block _ (by simp)).trans (unhide HQ)))
    have HOW := hide (hown'.later ba)
    have HN0 := hide n0
    have HN1 := hide n1
    have HN2 := hide n2
    have HB2 := hide (bel_on (bel_on (unhide HBQ) hb2) ba)
    clear hb2 hown hown' hI hO sI sO ba n0 n1 n2
    go_wp2_with fail
    refine (unhide CK).mono ?_
    rintro e w3 ⟨rfl, hb3⟩
    have m0 := cell_later hb3 (unhide HN0)
    have m1 := cell_later hb3 (unhide HN1)
    have m2 := cell_later hb3 (unhide HN2)
    have hQ3 := (hb3.block _ (lt_of_block (unhide HQ2))).trans (unhide HQ2)
    obtain ⟨⟨q0, q1, q2⟩, qf⟩ := block_cells3 hQ3
    have f0 := qf 0
    have f1 := qf 1
    have f2 := qf 2
    have hq3 : w.heap.size < w3.heap.size := World.block_lt_of_cell? _ _ q0
    have hq4 : w2.heap.size < w3.heap.size := World.block_lt_of_cell? _ _ m0
    have HQ3 := hide hQ3
    have HOW3 := hide ((unhide HOW).later hb3)
    have HB3 := hide (bel_on (unhide HB2) hb3)
    clear hb3 qf hQ3
    go_wp2
    (try simp only [Exit.inBlock, Exit.then])
    refine bodyPost_ret (v := .tuple #[.agg #[.int .i64 h, .slice ai I.length ci, .slice ao O.length co], .int .i64 0]) ?_ rfl ⟨⟨_, _, rfl, ?_⟩, ?_⟩
    · rw [results_cell_tmp rfl]
      go_simp
    · exact (unhide HOW3).far (far_three (unhide HQ3) _ _ _)
    · exact (((unhide HB3).setCell (Nat.le_refl _) _).setCell (Nat.le_refl _) _).setCell (Nat.le_refl _) _
  · rw [if_neg hx]
    obtain ⟨z, hz⟩ : ∃ z, chkTx (h, I, O) = z := ⟨_, rfl⟩
    rw [hz] at hx ⊢
    have gz : (z != 0) = true := by simp [hx]
    have HX := hide hz
    clear hx hz
    go_enter Tryz.func12, Tryz.ntmps12
    go_wp2_with fail
    refine (unhide C).mono ?_
    rintro e w2 ⟨he, hb2⟩
    obtain ⟨v1, v2, rfl, hown⟩ := he
    have hown' := hown.base esz
    obtain ⟨ai, ci, ao, co, rfl, rfl, hI, hO, sI, sO⟩ := hown'.at
    have ba := bel_new w2 (.cells #[.int .i64 h, .slice ai I.length ci, .slice ao O.length co] 25)
    have CK := hide (txCheck_any h ai ao I.length ci O.length co I O _ (hI.later ba) (hO.later ba) sI)
    rw [unhide HX] at CK
    have HQ2 := hide ((ba.block _ (by have := hb2.size; simp at this; omega)).trans ((hb2.block _ (by simp)).trans (unhide HQ)))
    have HB2 := hide (bel_on (bel_on (unhide HBQ) hb2) ba)
    clear hb2 hown hown' hI hO sI sO ba
    go_wp2_with fail
    refine (unhide CK).mono ?_
    rintro e w3 ⟨rfl, hb3⟩
    have hQ3 := (hb3.block _ (lt_of_block (unhide HQ2))).trans (unhide HQ2)
    obtain ⟨⟨q0, q1, q2⟩, qf⟩ := block_cells3 hQ3
    have f0 := qf 0
    have f1 := qf 1
    have f2 := qf 2
    have hq3 : w.heap.size < w3.heap.size := World.block_lt_of_cell? _ _ q0
    have HB3 := hide (bel_on (unhide HB2) hb3)
    clear hb3 qf hQ3
    go_wp2
    (try simp only [Exit.inBlock, Exit.then])
    refine bodyPost_ret (v := .tuple #[.agg #[.int .i64 0, .slice none 0 0, .slice none 0 0], .int .i64 z]) ?_ rfl ⟨⟨_, _, rfl, TxOwn.nil _ _⟩, ?_⟩
    · rw [results_cell_tmp rfl]
      go_simp
    · exact (((unhide HB3).setCell (Nat.le_refl _) _).setCell (Nat.le_refl _) _).setCell (Nat.le_refl _) _

theorem txParse_any (s : ByteArray) (w : World) (hE : EnvP w) :
    Calls Tryz.prog 12 #[.string s] w fun e w' => TxIs w.heap.size w' e (pT s) (pE s) ∧ Below w.heap.size w w' := by
  by_cases hs : 4000 < s.size
  · have e1 : pE s = 2 := by unfold pE; rw [if_pos hs]
    have e2 : pT s = (0, [], []) := by unfold pT; rw [e1]; rfl
    rw [e1, e2]
    exact txParse_long s hs w
  · cases hn : linesTx s with
    | none =>
      have e1 : pE s = 1 := by unfold pE; rw [if_neg hs, hn]
      have e2 : pT s = (0, [], []) := by unfold pT; rw [e1]; rfl
      rw [e1, e2]
      exact txParse_text s (by omega) hn w hE
    | some t =>
      obtain ⟨h, I, O⟩ := t
      have e1 : pE s = chkTx (h, I, O) := by unfold pE; rw [if_neg hs, hn]
      have e2 : pT s = if chkTx (h, I, O) = 0 then (h, I, O) else (0, [], []) := by unfold pT; rw [e1, hn]; rfl
      rw [e1, e2]
      exact txParse_some s (by omega) h I O hn w hE

end Go.Proofs.YtadlakolpphgnaaGreatDoor
