/- What reads a transaction's lines: where there is one line alone. -/
import Derived.Test.YtepmnpapdknocaaGreatDoorTxLinesA
import Derived.Test.YtepmnpapdknocaaGreatDoorTxLinesB
import Derived.Test.YtepmnpapdknocaaGreatDoorBlkDisAToBlkPieces
import Derived.Test.YtepmnpapdknocaaGreatDoorBlkTextMToCoinBackS
import Derived.Test.YtepmnpapdknocaaGreatDoorBlkConMToLockFlat
namespace Go.Proofs.YtepmnpapdknocaaGreatDoor
open Go.RowKit

set_option maxRecDepth 10000 in
set_option maxHeartbeats 12800000 in
theorem lines_one (s : ByteArray) (hs : s.size ≤ 4000) (w : World) (hE : EnvP w) (h : Int) (hr : rowOf ((linesOf s).getD 0 ⟨#[]⟩) txB 1 = some [h]) (hen : endsB s = true) (hone : (linesOf s).length = 1) :
    Calls Tryz.prog 101 #[.string s] w fun e w' => LinesIs w.heap.size w' e (some (h, [], [])) ∧ Below w.heap.size w w' := by
  have bq := bel_new w resO
  have CS := hide (cutSuffix_any s hs (w.alloc resO))
  have hbs := body_size s
  have SP := hide (split_lines s hs (w.alloc resO) (hE.later bq))
  have hc0 := strs_new (w.alloc resO) (linesOf s) 0 (spl_pos 10 _)
  have hm : (linesOf s).length ≤ 4002 := spl_many 10 (bodyB s) (by omega)
  have hsm : ∀ x ∈ linesOf s, x.size ≤ 4000 := fun x hx => Nat.le_trans (spl_small 10 _ _ hx) (by omega)
  have hx0 : ((linesOf s).getD 0 ⟨#[]⟩).size ≤ 4000 := by
    have : 0 < (linesOf s).length := by omega
    rw [List.getD_eq_getElem?_getD, List.getElem?_eq_getElem this]
    exact hsm _ (List.getElem_mem this)
  obtain ⟨x0, ex0⟩ : ∃ x0, (linesOf s).getD 0 ⟨#[]⟩ = x0 := ⟨_, rfl⟩
  rw [ex0] at hr hc0 hx0
  rw [hen] at CS
  obtain ⟨bd, hbd⟩ : ∃ bd, bodyB s = bd := ⟨_, rfl⟩
  rw [hbd] at CS SP
  rw [hone] at SP
  have HC0 := hide hc0
  have HQ : Hid ((w.alloc resO).heap[w.heap.size]? = some (.cells #[.int .i64 0, .slice none 0 0, .slice none 0 0] 74 (0, 0))) := heap_alloc_new _ _
  have HBQ := hide bq
  have HE := hide hE
  have HR := hide hr
  have e1 : (w.alloc resO).heap.size = w.heap.size + 1 := by simp
  clear bq hbs hc0 hE ex0 hen hbd hr hsm hm
  go_enter Tryz.func101, Tryz.ntmps101
  go_wp2_with fail
  refine (unhide CS).mono ?_
  rintro e w' ⟨rfl, rfl⟩
  go_wp2_with fail
  refine (unhide SP).mono ?_
  rintro e wl ⟨rfl, hwl⟩
  have hb1 : Below (w.alloc resO).heap.size (w.alloc resO) wl := by rw [hwl]; exact bel_new _ _
  have c0 := unhide HC0
  obtain ⟨AR, hAR⟩ : ∃ AR, ((linesOf s).map Value.string).toArray = AR := ⟨_, rfl⟩
  rw [hAR] at hwl c0
  have hLIN : wl.heap[w.heap.size + 1]? = some (.cells AR 9 (0, 0)) := by rw [hwl, ← e1]; exact heap_alloc_new _ _
  rw [← hwl, e1] at c0
  have HBL := hide (bel_on (unhide HBQ) hb1)
  have HQL := hide ((hb1.block _ (by simp)).trans (unhide HQ))
  have HLIN := hide hLIN
  have hsl : w.heap.size + 1 < wl.heap.size := World.block_lt_of_cell? _ _ c0
  rw [e1]
  clear hwl hb1 hLIN hAR
  go_wp2_with fail
  refine (parseRow_any x0 txB 1 1 rfl hx0 (by decide) (by decide) wl ((unhide HE).later (unhide HBL)) (some [h]) (unhide HR)).mono ?_
  rintro e w3 ⟨a3, c3, rfl, hrow, hb3, _⟩
  simp only [Option.getD_some, Option.isSome_some, List.length_cons, List.length_nil] at hrow ⊢
  obtain ⟨hb, ho, rfl, hcell⟩ := hrow.2.2 (by decide)
  have h0 := hcell 0 (by decide)
  simp only [Nat.add_zero] at h0
  change w3.cell? ⟨hb, ho, none⟩ = some (.int .i64 h) at h0
  have hs3 : w.heap.size + 1 < w3.heap.size := Nat.lt_of_lt_of_le hsl hb3.size
  obtain ⟨⟨q0, q1, q2⟩, qf⟩ := block_cells3 ((hb3.block _ (by omega)).trans (unhide HQL))
  have f0 := qf 0
  have f1 := qf 1
  have f2 := qf 2
  have hq3 : w.heap.size < w3.heap.size := by omega
  have HB3 := hide (bel_on (unhide HBL) hb3)
  clear qf hb3 hrow hcell c0
  go_wp2
  refine wp_loop_rounds 1 ?_
  rw [rounds_succ]
  go_wp2
  (try simp only [Exit.inBlock, Exit.then])
  refine bodyPost_ret (v := .tuple #[.agg #[.int .i64 h, .slice none 0 0, .slice none 0 0], .bool true]) ?_ rfl ⟨?_, ?_⟩
  · rw [results_cell_tmp rfl]
    go_simp
  · exact ⟨_, _, rfl, TxOwn.nil _ _⟩
  · exact ((((unhide HB3).setCell (Nat.le_refl _) _).setCell (Nat.le_refl _) _).setCell (Nat.le_refl _) _).alloc (by simp; omega) _

end Go.Proofs.YtepmnpapdknocaaGreatDoor

/- The contract of Parse of transactions: its error, and what a text says. -/
namespace Go.Proofs.YtepmnpapdknocaaGreatDoor
open Go.RowKit

theorem parseLines_any (s : ByteArray) (hs : s.size ≤ 4000) (w : World) (hE : EnvP w) :
    Calls Tryz.prog 101 #[.string s] w fun e w' => LinesIs w.heap.size w' e (linesTx s) ∧ Below w.heap.size w w' := by
  cases hen : endsB s with
  | false =>
    have e : linesTx s = none := by unfold linesTx; rw [hen]; rfl
    rw [e]
    exact lines_bad s hs w hE _ rfl (Or.inl hen)
  | true =>
    cases hr : rowOf ((linesOf s).getD 0 ⟨#[]⟩) txB 1 with
    | none =>
      have e : linesTx s = none := by unfold linesTx; rw [hen, hr]; rfl
      rw [e]
      exact lines_bad s hs w hE _ hr (Or.inr rfl)
    | some Z =>
      obtain ⟨h, rfl⟩ := List.length_eq_one_iff.1 (rowOf_len hr)
      have e : linesTx s = foldTx (h, [], []) ((linesOf s).drop 1) := by unfold linesTx; rw [hen, hr]; rfl
      rw [e]
      have hpos : 0 < (linesOf s).length := spl_pos 10 (bodyB s)
      by_cases h1 : (linesOf s).length = 1
      · have e2 : (linesOf s).drop 1 = [] := List.drop_of_length_le (by omega)
        rw [e2]
        exact lines_one s hs w hE h hr hen h1
      · exact lines_good s hs w hE h hr hen (by omega)

/-- What Parse answers: its error, and the transaction. -/
def pE (s : ByteArray) : Int := if 4000 < s.size then 2 else match linesTx s with | none => 1 | some t => chkTx t
def pT (s : ByteArray) : TxD := if pE s = 0 then (linesTx s).getD (0, [], []) else (0, [], [])

/-- The answer in memory. -/
def TxIs (B : Nat) (w' : World) (e : Ending) (t : TxD) (x : Int) : Prop := ∃ v1 v2, e = .returned (.tuple #[.agg #[.int .i64 t.1, v1, v2], .int .i64 x]) ∧ TxOwn B w' v1 v2 t.2.1 t.2.2

set_option maxRecDepth 10000 in
set_option maxHeartbeats 1600000 in
theorem txParse_long (s : ByteArray) (hs : 4000 < s.size) (w : World) :
    Calls Tryz.prog 57 #[.string s] w fun e w' => TxIs w.heap.size w' e (0, [], []) 2 ∧ Below w.heap.size w w' := by
  have g : (4000 : Int) < (s.size : Int) := by omega
  have HB := hide (bel_new w resO)
  go_enter Tryz.func57, Tryz.ntmps57
  go_wp2
  (try simp only [Exit.inBlock, Exit.then])
  refine bodyPost_ret (v := .tuple #[.agg #[.int .i64 0, .slice none 0 0, .slice none 0 0], .int .i64 2]) ?_ rfl ⟨⟨_, _, rfl, TxOwn.nil _ _⟩, ?_⟩
  · rw [results_cell_tmp rfl]
    go_simp
  · first
      | exact unhide HB
      | exact (((unhide HB).setCell (Nat.le_refl _) _).setCell (Nat.le_refl _) _).setCell (Nat.le_refl _) _
      | exact bel_new w _

set_option maxRecDepth 10000 in
set_option maxHeartbeats 3200000 in
theorem txParse_text (s : ByteArray) (hs : s.size ≤ 4000) (hn : linesTx s = none) (w : World) (hE : EnvP w) :
    Calls Tryz.prog 57 #[.string s] w fun e w' => TxIs w.heap.size w' e (0, [], []) 1 ∧ Below w.heap.size w w' := by
  have g : ¬ (4000 : Int) < (s.size : Int) := by omega
  have bq := bel_new w resO
  have C := hide (parseLines_any s hs (w.alloc resO) (hE.later bq))
  rw [hn] at C
  have HQ : Hid ((w.alloc resO).heap[w.heap.size]? = some (.cells #[.int .i64 0, .slice none 0 0, .slice none 0 0] 74 (0, 0))) := heap_alloc_new _ _
  have HBQ := hide bq
  clear hE bq hn
  go_enter Tryz.func57, Tryz.ntmps57
  go_wp2_with fail
  refine (unhide C).mono ?_
  rintro e w2 ⟨he, hb2⟩
  change e = _ at he
  subst he
  obtain ⟨⟨q0, q1, q2⟩, qf⟩ := block_cells3 ((hb2.block _ (by simp)).trans (unhide HQ))
  have f0 := qf 0
  have f1 := qf 1
  have f2 := qf 2
  have hq2 : w.heap.size < w2.heap.size := World.block_lt_of_cell? _ _ q0
  have HB2 := hide (bel_on (unhide HBQ) hb2)
  clear hb2 qf
  go_wp2
  (try simp only [Exit.inBlock, Exit.then])
  refine bodyPost_ret (v := .tuple #[.agg #[.int .i64 0, .slice none 0 0, .slice none 0 0], .int .i64 1]) ?_ rfl ⟨⟨_, _, rfl, TxOwn.nil _ _⟩, ?_⟩
  · rw [results_cell_tmp rfl]
    go_simp
  · exact ((((unhide HB2).setCell (Nat.le_refl _) _).setCell (Nat.le_refl _) _).setCell (Nat.le_refl _) _).alloc (by simp; omega) _

set_option maxRecDepth 10000 in
set_option maxHeartbeats 3200000 in
theorem txParse_some (s : ByteArray) (hs : s.size ≤ 4000) (h : Int) (I : List InD) (O : List OutD) (hn : linesTx s = some (h, I, O)) (w : World) (hE : EnvP w) :
    Calls Tryz.prog 57 #[.string s] w fun e w' => TxIs w.heap.size w' e (if chkTx (h, I, O) = 0 then (h, I, O) else (0, [], [])) (chkTx (h, I, O)) ∧ Below w.heap.size w w' := by
  have g : ¬ (4000 : Int) < (s.size : Int) := by omega
  have bq := bel_new w resO
  have C := hide (parseLines_any s hs (w.alloc resO) (hE.later bq))
  rw [hn] at C
  have HQ : Hid ((w.alloc resO).heap[w.heap.size]? = some (.cells #[.int .i64 0, .slice none 0 0, .slice none 0 0] 74 (0, 0))) := heap_alloc_new _ _
  have HBQ := hide bq
  have esz : w.heap.size ≤ (w.alloc resO).heap.size := by simp
  clear hE bq hn
  by_cases hx : chkTx (h, I, O) = 0
  · rw [if_pos hx, hx]
    have HX := hide hx
    clear hx
    go_enter Tryz.func57, Tryz.ntmps57
    go_wp2_with fail
    refine (unhide C).mono ?_
    rintro e w2 ⟨he, hb2⟩
    obtain ⟨v1, v2, rfl, hown⟩ := he
    have hown' := hown.base esz
    obtain ⟨ai, ci, ao, co, rfl, rfl, hI, hO, sI, sO⟩ := hown'.at
    have ba := bel_new w2 (.cells #[.int .i64 h, .slice ai I.length ci, .slice ao O.length co] 74)
    have CK := hide (txCheck_any h ai ao I.length ci O.length co I O _ (hI.later ba) (hO.later ba) sI)
    rw [unhide HX] at CK
    obtain ⟨n0, n1, n2⟩ := three_new w2 (.int .i64 h) (.slice ai I.length ci) (.slice ao O.length co) 74
    have HQ2 := hide ((ba.block _ (by have := hb2.size; simp at this; omega)).trans ((hb2.block _ (by simp)).trans (unhide HQ)))
    have HOW := hide (hown'.later ba)
    have HN0 := hide n0
    have HN1 := hide n1
    have HN2 := hide n2
    have HB2 := hide (bel_on (bel_on (unhide HBQ) hb2) ba)
    clear hb2 hown hown' hI hO sI sO ba n0 n1 n2
    go_wp2_with fail
    refine (unhide CK).mono ?_
    rintro e w3 ⟨rfl, hb3⟩
    have m0 := cell_later hb3 (unhide HN0)
    have m1 := cell_later hb3 (unhide HN1)
    have m2 := cell_later hb3 (unhide HN2)
    have hQ3 := (hb3.block _ (lt_of_block (unhide HQ2))).trans (unhide HQ2)
    obtain ⟨⟨q0, q1, q2⟩, qf⟩ := block_cells3 hQ3
    have f0 := qf 0
    have f1 := qf 1
    have f2 := qf 2
    have hq3 : w.heap.size < w3.heap.size := World.block_lt_of_cell? _ _ q0
    have hq4 : w2.heap.size < w3.heap.size := World.block_lt_of_cell? _ _ m0
    have HQ3 := hide hQ3
    have HOW3 := hide ((unhide HOW).later hb3)
    have HB3 := hide (bel_on (unhide HB2) hb3)
    clear hb3 qf hQ3
    go_wp2
    (try simp only [Exit.inBlock, Exit.then])
    refine bodyPost_ret (v := .tuple #[.agg #[.int .i64 h, .slice ai I.length ci, .slice ao O.length co], .int .i64 0]) ?_ rfl ⟨⟨_, _, rfl, ?_⟩, ?_⟩
    · rw [results_cell_tmp rfl]
      go_simp
    · exact (unhide HOW3).far (far_three (unhide HQ3) _ _ _)
    · exact (((unhide HB3).setCell (Nat.le_refl _) _).setCell (Nat.le_refl _) _).setCell (Nat.le_refl _) _
  · rw [if_neg hx]
    obtain ⟨z, hz⟩ : ∃ z, chkTx (h, I, O) = z := ⟨_, rfl⟩
    rw [hz] at hx ⊢
    have gz : (z != 0) = true := by simp [hx]
    have HX := hide hz
    clear hx hz
    go_enter Tryz.func57, Tryz.ntmps57
    go_wp2_with fail
    refine (unhide C).mono ?_
    rintro e w2 ⟨he, hb2⟩
    obtain ⟨v1, v2, rfl, hown⟩ := he
    have hown' := hown.base esz
    obtain ⟨ai, ci, ao, co, rfl, rfl, hI, hO, sI, sO⟩ := hown'.at
    have ba := bel_new w2 (.cells #[.int .i64 h, .slice ai I.length ci, .slice ao O.length co] 74)
    have CK := hide (txCheck_any h ai ao I.length ci O.length co I O _ (hI.later ba) (hO.later ba) sI)
    rw [unhide HX] at CK
    have HQ2 := hide ((ba.block _ (by have := hb2.size; simp at this; omega)).trans ((hb2.block _ (by simp)).trans (unhide HQ)))
    have HB2 := hide (bel_on (bel_on (unhide HBQ) hb2) ba)
    clear hb2 hown hown' hI hO sI sO ba
    go_wp2_with fail
    refine (unhide CK).mono ?_
    rintro e w3 ⟨rfl, hb3⟩
    have hQ3 := (hb3.block _ (lt_of_block (unhide HQ2))).trans (unhide HQ2)
    obtain ⟨⟨q0, q1, q2⟩, qf⟩ := block_cells3 hQ3
    have f0 := qf 0
    have f1 := qf 1
    have f2 := qf 2
    have hq3 : w.heap.size < w3.heap.size := World.block_lt_of_cell? _ _ q0
    have HB3 := hide (bel_on (unhide HB2) hb3)
    clear hb3 qf hQ3
    go_wp2
    (try simp only [Exit.inBlock, Exit.then])
    refine bodyPost_ret (v := .tuple #[.agg #[.int .i64 0, .slice none 0 0, .slice none 0 0], .int .i64 z]) ?_ rfl ⟨⟨_, _, rfl, TxOwn.nil _ _⟩, ?_⟩
    · rw [results_cell_tmp rfl]
      go_simp
    · exact (((unhide HB3).setCell (Nat.le_refl _) _).setCell (Nat.le_refl _) _).setCell (Nat.le_refl _) _

theorem txParse_any (s : ByteArray) (w : World) (hE : EnvP w) :
    Calls Tryz.prog 57 #[.string s] w fun e w' => TxIs w.heap.size w' e (pT s) (pE s) ∧ Below w.heap.size w w' := by
  by_cases hs : 4000 < s.size
  · have e1 : pE s = 2 := by unfold pE; rw [if_pos hs]
    have e2 : pT s = (0, [], []) := by unfold pT; rw [e1]; rfl
    rw [e1, e2]
    exact txParse_long s hs w
  · cases hn : linesTx s with
    | none =>
      have e1 : pE s = 1 := by unfold pE; rw [if_neg hs, hn]
      have e2 : pT s = (0, [], []) := by unfold pT; rw [e1]; rfl
      rw [e1, e2]
      exact txParse_text s (by omega) hn w hE
    | some t =>
      obtain ⟨h, I, O⟩ := t
      have e1 : pE s = chkTx (h, I, O) := by unfold pE; rw [if_neg hs, hn]
      have e2 : pT s = if chkTx (h, I, O) = 0 then (h, I, O) else (0, [], []) := by unfold pT; rw [e1, hn]; rfl
      rw [e1, e2]
      exact txParse_some s (by omega) h I O hn w hE

end Go.Proofs.YtepmnpapdknocaaGreatDoor

/- What Parse of blocks answers; transactions in a row that a call has made. -/
namespace Go.Proofs.YtepmnpapdknocaaGreatDoor
open Go.RowKit

def cutN (s : ByteArray) : ByteArray := ⟨(Lib.cut s.data.toList [10]).1.toArray⟩
def resN (s : ByteArray) : ByteArray := ⟨(Lib.cut s.data.toList [10]).2.1.toArray⟩
def zeroBk : BlkD := (0, 0, 0, 0, [])
def prsGo : List TxD → List ByteArray → Int × List TxD
  | T, [] => (0, T)
  | T, p :: r => if pE p ≠ 0 then (pE p, []) else prsGo (T ++ [pT p]) r
theorem prsGo_at (T : List TxD) (ps : List ByteArray) (k : Nat) (h : k < ps.length) : prsGo T (ps.drop k) = if pE ps[k] ≠ 0 then (pE ps[k], []) else prsGo (T ++ [pT ps[k]]) (ps.drop (k + 1)) := by
  rw [List.drop_eq_getElem_cons h]; rfl
theorem prsGo_end (T : List TxD) (ps : List ByteArray) (k : Nat) (h : ps.length ≤ k) : prsGo T (ps.drop k) = (0, T) := by
  rw [List.drop_of_length_le h]; rfl
/-- What is wrong, and the block. -/
def prB (s : ByteArray) : Int × BlkD :=
  if 4000 < s.size then (2, zeroBk)
  else match rowOf (cutN s) blockB 4 with
    | none => (1, zeroBk)
    | some Z =>
      if (prsGo [] (pcs (resN s))).1 ≠ 0 then ((prsGo [] (pcs (resN s))).1, zeroBk)
      else if chkB (Z.getD 0 0, Z.getD 1 0, Z.getD 2 0, Z.getD 3 0, (prsGo [] (pcs (resN s))).2) ≠ 0 then (chkB (Z.getD 0 0, Z.getD 1 0, Z.getD 2 0, Z.getD 3 0, (prsGo [] (pcs (resN s))).2), zeroBk)
      else (0, (Z.getD 0 0, Z.getD 1 0, Z.getD 2 0, Z.getD 3 0, (prsGo [] (pcs (resN s))).2))

abbrev TxV := TxD × Value × Value
def txCells : List TxV → List Value
  | [] => []
  | x :: r => .int .i64 x.1.1 :: x.2.1 :: x.2.2 :: txCells r
theorem txCells_snoc (x : TxV) : ∀ K : List TxV, txCells (K ++ [x]) = txCells K ++ [.int .i64 x.1.1, x.2.1, x.2.2]
  | [] => rfl
  | y :: r => by simp only [List.cons_append, txCells, txCells_snoc x r]
theorem txCells_at : ∀ (K : List TxV) (i : Nat) (h : i < K.length), (txCells K)[i * 3]? = some (.int .i64 K[i].1.1) ∧ (txCells K)[i * 3 + 1]? = some K[i].2.1 ∧ (txCells K)[i * 3 + 2]? = some K[i].2.2
  | [], _, h => absurd h (by simp)
  | x :: r, 0, _ => ⟨rfl, rfl, rfl⟩
  | x :: r, i + 1, h => by
    have := txCells_at r i (by simpa using h)
    rw [show (i + 1) * 3 = i * 3 + 3 by omega]
    simpa [txCells] using this
/-- Transactions that the call has read, in a row of its own. -/
def TxsOwn (B : Nat) (w : World) (v : Value) (K : List TxV) : Prop := w.ownsRow B 74 3 v K.length (txCells K) ∧ ∀ x ∈ K, TxOwn B w x.2.1 x.2.2 x.1.2.1 x.1.2.2
theorem TxsOwn.txs {B : Nat} {w : World} {v : Value} {K : List TxV} (h : TxsOwn B w v K) : ∃ a c, v = .slice a K.length c ∧ TxsAt w a K.length (K.map (·.1)) ∧ SlOk a K.length c := by
  rcases h.1.2 with ⟨e, hn⟩ | ⟨g, cap, cur, e, hg, hh, h1, h2, h3, h4⟩
  · subst e
    have e : K = [] := List.length_eq_zero_iff.1 hn
    subst e
    exact ⟨none, 0, rfl, ⟨rfl, fun h => absurd h (by simp)⟩, slok_nil⟩
  · subst e
    refine ⟨_, cap, rfl, ⟨by simp, fun _ => ⟨g, 0, rfl, lt_of_block hh, fun i hi => ?_⟩⟩, h1, h2, fun e => by cases e⟩
    have hi' : i < K.length := by simpa using hi
    obtain ⟨c0, c1, c2⟩ := txCells_at K i hi'
    obtain ⟨ai, ci, ao, co, e1, e2, hI, hO, sI, sO⟩ := (h.2 _ (List.getElem_mem hi')).at
    have q : ∀ j, j < 3 → w.cell? ⟨g, 0 + i * 3 + j, none⟩ = (txCells K)[i * 3 + j]? := fun j hj => by
      rw [Nat.zero_add, World.ownsRow.cellAt h.1 _ (by omega)]
    rw [List.getElem_map]
    refine ⟨(q 0 (by omega)).trans c0, ⟨ai, _, ci, (q 1 (by omega)).trans (c1.trans (by rw [e1])), hI, sI⟩, ao, _, co, (q 2 (by omega)).trans (c2.trans (by rw [e2])), hO, sO⟩
theorem TxOwn.far2 {B : Nat} {w w' : World} {v1 v2 : Value} {I : List InD} {O : List OutD} (h : TxOwn B w v1 v2 I O) (hf : ∀ (k : Nat) (cs : Array Value) (t : TypeId), w.heap[k]? = some (.cells cs t (0, 0)) → t ≠ 74 → t ≠ 28 → w'.heap[k]? = w.heap[k]?) : TxOwn B w' v1 v2 I O := by
  obtain ⟨L1, L2, e1, e2, o1, o2, k1, k2⟩ := h
  exact ⟨L1, L2, e1, e2, own_type o1 (fun k cs hk => hf k cs _ hk (by decide) (by decide)), own_type o2 (fun k cs hk => hf k cs _ hk (by decide) (by decide)), fun x hx => own_type (k1 x hx) (fun k cs hk => hf k cs _ hk (by decide) (by decide)), fun x hx => own_type (k2 x hx) (fun k cs hk => hf k cs _ hk (by decide) (by decide))⟩
theorem TxOwn.one {B : Nat} {w : World} {v1 v2 : Value} {I : List InD} {O : List OutD} (h : TxOwn B w v1 v2 I O) : v1.oneCell' = true ∧ v2.oneCell' = true := by
  obtain ⟨ai, ci, ao, co, e1, e2, _⟩ := h.at
  rw [e1, e2]
  exact ⟨rfl, rfl⟩
/-- A block of another type than the row's is not the row's. -/
theorem own_other {w : World} {base : Nat} {e : TypeId} {size : Nat} {v : Value} {n : Nat} {xs : List Value} (h : w.ownsRow base e size v n xs) {k : Nat} {cs : Array Value} {t : TypeId} (hk : w.heap[k]? = some (.cells cs t (0, 0))) (ht : t ≠ e) : v.ownBlock ≠ some k := by
  intro e1
  obtain ⟨_, ⟨rfl, _⟩ | ⟨g, cap, cur, rfl, _, hh, _⟩⟩ := h
  · cases e1
  · have e2 : g = k := by injection e1
    subst e2
    rw [hh] at hk
    injection hk with hk
    injection hk with _ hk
    exact ht hk.symm

/-- Parse's answer. -/
def BlkIs (w w' : World) (e : Ending) (x : Int) (b : BlkD) : Prop := ∃ a n c, e = .returned (.tuple #[.agg #[.int .i64 b.1, .int .i64 b.2.1, .int .i64 b.2.2.1, .int .i64 b.2.2.2.1, .slice a n c], .int .i64 x]) ∧ TxsAt w' a n b.2.2.2.2 ∧ SlOk a n c ∧ Below w.heap.size w w'

end Go.Proofs.YtepmnpapdknocaaGreatDoor
