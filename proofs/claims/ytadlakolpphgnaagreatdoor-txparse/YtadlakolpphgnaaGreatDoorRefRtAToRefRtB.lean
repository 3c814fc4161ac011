/- Contracts of what the reference's ReadTx calls. -/
import Derived.Test.YtadlakolpphgnaaGreatDoorTxBackMToRefLines
import Derived.Test.YtadlakolpphgnaaGreatDoorRefReadO
import Derived.Test.YtadlakolpphgnaaGreatDoorTxParse
namespace Go.Proofs.YtadlakolpphgnaaGreatDoor
open Go.RowKit

def txS : ByteArray := ⟨#[116, 120, 32]⟩

set_option maxHeartbeats 400000 in
theorem hasPrefixL_is (x : ByteArray) (hx : x.size ≤ 4000) (o : Bool) (ho : hasTx x = o) (w : World) :
    Calls Tryz.prog 52 #[.string x, .string ⟨#[116, 120, 32]⟩] w fun e w' => e = .returned (.bool o) ∧ w = w' := by
  unfold hasTx at ho
  by_cases h : 3 ≤ x.size
  · rw [decide_eq_true h, Bool.true_and] at ho
    have g : (3 : Int) ≤ (x.size : Int) := by omega
    obtain ⟨y, hy⟩ : ∃ y, x.extract 0 3 = y := ⟨_, rfl⟩
    rw [hy] at ho
    subst ho
    go_enter Tryz.func52, Tryz.ntmps52
    go_wp2
    go_ret
    exact ⟨rfl, rfl⟩
  · rw [decide_eq_false h, Bool.false_and] at ho
    subst ho
    have g : ¬ (3 : Int) ≤ (x.size : Int) := by omega
    go_enter Tryz.func52, Tryz.ntmps52
    go_wp2
    go_ret
    exact ⟨rfl, rfl⟩

theorem hasPrefix_is (x : ByteArray) (hx : x.size ≤ 4000) (o : Bool) (ho : hasTx x = o) (w : World) :
    Calls Tryz.prog 33 #[.string x, .string ⟨#[116, 120, 32]⟩] w fun e w' => e = .returned (.bool o) ∧ w = w' := by
  have C := hide (hasPrefixL_is x hx o ho w)
  clear ho
  go_enter Tryz.func33, Tryz.ntmps33
  go_wp2_with fail
  refine (unhide C).mono ?_
  rintro e w' ⟨rfl, rfl⟩
  go_wp2
  go_ret
  exact ⟨rfl, rfl⟩

theorem colon_is (x : ByteArray) (k : Int) (hk : colon x = k) (w : World) :
    Calls Tryz.prog 35 #[.string x, .int .u8 58] w fun e w' => e = .returned (.int .i64 k) ∧ w = w' := by
  subst hk
  exact (Tryz.strings_IndexByte x 58 w).mono fun e w' ⟨h1, h2⟩ => ⟨h1, h2.symm⟩

set_option maxHeartbeats 400000 in
theorem bad_is (w : World) :
    Calls Tryz.prog 31 #[] w fun e w' => e = .returned (.tuple #[.agg #[.int .i64 0, .slice none 0 0, .slice none 0 0], .int .i64 1]) ∧ Below w.heap.size w w' := by
  have HB := hide (bel_new w resO)
  go_enter Tryz.func31, Tryz.ntmps31
  go_wp2
  (try simp only [Exit.inBlock, Exit.then])
  refine bodyPost_ret (v := .tuple #[.agg #[.int .i64 0, .slice none 0 0, .slice none 0 0], .int .i64 1]) ?_ rfl ⟨rfl, ?_⟩
  · rw [results_cell_tmp rfl]
    go_simp
  · first
      | exact unhide HB
      | exact (((unhide HB).setCell (Nat.le_refl _) _).setCell (Nat.le_refl _) _).setCell (Nat.le_refl _) _
      | exact bel_new w _

theorem PL.setH {w : World} {q p lb : Nat} {A : Array Value} {h h' : Int} {wr : World} {v1 v2 : Value} {L1 : List (InD × Value)} {L2 : List (OutD × Value)} (s : PL w q p lb A h wr v1 v2 L1 L2) : PL w q p lb A h' (wr.setCell ⟨p, 0, none⟩ (.int .i64 h')) v1 v2 L1 L2 := by
  have far : ∀ (k : Nat) (cs : Array Value) (t : TypeId), wr.heap[k]? = some (.cells cs t (0, 0)) → t ≠ 25 → (wr.setCell ⟨p, 0, none⟩ (.int .i64 h')).heap[k]? = wr.heap[k]? := fun k cs t hk ht =>
    heap_setCell_other wr ⟨p, 0, none⟩ k _ (fun e => by
      have e' : k = p := e
      subst e'
      rw [s.box] at hk
      injection hk with hk
      injection hk with _ hk
      exact ht hk.symm)
  refine ⟨?_, ?_, s.pq, ?_, ?_, ?_, fun x hx => ?_, fun x hx => ?_, ?_, s.pge⟩
  · rw [heap_setCell_same wr p 0 _ 25 _ s.box]; rfl
  · rw [heap_setCell_other wr ⟨p, 0, none⟩ q _ (fun e => s.pq e.symm)]; exact s.res
  · exact (far _ _ _ s.lin (by decide)).trans s.lin
  · exact own_type s.own1 (fun k cs hk => far k cs _ hk (by decide))
  · exact own_type s.own2 (fun k cs hk => far k cs _ hk (by decide))
  · exact own_type (s.keys1 x hx) (fun k cs hk => far k cs _ hk (by decide))
  · exact own_type (s.keys2 x hx) (fun k cs hk => far k cs _ hk (by decide))
  · exact s.bel.setCell s.pge _

theorem pe_none {s : ByteArray} (hs : s.size ≤ 4000) (h : linesTx s = none) : pE s = 1 ∧ pT s = (0, [], []) := by
  have e : pE s = 1 := by unfold pE; rw [if_neg (by omega), h]
  exact ⟨e, by unfold pT; rw [if_neg (by rw [e]; decide)]⟩
theorem pe_some {s : ByteArray} {t : TxD} (hs : s.size ≤ 4000) (h : linesTx s = some t) : pE s = chkTx t ∧ pT s = if chkTx t = 0 then t else (0, [], []) := by
  have e : pE s = chkTx t := by unfold pE; rw [if_neg (by omega), h]
  exact ⟨e, by unfold pT; rw [e, h]; rfl⟩
theorem lines_head {s : ByteArray} (h : endsB s = true) : linesTx s = match rowOf ((linesOf s).getD 0 ⟨#[]⟩) txB 1 with | some Z => foldTx (Z.getD 0 0, [], []) ((linesOf s).drop 1) | none => none := by
  unfold linesTx; rw [if_pos h]; rfl

theorem pl_new (w : World) (ws : List ByteArray) : PL w w.heap.size (w.heap.size + 1) (w.heap.size + 2) (ws.map Value.string).toArray 0 (((w.alloc resO).alloc resO).alloc (.cells (ws.map Value.string).toArray 9)) (.slice none 0 0) (.slice none 0 0) [] [] := by
  have e1 : (w.alloc resO).heap.size = w.heap.size + 1 := by simp
  have e2 : ((w.alloc resO).alloc resO).heap.size = w.heap.size + 2 := by simp
  have b1 := bel_new w resO
  have b2 := bel_new (w.alloc resO) resO
  have b3 := bel_new ((w.alloc resO).alloc resO) (.cells (ws.map Value.string).toArray 9)
  have n1 := heap_alloc_new w resO
  have n2 := heap_alloc_new (w.alloc resO) resO
  have n3 := heap_alloc_new ((w.alloc resO).alloc resO) (.cells (ws.map Value.string).toArray 9)
  rw [e1] at n2
  rw [e2] at n3
  exact ⟨(b3.block _ (lt_of_block n2)).trans n2, (b3.block _ (by rw [e2]; omega)).trans ((b2.block _ (lt_of_block n1)).trans n1), by omega, n3, World.ownsRow_nil _ _ _ _, World.ownsRow_nil _ _ _ _, (fun x hx => by cases hx), (fun x hx => by cases hx), bel_on (bel_on b1 b2) b3, by omega⟩

theorem lin_cell {w : World} {q p lb : Nat} {ws : List ByteArray} {h : Int} {wr : World} {v1 v2 : Value} {L1 : List (InD × Value)} {L2 : List (OutD × Value)} (s : PL w q p lb (ws.map Value.string).toArray h wr v1 v2 L1 L2) (i : Nat) (hi : i < ws.length) : wr.cell? ⟨lb, i, none⟩ = some (.string (ws.getD i ⟨#[]⟩)) := by
  rw [cell_of_row _ _ _ _ _ _ s.lin]
  simp [hi]
theorem empty_list {x : ByteArray} (h : x ≠ ⟨#[]⟩) : (x.toList == []) = false := by
  rw [beq_eq_false_iff_ne]
  intro e
  apply h
  apply ba_list
  rw [e, ByteArray.toList_eq]

end Go.Proofs.YtadlakolpphgnaaGreatDoor

/- The contract of the reference's ReadTx, where the text isn't ended. -/
namespace Go.Proofs.YtadlakolpphgnaaGreatDoor
open Go.RowKit

set_option maxRecDepth 10000 in
set_option maxHeartbeats 6400000 in
theorem readTx_open (s : ByteArray) (hs : s.size ≤ 4000) (hn : endsB s = false) (w : World) (hE : EnvF w) :
    Calls Tryz.prog 13 #[.string s] w fun e w' => TxIs w.heap.size w' e (pT s) (pE s) ∧ Below w.heap.size w w' := by
  obtain ⟨m, hm⟩ : ∃ m, (spl 10 s).length = m + 1 := ⟨(spl 10 s).length - 1, by have := spl_pos 10 s; omega⟩
  have hm2 : m ≤ 4001 := by have := spl_many 10 s hs; omega
  have e2 : ((w.alloc resO).alloc resO).heap.size = w.heap.size + 2 := by simp
  have bW := bel_on (bel_new w resO) (bel_new (w.alloc resO) resO)
  have SP := split_at 10 s hs ((w.alloc resO).alloc resO) (hE.later bW).envp
  rw [e2, hm] at SP
  have P0 := pl_new w (spl 10 s)
  have SPH := hide SP
  have HNONE : Hid (linesTx s = none) := by show _ = _; unfold linesTx; rw [hn]; rfl
  have SN := spl_not s hn
  rw [hm] at SN
  obtain ⟨ws, hws⟩ : ∃ ws, spl 10 s = ws := ⟨_, rfl⟩
  rw [hws] at SPH P0 SN hm
  have HP0 := hide P0
  have HM := hide hm
  clear SP P0 hE bW e2
  by_cases h0 : m = 0
  · subst h0
    clear SN
    go_enter Tryz.func13, Tryz.ntmps13
    go_wp2_with fail
    refine (unhide SPH).mono ?_
    rintro e w3 ⟨rfl, hw3⟩
    rw [← hw3] at HP0
    clear hw3
    have BD := hide (bad_is w3)
    have HPE := hide (pe_none hs (unhide HNONE))
    go_wp2_with fail
    refine (unhide BD).mono ?_
    rintro e wb ⟨rfl, hbb⟩
    have HSb := hide ((unhide HP0).later hbb)
    obtain ⟨⟨r0, r1, r2⟩, rf⟩ := block_cells3 (unhide HSb).res
    have f0 := rf 0
    have f1 := rf 1
    have f2 := rf 2
    have hqb : w.heap.size < wb.heap.size := World.block_lt_of_cell? _ _ r0
    clear hbb rf
    go_wp2
    (try simp only [Exit.inBlock, Exit.then])
    refine bodyPost_ret (v := .tuple #[.agg #[.int .i64 0, .slice none 0 0, .slice none 0 0], .int .i64 1]) ?_ rfl ⟨?_, ?_⟩
    · rw [results_cell_tmp rfl]
      go_simp
    · rw [(unhide HPE).1, (unhide HPE).2]; exact ⟨_, _, rfl, TxOwn.nil _ _⟩
    · exact (((unhide HSb).bel.setCell (Nat.le_refl _) _).setCell (Nat.le_refl _) _).setCell (Nat.le_refl _) _
  · have sn := SN (by omega)
    simp only [Nat.add_sub_cancel] at sn
    have g1 := empty_list sn
    have g2 : ¬ ((m : Int) + 1 < 2) := by omega
    have g3 : (m : Int) ≤ 4001 := by omega
    have g4 : (0 : Int) ≤ (m : Int) := by omega
    obtain ⟨y, hy⟩ : ∃ y, ws.getD m ⟨#[]⟩ = y := ⟨_, rfl⟩
    rw [hy] at g1
    have HY := hide hy
    clear SN sn hy
    go_enter Tryz.func13, Tryz.ntmps13
    go_wp2_with fail
    refine (unhide SPH).mono ?_
    rintro e w3 ⟨rfl, hw3⟩
    rw [← hw3] at HP0
    have f := lin_cell (unhide HP0) m (by have := unhide HM; omega)
    rw [unhide HY] at f
    clear hw3
    have BD := hide (bad_is w3)
    have HPE := hide (pe_none hs (unhide HNONE))
    go_wp2_with fail
    refine (unhide BD).mono ?_
    rintro e wb ⟨rfl, hbb⟩
    have HSb := hide ((unhide HP0).later hbb)
    obtain ⟨⟨r0, r1, r2⟩, rf⟩ := block_cells3 (unhide HSb).res
    have f0 := rf 0
    have f1 := rf 1
    have f2 := rf 2
    have hqb : w.heap.size < wb.heap.size := World.block_lt_of_cell? _ _ r0
    clear hbb rf
    go_wp2
    (try simp only [Exit.inBlock, Exit.then])
    refine bodyPost_ret (v := .tuple #[.agg #[.int .i64 0, .slice none 0 0, .slice none 0 0], .int .i64 1]) ?_ rfl ⟨?_, ?_⟩
    · rw [results_cell_tmp rfl]
      go_simp
    · rw [(unhide HPE).1, (unhide HPE).2]; exact ⟨_, _, rfl, TxOwn.nil _ _⟩
    · exact (((unhide HSb).bel.setCell (Nat.le_refl _) _).setCell (Nat.le_refl _) _).setCell (Nat.le_refl _) _

end Go.Proofs.YtadlakolpphgnaaGreatDoor
