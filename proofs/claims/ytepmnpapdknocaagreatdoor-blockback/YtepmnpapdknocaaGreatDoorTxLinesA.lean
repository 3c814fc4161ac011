/- What reads a transaction's lines: where the text isn't ended, or its first line is none. -/
import Derived.Test.YtepmnpapdknocaaGreatDoorTxLineToTxState
namespace Go.Proofs.YtepmnpapdknocaaGreatDoor
open Go.RowKit

abbrev resO : Obj := .cells #[.int .i64 0, .slice none 0 0, .slice none 0 0] 74

/-- A transaction's rows that the call made, behind block B. -/
def TxOwn (B : Nat) (w : World) (v1 v2 : Value) (I : List InD) (O : List OutD) : Prop :=
  ∃ (L1 : List (InD × Value)) (L2 : List (OutD × Value)), I = L1.map (·.1) ∧ O = L2.map (·.1) ∧ w.ownsRow B 140 3 v1 L1.length (inCells L1) ∧ w.ownsRow B 84 2 v2 L2.length (outCells L2) ∧
    (∀ x ∈ L1, w.ownsRow B 148 2 x.2 x.1.2.2.length (flat x.1.2.2)) ∧ (∀ x ∈ L2, w.ownsRow B 148 2 x.2 x.1.2.length (flat x.1.2))

theorem TxOwn.far {B : Nat} {w w' : World} {v1 v2 : Value} {I : List InD} {O : List OutD} (h : TxOwn B w v1 v2 I O) (hf : ∀ (k : Nat) (cs : Array Value) (t : TypeId), w.heap[k]? = some (.cells cs t (0, 0)) → t ≠ 74 → w'.heap[k]? = w.heap[k]?) : TxOwn B w' v1 v2 I O := by
  obtain ⟨L1, L2, e1, e2, o1, o2, k1, k2⟩ := h
  exact ⟨L1, L2, e1, e2, own_type o1 (fun k cs hk => hf k cs _ hk (by decide)), own_type o2 (fun k cs hk => hf k cs _ hk (by decide)), fun x hx => own_type (k1 x hx) (fun k cs hk => hf k cs _ hk (by decide)), fun x hx => own_type (k2 x hx) (fun k cs hk => hf k cs _ hk (by decide))⟩
theorem TxOwn.later {B : Nat} {w w' : World} {v1 v2 : Value} {I : List InD} {O : List OutD} (h : TxOwn B w v1 v2 I O) (hb : Below w.heap.size w w') : TxOwn B w' v1 v2 I O := h.far (fun k _ _ hk _ => hb.block k (lt_of_block hk))
theorem TxOwn.base {B B' : Nat} {w : World} {v1 v2 : Value} {I : List InD} {O : List OutD} (h : TxOwn B w v1 v2 I O) (hb : B' ≤ B) : TxOwn B' w v1 v2 I O := by
  obtain ⟨L1, L2, e1, e2, o1, o2, k1, k2⟩ := h
  exact ⟨L1, L2, e1, e2, own_base o1 hb, own_base o2 hb, fun x hx => own_base (k1 x hx) hb, fun x hx => own_base (k2 x hx) hb⟩
theorem TxOwn.nil (B : Nat) (w : World) : TxOwn B w (.slice none 0 0) (.slice none 0 0) [] [] :=
  ⟨[], [], rfl, rfl, World.ownsRow_nil _ _ _ _, World.ownsRow_nil _ _ _ _, (fun x hx => by cases hx), (fun x hx => by cases hx)⟩
theorem TxOwn.at {B : Nat} {w : World} {v1 v2 : Value} {I : List InD} {O : List OutD} (h : TxOwn B w v1 v2 I O) : ∃ ai ci ao co, v1 = .slice ai I.length ci ∧ v2 = .slice ao O.length co ∧ InsAt w ai I.length I ∧ OutsAt w ao O.length O ∧ SlOk ai I.length ci ∧ SlOk ao O.length co := by
  obtain ⟨L1, L2, rfl, rfl, o1, o2, k1, k2⟩ := h
  obtain ⟨ai, ci, rfl, s1⟩ := sl_of_own o1
  obtain ⟨ao, co, rfl, s2⟩ := sl_of_own o2
  refine ⟨ai, ci, ao, co, ?_, ?_, ?_, ?_, ?_, ?_⟩
  · rw [List.length_map]
  · rw [List.length_map]
  · rw [List.length_map]; exact ins_of_own o1 k1
  · rw [List.length_map]; exact outs_of_own o2 k2
  · rw [List.length_map]; exact s1
  · rw [List.length_map]; exact s2

/-- What the reading of the lines answers. -/
def LinesIs (B : Nat) (w' : World) (e : Ending) : Option TxD → Prop
  | none => e = .returned (.tuple #[.agg #[.int .i64 0, .slice none 0 0, .slice none 0 0], .bool false])
  | some (h, I, O) => ∃ v1 v2, e = .returned (.tuple #[.agg #[.int .i64 h, v1, v2], .bool true]) ∧ TxOwn B w' v1 v2 I O

theorem far_three {wr : World} {q : Nat} {cs0 : Array Value} (hq : wr.heap[q]? = some (.cells cs0 74 (0, 0))) (x y z : Value) (k : Nat) (cs : Array Value) (t : TypeId) (hk : wr.heap[k]? = some (.cells cs t (0, 0))) (ht : t ≠ 74) :
    (((wr.setCell ⟨q, 0, none⟩ x).setCell ⟨q, 1, none⟩ y).setCell ⟨q, 2, none⟩ z).heap[k]? = wr.heap[k]? := by
  have hkq : k ≠ q := fun e => by
    subst e
    rw [hq] at hk
    injection hk with hk
    injection hk with _ hk
    exact ht hk.symm
  rw [heap_setCell_other _ ⟨q, 2, none⟩ k z hkq, heap_setCell_other _ ⟨q, 1, none⟩ k y hkq, heap_setCell_other _ ⟨q, 0, none⟩ k x hkq]

theorem block_cells3 {w : World} {k : Nat} {x y z : Value} {t : TypeId} (h : w.heap[k]? = some (.cells #[x, y, z] t (0, 0))) : (w.cell? ⟨k, 0, none⟩ = some x ∧ w.cell? ⟨k, 1, none⟩ = some y ∧ w.cell? ⟨k, 2, none⟩ = some z) ∧ (∀ i, w.frozen? ⟨k, i, none⟩ = false) :=
  ⟨⟨cell_of_row _ _ 0 _ _ _ h, cell_of_row _ _ 1 _ _ _ h, cell_of_row _ _ 2 _ _ _ h⟩, fun i => frozen_of_row _ _ i _ _ h⟩

theorem split_lines (s : ByteArray) (hs : s.size ≤ 4000) (w : World) (hE : EnvP w) :
    Calls Tryz.prog 98 #[.string (bodyB s), .string ⟨#[10]⟩] w fun e w' => e = .returned (.slice (some ⟨w.heap.size, 0, none⟩) (linesOf s).length (linesOf s).length) ∧ w' = w.alloc (.cells ((linesOf s).map Value.string).toArray 9) :=
  split_at 10 (bodyB s) (Nat.le_trans (body_size s) hs) w hE

set_option maxRecDepth 10000 in
set_option maxHeartbeats 3200000 in
theorem lines_bad (s : ByteArray) (hs : s.size ≤ 4000) (w : World) (hE : EnvP w) (r : Option (List Int)) (hr : rowOf ((linesOf s).getD 0 ⟨#[]⟩) txB 1 = r) (hno : endsB s = false ∨ r = none) :
    Calls Tryz.prog 101 #[.string s] w fun e w' => e = .returned (.tuple #[.agg #[.int .i64 0, .slice none 0 0, .slice none 0 0], .bool false]) ∧ Below w.heap.size w w' := by
  have bq := bel_new w resO
  have CS := hide (cutSuffix_any s hs (w.alloc resO))
  have hbs := body_size s
  have SP := hide (split_lines s hs (w.alloc resO) (hE.later bq))
  have hc0 := strs_new (w.alloc resO) (linesOf s) 0 (spl_pos 10 _)
  have hpos : 0 < (linesOf s).length := spl_pos 10 (bodyB s)
  have hm : (linesOf s).length ≤ 4002 := spl_many 10 (bodyB s) (by omega)
  have hx0 : ((linesOf s).getD 0 ⟨#[]⟩).size ≤ 4000 := by
    have h1 : (linesOf s).getD 0 ⟨#[]⟩ ∈ linesOf s := by
      have : 0 < (linesOf s).length := hpos
      rw [List.getD_eq_getElem?_getD, List.getElem?_eq_getElem this]
      exact List.getElem_mem this
    exact Nat.le_trans (spl_small 10 _ _ h1) (by omega)
  obtain ⟨n, hn⟩ : ∃ n, (linesOf s).length = n := ⟨_, rfl⟩
  rw [hn] at SP hpos hm
  obtain ⟨x0, ex0⟩ : ∃ x0, (linesOf s).getD 0 ⟨#[]⟩ = x0 := ⟨_, rfl⟩
  rw [ex0] at hr hc0 hx0
  obtain ⟨en, hen⟩ : ∃ en, endsB s = en := ⟨_, rfl⟩
  rw [hen] at CS hno
  obtain ⟨bd, hbd⟩ : ∃ bd, bodyB s = bd := ⟨_, rfl⟩
  rw [hbd] at CS SP
  have HC0 := hide hc0
  have HQ : Hid ((w.alloc resO).heap[w.heap.size]? = some (.cells #[.int .i64 0, .slice none 0 0, .slice none 0 0] 74 (0, 0))) := heap_alloc_new _ _
  have HBQ := hide bq
  have HE := hide hE
  have HR := hide hr
  have HNO := hide hno
  have e1 : (w.alloc resO).heap.size = w.heap.size + 1 := by simp
  clear bq hbs hc0 hE hn ex0 hen hbd hr hno
  go_enter Tryz.func101, Tryz.ntmps101
  go_wp2_with fail
  refine (unhide CS).mono ?_
  rintro e w' ⟨rfl, rfl⟩
  go_wp2_with fail
  refine (unhide SP).mono ?_
  rintro e wl ⟨rfl, hwl⟩
  have hb1 : Below (w.alloc resO).heap.size (w.alloc resO) wl := by rw [hwl]; exact bel_new _ _
  have c0 := unhide HC0
  rw [← hwl, e1] at c0
  have HBL := hide (bel_on (unhide HBQ) hb1)
  have HQL := hide ((hb1.block _ (by simp)).trans (unhide HQ))
  have hsl : w.heap.size + 1 < wl.heap.size := World.block_lt_of_cell? _ _ c0
  rw [e1]
  clear hwl hb1
  go_wp2_with fail
  refine (parseRow_any x0 txB 1 1 rfl hx0 (by decide) (by decide) wl ((unhide HE).later (unhide HBL)) r (unhide HR)).mono ?_
  rintro e w3 ⟨a3, c3, rfl, _, hb3, _⟩
  obtain ⟨⟨q0, q1, q2⟩, qf⟩ := block_cells3 ((hb3.block _ (by omega)).trans (unhide HQL))
  have f0 := qf 0
  have f1 := qf 1
  have f2 := qf 2
  have hs3 : w.heap.size < w3.heap.size := World.block_lt_of_cell? _ _ q0
  have HB3 := hide (bel_on (unhide HBL) hb3)
  clear hb3 qf c0
  obtain ⟨rs, hrs⟩ : ∃ rs, r.isSome = rs := ⟨_, rfl⟩
  rw [hrs]
  have hor : en = false ∨ (en = true ∧ rs = false) := by
    cases en with
    | false => exact Or.inl rfl
    | true => rcases unhide HNO with h | h
              · cases h
              · exact Or.inr ⟨rfl, by rw [← hrs, h]; rfl⟩
  clear hrs
  rcases hor with rfl | ⟨rfl, rfl⟩
  all_goals
    go_wp2
    (try simp only [Exit.inBlock, Exit.then])
    refine bodyPost_ret (v := .tuple #[.agg #[.int .i64 0, .slice none 0 0, .slice none 0 0], .bool false]) ?_ rfl ⟨rfl, ?_⟩
    · rw [results_cell_tmp rfl]
      go_simp
    · exact (((unhide HB3).setCell (Nat.le_refl _) _).setCell (Nat.le_refl _) _).setCell (Nat.le_refl _) _

end Go.Proofs.YtepmnpapdknocaaGreatDoor
