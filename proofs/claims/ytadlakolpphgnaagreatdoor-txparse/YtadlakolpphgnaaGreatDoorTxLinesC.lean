/- What reads a transaction's lines: where there is one line alone. -/
import Derived.Test.YtadlakolpphgnaaGreatDoorTxLinesA
namespace Go.Proofs.YtadlakolpphgnaaGreatDoor
open Go.RowKit

set_option maxRecDepth 10000 in
set_option maxHeartbeats 12800000 in
theorem lines_one (s : ByteArray) (hs : s.size ≤ 4000) (w : World) (hE : EnvP w) (h : Int) (hr : rowOf ((linesOf s).getD 0 ⟨#[]⟩) txB 1 = some [h]) (hen : endsB s = true) (hone : (linesOf s).length = 1) :
    Calls Tryz.prog 30 #[.string s] w fun e w' => LinesIs w.heap.size w' e (some (h, [], [])) ∧ Below w.heap.size w w' := by
  have bq := bel_new w resO
  have CS := hide (cutSuffix_any s hs (w.alloc resO))
  have hbs := body_size s
  have SP := hide (split_lines s hs (w.alloc resO) (hE.later bq))
  have hc0 := strs_new (w.alloc resO) (linesOf s) 0 (spl_pos 10 _)
  have hm : (linesOf s).length ≤ 4002 := spl_many 10 (bodyB s) (by omega)
  have hsm : ∀ x ∈ linesOf s, x.size ≤ 4000 := fun x hx => Nat.le_trans (spl_small 10 _ _ hx) (by omega)
  have hx0 : ((linesOf s).getD 0 ⟨#[]⟩).size ≤ 4000 := by
    have : 0 < (linesOf s).length := by omega
    rw [List.getD_eq_getElem?_getD, List.getElem?_eq_getElem this]
    exact hsm _ (List.getElem_mem this)
  obtain ⟨x0, ex0⟩ : ∃ x0, (linesOf s).getD 0 ⟨#[]⟩ = x0 := ⟨_, rfl⟩
  rw [ex0] at hr hc0 hx0
  rw [hen] at CS
  obtain ⟨bd, hbd⟩ : ∃ bd, bodyB s = bd := ⟨_, rfl⟩
  rw [hbd] at CS SP
  rw [hone] at SP
  have HC0 := hide hc0
  have HQ : Hid ((w.alloc resO).heap[w.heap.size]? = some (.cells #[.int .i64 0, .slice none 0 0, .slice none 0 0] 25 (0, 0))) := heap_alloc_new _ _
  have HBQ := hide bq
  have HE := hide hE
  have HR := hide hr
  have e1 : (w.alloc resO).heap.size = w.heap.size + 1 := by simp
  clear bq hbs hc0 hE ex0 hen hbd hr hsm hm
  go_enter Tryz.func30, Tryz.ntmps30
  go_wp2_with fail
  refine (unhide CS).mono ?_
  rintro e w' ⟨rfl, rfl⟩
  go_wp2_with fail
  refine (unhide SP).mono ?_
  rintro e wl ⟨rfl, hwl⟩
  have hb1 : Below (w.alloc resO).heap.size (w.alloc resO) wl := by rw [hwl]; exact bel_new _ _
  have c0 := unhide HC0
  obtain ⟨AR, hAR⟩ : ∃ AR, ((linesOf s).map Value.string).toArray = AR := ⟨_, rfl⟩
  rw [hAR] at hwl c0
  have hLIN : wl.heap[w.heap.size + 1]? = some (.cells AR 9 (0, 0)) := by rw [hwl, ← e1]; exact heap_alloc_new _ _
  rw [← hwl, e1] at c0
  have HBL := hide (bel_on (unhide HBQ) hb1)
  have HQL := hide ((hb1.block _ (by simp)).trans (unhide HQ))
  have HLIN := hide hLIN
  have hsl : w.heap.size + 1 < wl.heap.size := World.block_lt_of_cell? _ _ c0
  rw [e1]
  clear hwl hb1 hLIN hAR
  go_wp2_with fail
  refine (parseRow_any x0 txB 1 1 rfl hx0 (by decide) (by decide) wl ((unhide HE).later (unhide HBL)) (some [h]) (unhide HR)).mono ?_
  rintro e w3 ⟨a3, c3, rfl, hrow, hb3, _⟩
  simp only [Option.getD_some, Option.isSome_some, List.length_cons, List.length_nil] at hrow ⊢
  obtain ⟨hb, ho, rfl, hcell⟩ := hrow.2.2 (by decide)
  have h0 := hcell 0 (by decide)
  simp only [Nat.add_zero] at h0
  change w3.cell? ⟨hb, ho, none⟩ = some (.int .i64 h) at h0
  have hs3 : w.heap.size + 1 < w3.heap.size := Nat.lt_of_lt_of_le hsl hb3.size
  obtain ⟨⟨q0, q1, q2⟩, qf⟩ := block_cells3 ((hb3.block _ (by omega)).trans (unhide HQL))
  have f0 := qf 0
  have f1 := qf 1
  have f2 := qf 2
  have hq3 : w.heap.size < w3.heap.size := by omega
  have HB3 := hide (bel_on (unhide HBL) hb3)
  clear qf hb3 hrow hcell c0
  go_wp2
  refine wp_loop_rounds 1 ?_
  rw [rounds_succ]
  go_wp2
  (try simp only [Exit.inBlock, Exit.then])
  refine bodyPost_ret (v := .tuple #[.agg #[.int .i64 h, .slice none 0 0, .slice none 0 0], .bool true]) ?_ rfl ⟨?_, ?_⟩
  · rw [results_cell_tmp rfl]
    go_simp
  · exact ⟨_, _, rfl, TxOwn.nil _ _⟩
  · exact ((((unhide HB3).setCell (Nat.le_refl _) _).setCell (Nat.le_refl _) _).setCell (Nat.le_refl _) _).alloc (by simp; omega) _

end Go.Proofs.YtadlakolpphgnaaGreatDoor
