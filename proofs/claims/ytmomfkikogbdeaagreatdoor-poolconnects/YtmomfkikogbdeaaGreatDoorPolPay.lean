/- The contract of pay: a reward of so much; its lock is copied, however long it is. -/
import Derived.Test.YtmomfkikogbdeaaGreatDoorPolAcc
import Derived.Test.YtmomfkikogbdeaaGreatDoorCoinCopyToCoinCovers
namespace Go.Proofs.YtmomfkikogbdeaaGreatDoor
open Go.RowKit

set_option maxRecDepth 10000 in
set_option maxHeartbeats 1600000 in
theorem cloneOpL_some (ad : Addr) (n c : Nat) (l : List (Int × Int)) (w : World) (hn : n ≤ 8796093022208) (hz : l.length = n) (hc : ∀ j u, (flatO l)[j]? = some u → w.cell? (ad.add j) = some u) :
    Calls Tryz.prog 150 #[.slice (some ad) n c] w fun e w' => ∃ v, e = .returned v ∧ w'.ownsRow w.heap.size 164 2 v n (flatO l) ∧ Below w.heap.size w w' := by
  obtain ⟨i0, hi, hz0, hz1, hz2⟩ := info_parts Tryz.infoOpC
  have hb := bel_new w (.cells #[] 164)
  have HC : Hid (∀ j u, (flatO l)[j]? = some u → (w.alloc (.cells #[] 164)).cell? (ad.add j) = some u) := fun j u hj => cell_later hb (hc j u hj)
  have HB := hide hb
  have HZ := hide hz
  have HO := hide (own_nil w 164 2)
  have he := fun w => Lib.run_eql_slice_nil (P := Tryz.prog) w 48 164 (some ad) n c 0 0 Tryz.underlying48
  clear hc hb hz
  go_enter Tryz.func150, Tryz.ntmps150
  go_wp2_with (at_builtin; refine wpList_append_own _ rfl _ _ 48 rfl w.heap.size 164 i0 (.agg #[.int .i64 0, .int .i64 0]) 2 16 Tryz.underlying48 hi hz0 hz1 hz2 rfl (by decide) _ _ _ rfl (unhide HO) ad n c (flatO l) rfl (by rw [flatO_len, unhide HZ]) (unhide HC) (flatO_one l) (by unfold maxLen; omega) (by omega) (unhide HB).size ?_; intro v2 w3 hown3 hgrow3 _)
  have HW : Hid (w3.ownsRow w.heap.size 164 2 v2 n (flatO l)) := by show World.ownsRow _ _ _ _ _ _ _; simpa using hown3
  have HB3 := hide ((unhide HB).grown hgrow3 (unhide HB).size (own_lo (unhide HO)))
  clear hown3 hgrow3
  go_wp2
  go_ret
  exact ⟨v2, rfl, unhide HW, unhide HB3⟩

theorem cloneOpL_any (a : Option Addr) (n c : Nat) (l : List (Int × Int)) (w : World) (hn : n ≤ 8796093022208) (h : OpsAt w a n l) (hs : SlOk a n c) :
    Calls Tryz.prog 150 #[.slice a n c] w fun e w' => ∃ a' c', e = .returned (.slice a' n c') ∧ Fresh w.heap.size w' (fun w2 => OpsAt w2 a' n l) ∧ SlOk a' n c' ∧ Below w.heap.size w w' := by
  obtain ⟨hl, hc⟩ := h
  cases a with
  | none =>
    obtain ⟨rfl, rfl⟩ := hs.2.2 rfl
    exact (cloneOp_nil w).mono fun e w' ⟨x, y⟩ => ⟨none, 0, x, fun _ _ => ⟨hl, fun h => absurd h (by omega)⟩, hs, y ▸ Below.refl _ _⟩
  | some ad =>
    have hc2 : ∀ j u, (flatO l)[j]? = some u → w.cell? (ad.add j) = some u := fun j u hj => by
      have hjl : j < l.length * 2 := by rw [← flatO_len]; exact (List.getElem?_eq_some_iff.1 hj).1
      obtain ⟨b, off, e, hcell⟩ := hc (by omega)
      cases e
      rw [Addr.add_lit]
      exact flatO_cells hl hcell j u hj
    refine (cloneOpL_some ad n c l w hn hl hc2).mono ?_
    rintro e w' ⟨v, rfl, x, y⟩
    obtain ⟨a', c', rfl, h1, h2, h3⟩ := ops_own x
    refine ⟨a', c', rfl, fun w2 g2 => ?_, h2, y⟩
    obtain ⟨a2, c2, e2, h4, _, _⟩ := ops_own (g2.own x (fun k hk e => by have := (x.lt k hk).1; omega))
    injection e2 with e2 _ _
    subst e2
    exact h4

set_option maxRecDepth 10000 in
set_option maxHeartbeats 3200000 in
theorem pPay_is (h v : Int) (a : Option Addr) (n c : Nat) (l : List (Int × Int)) (w : World) (hn : n ≤ 8796093022208) (hl : OpsAt w a n l) (hs : SlOk a n c) :
    Calls Tryz.prog 84 #[.int .i64 h, .int .i64 v, .slice a n c] w fun e w' => ∃ ao, e = .returned (.agg #[.int .i64 h, .slice none 0 0, .slice ao 1 1]) ∧ Fresh w.heap.size w' (fun w2 => Tr.txR.C w2 [.int .i64 h, .slice none 0 0, .slice ao 1 1] (payD h v l)) ∧ Below w.heap.size w w' := by
  obtain ⟨X, hX⟩ : ∃ X, X = w.alloc (.cells #[.int .i64 0, .slice none 0 0, .slice none 0 0] 59) := ⟨_, rfl⟩
  have hbX : Below w.heap.size w X := by rw [hX]; exact bel_new _ _
  have hX0 : X.heap[w.heap.size]? = some (.cells [.int .i64 0, .slice none 0 0, .slice none 0 0].toArray 59 (0, 0)) := by rw [hX]; exact three_heap _ _ _ _ _
  have hXs : X.heap.size = w.heap.size + 1 := by rw [hX]; simp
  have C1 := hide (cloneOpL_any a n c l X hn (hl.later hbX) hs)
  have HBX := hide hbX
  have HX0 := hide hX0
  have HXS := hide hXs
  clear hl hs hbX hX0 hn hXs
  go_enter Tryz.func84, Tryz.ntmps84
  go_wp2_with fail
  rw [← hX]
  clear hX
  (try go_wp2_with fail)
  refine (unhide C1).mono ?_
  rintro e w1 ⟨a1, c1, rfl, hF, hs1, hb1⟩
  have h1 := (hb1.block _ (lt_of_block (unhide HX0))).trans (unhide HX0)
  have t0 := cell_of h1 0 _ rfl
  have t1 := cell_of h1 1 _ rfl
  have t2 := cell_of h1 2 _ rfl
  have f0 := frozen_of h1 0
  have f1 := frozen_of h1 1
  have f2 := frozen_of h1 2
  have tl := lt_of_block h1
  have HB1 := hide (bel_on (unhide HBX) hb1)
  have FIN : Hid (∀ W, Gr w1 W (fun q => q = w.heap.size) → W.heap[w1.heap.size]? = some (.cells [.int .i64 v, .slice a1 n c1].toArray 122 (0, 0)) → Fresh w.heap.size W (fun w2 => Tr.txR.C w2 [.int .i64 h, .slice none 0 0, .slice (some ⟨w1.heap.size, 0, none⟩) 1 1] (payD h v l)) ∧ Below w.heap.size w W) := fun W g h2 => by
    refine ⟨fun w2 g2 => ?_, g.below (unhide HB1) (unhide HB1).size (fun q e => by rw [e]; exact Nat.le_refl _)⟩
    have gg : Gr w1 w2 (fun q => q < X.heap.size) := (g.mono (fun q _ e => by have := unhide HXS; rw [e]; omega)).trans (g2.mono (fun q _ e => by have := unhide HXS; omega))
    have h3 := g2.heap h2 (by have := (unhide HB1).size; omega)
    refine ⟨none, 0, 0, some ⟨w1.heap.size, 0, none⟩, 1, 1, rfl, RowsAt.nil _ _, slok_nil, ⟨rfl, fun _ => ⟨w1.heap.size, 0, rfl, lt_of_block h3, fun i hi => ?_⟩⟩, ⟨Nat.le_refl _, by decide, fun e => by cases e⟩⟩
    have ei : i = 0 := by simp [payD] at hi; omega
    subst ei
    exact ⟨cell_of h3 0 _ rfl, a1, n, c1, cell_of h3 1 _ rfl, hF w2 gg, hs1⟩
  clear hF hs1 hb1 h1 C1
  go_wp2
  (try simp only [Exit.inBlock, Exit.then])
  refine bodyPost_ret (v := .agg #[.int .i64 h, .slice none 0 0, .slice (some ⟨w1.heap.size, 0, none⟩) 1 1]) ?_ rfl ?_
  · rw [results_cell1 rfl]
    go_simp
  · refine ⟨_, rfl, (unhide FIN) _ ?_ ?_⟩
    · exact ((((Gr.refl w1 (fun q => q = w.heap.size)).one w.heap.size 0 (.inl rfl) _).one w.heap.size 1 (.inl rfl) _).one w.heap.size 2 (.inl rfl) _).new _
    · have := heap_alloc_new (((w1.setCell ⟨w.heap.size, 0, none⟩ (.int .i64 h)).setCell ⟨w.heap.size, 1, none⟩ (.slice none 0 0)).setCell ⟨w.heap.size, 2, none⟩ (.slice (some ⟨w1.heap.size, 0, none⟩) 1 1)) (.cells #[.int .i64 v, .slice a1 n c1] 122)
      simpa [World.setCell] using this

end Go.Proofs.YtmomfkikogbdeaaGreatDoor
