/- The contract of Disconnect, every way. -/
import Derived.Test.YtmomfkikogbdeaaGreatDoorBlkDis
import Derived.Test.YtmomfkikogbdeaaGreatDoorChnUnToBookChk
namespace Go.Proofs.YtmomfkikogbdeaaGreatDoor
open Go.RowKit

theorem nf_len {K : List ByteArray} {C : List CoinD} {b : BlkD} {N : List Int} (h : nfD K C b = (N, 0)) : N.length = b.2.2.2.2.length ∧ 0 < b.2.2.2.2.length ∧ b.2.2.2.2.length ≤ 4 := by
  obtain ⟨_, hb, X, n, N', hN, hN2⟩ := nfD_zero (by rw [h])
  rw [h] at hN2
  have e := (nms_zero hN).2.2.2.2.1
  obtain ⟨h0, h4, _, _⟩ := chkB_few hb
  have hN3 : N = N' := hN2
  rw [hN3]
  exact ⟨by rw [e]; simp, h0, h4⟩

set_option maxRecDepth 100000 in
set_option maxHeartbeats 6400000 in
theorem dis_early (ka : Option Addr) (kn kc : Nat) (K : List ByteArray) (la : Option Addr) (ln lc : Nat) (C0 : List CoinD) (p h k0 n : Int) (a : Option Addr) (m c : Nat) (L : List TxD) (ua : Option Addr) (un uc : Nat) (N : List Int) (x y : Int) (w : World) (hE : Env w) (hK : Bk.TextsAt w ka kn K) (hC : CoinsAt w la ln C0) (hL : TxsAt w a m L) (hnf : nfD K C0 (p, h, k0, n, L) = (N, x)) (hy : (x ≠ 0 ∧ y = x) ∨ (x = 0 ∧ un ≠ m ∧ y = 4)) :
    Calls Tryz.prog 137 #[.agg #[.slice ka kn kc], .slice la ln lc, .agg #[.int .i64 p, .int .i64 h, .int .i64 k0, .int .i64 n, .slice a m c], .slice ua un uc] w fun e w' => RvR w w' y [] e := by
  obtain ⟨X, hX⟩ : ∃ X, X = (((((w.alloc (.cells #[.slice ka kn kc] 24)).alloc (.cells #[.slice la ln lc] 29)).alloc (.cells #[.int .i64 p, .int .i64 h, .int .i64 k0, .int .i64 n, .slice a m c] 39)).alloc (.cells #[.slice ua un uc] 42)).alloc (.cells #[.slice none 0 0] 29)).alloc (.cells #[.int .i64 0] 30) := ⟨_, rfl⟩
  obtain ⟨hbX, hXs, x1, x2, x3, x4, x5, x6⟩ := six_boxes w _ _ _ _ _ _ X hX
  have NF := hide (namesFor_is ka kn kc K la ln lc C0 p h k0 n a m c L N x X (hE.later hbX) (hK.later hbX) (hC.later hbX) (hL.later hbX) hnf)
  have c1 := cell_of (X := [.slice ka kn kc]) x1 0 _ rfl
  have c2 := cell_of (X := [.slice la ln lc]) x2 0 _ rfl
  have c30 := cell_of (X := [.int .i64 p, .int .i64 h, .int .i64 k0, .int .i64 n, .slice a m c]) x3 0 _ rfl
  have c31 := cell_of (X := [.int .i64 p, .int .i64 h, .int .i64 k0, .int .i64 n, .slice a m c]) x3 1 _ rfl
  have c32 := cell_of (X := [.int .i64 p, .int .i64 h, .int .i64 k0, .int .i64 n, .slice a m c]) x3 2 _ rfl
  have c33 := cell_of (X := [.int .i64 p, .int .i64 h, .int .i64 k0, .int .i64 n, .slice a m c]) x3 3 _ rfl
  have c34 := cell_of (X := [.int .i64 p, .int .i64 h, .int .i64 k0, .int .i64 n, .slice a m c]) x3 4 _ rfl
  have hs1 := lt_of_block x1
  have hs2 := lt_of_block x2
  have hs3 := lt_of_block x3
  have HBX := hide hbX
  have HX3 := hide x3
  have HX4 := hide x4
  have HX5 := hide x5
  have HX6 := hide x6
  have HXS := hide hXs
  clear hE hK hC hL hnf hbX x1 x2 x3 x4 x5 x6 hXs
  go_enter Tryz.func137, Tryz.ntmps137
  go_wp2_with fail
  rw [← hX]
  clear hX
  refine (unhide NF).mono ?_
  rintro e w1 ⟨na, nn, nc, rfl, hN, hnc, hb1⟩
  obtain ⟨Y, hY⟩ : ∃ Y, Y = (w1.alloc (.cells #[.slice na nn nc] 25)).alloc (.cells #[.int .i64 x] 30) := ⟨_, rfl⟩
  have hbY : Below w1.heap.size w1 Y := by rw [hY]; exact bel_on (bel_new _ _) (bel_new _ _)
  have y11 : Y.heap[w1.heap.size + 1]? = some (.cells [.int .i64 x].toArray 30 (0, 0)) := by
    rw [hY]
    have := heap_alloc_new (w1.alloc (.cells #[.slice na nn nc] 25)) (.cells #[.int .i64 x] 30)
    rw [show (w1.alloc (.cells #[.slice na nn nc] 25)).heap.size = w1.heap.size + 1 by simp] at this
    exact this
  have hs1' := hb1.size
  have hXs := unhide HXS
  have hXY := bel_on hb1 hbY
  have d3 := (hb1.block _ (lt_of_block (unhide HX3))).trans (unhide HX3)
  have d34 := cell_of (X := [.int .i64 p, .int .i64 h, .int .i64 k0, .int .i64 n, .slice a m c]) d3 4 _ rfl
  have d3l := lt_of_block d3
  have d4 := (hb1.block _ (lt_of_block (unhide HX4))).trans (unhide HX4)
  have d40 := cell_of (X := [.slice ua un uc]) d4 0 _ rfl
  have d4l := lt_of_block d4
  have d2l : w.heap.size + 1 < w1.heap.size := by omega
  have d1l : w.heap.size < w1.heap.size := by omega
  have d8 := (hXY.block _ (lt_of_block (unhide HX5))).trans (unhide HX5)
  have d9 := (hXY.block _ (lt_of_block (unhide HX6))).trans (unhide HX6)
  have o8 := (hb1.block _ (lt_of_block (unhide HX5))).trans (unhide HX5)
  have o9 := (hb1.block _ (lt_of_block (unhide HX6))).trans (unhide HX6)
  have O8 := hide o8
  have O9 := hide o9
  have c8w := cell_of (X := [.slice none 0 0]) o8 0 _ rfl
  have f8w := frozen_of o8 0
  have l8w := lt_of_block o8
  have c9w := cell_of (X := [.int .i64 0]) o9 0 _ rfl
  have f9w := frozen_of o9 0
  have l9w := lt_of_block o9
  have n98 : ¬ w.heap.size + 1 + 1 + 1 + 1 + 1 = w.heap.size + 1 + 1 + 1 + 1 := by omega
  have c8 := cell_of (X := [.slice none 0 0]) d8 0 _ rfl
  have f8 := frozen_of d8 0
  have l8 := lt_of_block d8
  have c9 := cell_of (X := [.int .i64 0]) d9 0 _ rfl
  have f9 := frozen_of d9 0
  have l9 := lt_of_block d9
  have c11 := cell_of y11 0 _ rfl
  have l11 := lt_of_block y11
  have n89 : ¬ w.heap.size + 1 + 1 + 1 + 1 = w.heap.size + 1 + 1 + 1 + 1 + 1 := by omega
  have n811 : ¬ w1.heap.size + 1 = w.heap.size + 1 + 1 + 1 + 1 := by omega
  have HW1 := hide (bel_on (unhide HBX) hb1)
  have HF : Hid (∀ V v5 v6, V = (Y.drew.setCell ⟨w.heap.size + 1 + 1 + 1 + 1, 0, none⟩ v5).setCell ⟨w.heap.size + 1 + 1 + 1 + 1 + 1, 0, none⟩ v6 ∨ V = (Y.setCell ⟨w.heap.size + 1 + 1 + 1 + 1, 0, none⟩ v5).setCell ⟨w.heap.size + 1 + 1 + 1 + 1 + 1, 0, none⟩ v6 ∨ V = ((Y.setCell ⟨w.heap.size + 1 + 1 + 1 + 1, 0, none⟩ v5).setCell ⟨w.heap.size + 1 + 1 + 1 + 1 + 1, 0, none⟩ v6).drew → Below w.heap.size w V) := by
    intro V v5 v6 hV
    have hb := bel_on (unhide HBX) hXY
    rcases hV with rfl | rfl | rfl
    · exact ((bel_on hb (bel_draw1 Y)).setCell (p := ⟨w.heap.size + 1 + 1 + 1 + 1, 0, none⟩) (by show w.heap.size ≤ w.heap.size + 1 + 1 + 1 + 1; omega) _).setCell (p := ⟨w.heap.size + 1 + 1 + 1 + 1 + 1, 0, none⟩) (by show w.heap.size ≤ w.heap.size + 1 + 1 + 1 + 1 + 1; omega) _
    · exact (hb.setCell (p := ⟨w.heap.size + 1 + 1 + 1 + 1, 0, none⟩) (by show w.heap.size ≤ w.heap.size + 1 + 1 + 1 + 1; omega) _).setCell (p := ⟨w.heap.size + 1 + 1 + 1 + 1 + 1, 0, none⟩) (by show w.heap.size ≤ w.heap.size + 1 + 1 + 1 + 1 + 1; omega) _
    · exact bel_on ((hb.setCell (p := ⟨w.heap.size + 1 + 1 + 1 + 1, 0, none⟩) (by show w.heap.size ≤ w.heap.size + 1 + 1 + 1 + 1; omega) _).setCell (p := ⟨w.heap.size + 1 + 1 + 1 + 1 + 1, 0, none⟩) (by show w.heap.size ≤ w.heap.size + 1 + 1 + 1 + 1 + 1; omega) _) (bel_draw1 _)
  clear hN hb1 hbY y11 hXY d3 d4 d8 d9 o8 o9 hs1' hXs NF c1 c2 c30 c31 c32 c33 c34 hs1 hs2 hs3
  have HZ : Hid (∀ (v : Value) (o1 o2 : Obj), ((((w1.setCell ⟨w.heap.size + 1 + 1 + 1 + 1, 0, none⟩ (.slice none 0 0)).setCell ⟨w.heap.size + 1 + 1 + 1 + 1 + 1, 0, none⟩ v).alloc o1).alloc o2).cell? ⟨w.heap.size + 1 + 1 + 1 + 1, 0, none⟩ = some (.slice none 0 0) ∧ ((((w1.setCell ⟨w.heap.size + 1 + 1 + 1 + 1, 0, none⟩ (.slice none 0 0)).setCell ⟨w.heap.size + 1 + 1 + 1 + 1 + 1, 0, none⟩ v).alloc o1).alloc o2).cell? ⟨w.heap.size + 1 + 1 + 1 + 1 + 1, 0, none⟩ = some v) := by
    intro v o1 o2
    have g4 := (Gr.refl w1 (fun q => q = w.heap.size + 1 + 1 + 1 + 1)).set (p := ⟨w.heap.size + 1 + 1 + 1 + 1, 0, none⟩) (.inl rfl) (.slice none 0 0)
    have e8 := box_set (u := .slice none 0 0) (unhide O8)
    have e9 := g4.heap (unhide O9) n98
    have g5 := (Gr.refl (w1.setCell ⟨w.heap.size + 1 + 1 + 1 + 1, 0, none⟩ (.slice none 0 0)) (fun q => q = w.heap.size + 1 + 1 + 1 + 1 + 1)).set (p := ⟨w.heap.size + 1 + 1 + 1 + 1 + 1, 0, none⟩) (.inl rfl) v
    have k9 := box_set (u := v) e9
    have k8 := g5.heap e8 n89
    have hb := bel_on (bel_new ((w1.setCell ⟨w.heap.size + 1 + 1 + 1 + 1, 0, none⟩ (.slice none 0 0)).setCell ⟨w.heap.size + 1 + 1 + 1 + 1 + 1, 0, none⟩ v) o1) (bel_new _ o2)
    exact ⟨cell_later hb (cell_of (X := [.slice none 0 0]) k8 0 _ rfl), cell_later hb (cell_of (X := [v]) k9 0 _ rfl)⟩
  rcases hy with ⟨hx, rfl⟩ | ⟨rfl, hu, rfl⟩
  · have gx : (y != 0) = true := by simp [hx]
    go_wp2
    rw [← hY]
    clear hY
    go_region
    go_wp2
    (try simp only [Exit.inBlock, Exit.then])
    refine bodyPost_ret (v := .tuple #[.slice none 0 0, .int .i64 y]) ?_ rfl ?_
    · simp [results, Tryz.f137, go_sem, c8, c9]
    · refine rv_err rfl ((unhide HF) _ (.slice none 0 0) (.int .i64 y) ?_)
      first | exact .inl rfl | exact .inr (.inl rfl) | exact .inr (.inr rfl)
  · have gu : ((un : Int) != (m : Int)) = true := by simp; omega
    go_wp2
    (try simp only [Exit.inBlock, Exit.then])
    refine bodyPost_ret (v := .tuple #[.slice none 0 0, .int .i64 4]) ?_ rfl ?_
    · obtain ⟨z8, z9⟩ := (unhide HZ) (.int .i64 4) (.cells #[.slice na nn nc] 25) (.cells #[.int .i64 0] 30)
      simp [results, Tryz.f137, go_sem, z8, z9]
    · exact rv_err rfl (bel_on (((unhide HW1).setCell (p := ⟨w.heap.size + 1 + 1 + 1 + 1, 0, none⟩) (by show w.heap.size ≤ w.heap.size + 1 + 1 + 1 + 1; omega) _).setCell (p := ⟨w.heap.size + 1 + 1 + 1 + 1 + 1, 0, none⟩) (by show w.heap.size ≤ w.heap.size + 1 + 1 + 1 + 1 + 1; omega) _) (bel_on (bel_new _ _) (bel_new _ _)))

theorem disconnect_is (ka : Option Addr) (kn kc : Nat) (K : List ByteArray) (la : Option Addr) (ln lc : Nat) (C0 : List CoinD) (p h k0 n : Int) (a : Option Addr) (m c : Nat) (L : List TxD) (ua : Option Addr) (un uc : Nat) (S : List (List CoinD)) (x : Int) (C' : List CoinD) (w : World) (hE : Env w) (hK : Bk.TextsAt w ka kn K) (hC : CoinsAt w la ln C0) (sC : SlOk la ln lc) (hL : TxsAt w a m L) (hU : UndosAt w ua un S) (hx : disD K C0 (p, h, k0, n, L) S = (x, C')) :
    Calls Tryz.prog 137 #[.agg #[.slice ka kn kc], .slice la ln lc, .agg #[.int .i64 p, .int .i64 h, .int .i64 k0, .int .i64 n, .slice a m c], .slice ua un uc] w fun e w' => RvR w w' x C' e := by
  obtain ⟨⟨N, z⟩, hnf⟩ : ∃ r, nfD K C0 (p, h, k0, n, L) = r := ⟨_, rfl⟩
  have hLl : L.length = m := hL.1
  unfold disD at hx
  rw [hnf] at hx
  by_cases hz : z = 0
  · subst hz
    rw [if_neg (fun q => q rfl)] at hx
    by_cases hl : S.length = L.length
    · rw [if_neg (fun q => q hl)] at hx
      obtain ⟨e1, e2, e3⟩ := nf_len hnf
      have hum : un = m := by rw [← hU.1, hl, hLl]
      subst hum
      have e1 : N.length = un := by rw [← hLl]; exact e1
      have hx : disGo L N S L.length C0 = (x, C') := hx
      rw [hLl] at hx
      exact dis_main ka kn kc K la ln lc C0 p h k0 n a un c L ua uc S N x C' w hE hK hC sC hL hU (by rw [← hLl]; exact e3) (by rw [← hLl]; exact e2) hnf e1 hx
    · rw [if_pos hl] at hx
      obtain ⟨rfl, rfl⟩ := Prod.mk.inj hx
      exact dis_early ka kn kc K la ln lc C0 p h k0 n a m c L ua un uc N 0 4 w hE hK hC hL hnf (.inr ⟨rfl, fun q => hl (by rw [hU.1, hLl]; exact q), rfl⟩)
  · rw [if_pos hz] at hx
    obtain ⟨rfl, rfl⟩ := Prod.mk.inj hx
    exact dis_early ka kn kc K la ln lc C0 p h k0 n a m c L ua un uc N z z w hE hK hC hL hnf (.inl ⟨hz, rfl⟩)

end Go.Proofs.YtmomfkikogbdeaaGreatDoor

/- The contract of apart: what isn't in the other row (written by a program of ours: mkapart.py). -/
namespace Go.Proofs.YtmomfkikogbdeaaGreatDoor
open Go.RowKit

theorem row_set {W : World} {g : Nat} {L : List Value} (h : W.heap[g]? = some (.cells L.toArray 129 (0, 0))) (j : Nat) (u : Value) : (W.setCell ⟨g, j, none⟩ u).heap[g]? = some (.cells (L.set j u).toArray 129 (0, 0)) := us_set h j u
/-- A row, the first so many of it as they are apart from another one. -/
def offT (A B : List Int) (j : Nat) : List Int := offD (A.take j) (B.take j) ++ A.drop j
theorem offT_zero (A B : List Int) : offT A B 0 = A := by simp [offT, offD]
theorem offD_len {A B : List Int} (h : A.length = B.length) : (offD A B).length = A.length := by simp [offD, h]
theorem offT_all {A B : List Int} (h : A.length = B.length) (j : Nat) (hj : A.length ≤ j) : offT A B j = offD A B := by
  unfold offT
  rw [List.take_of_length_le hj, List.take_of_length_le (by omega), List.drop_of_length_le hj, List.append_nil]
theorem offT_len {A B : List Int} (h : A.length = B.length) (j : Nat) : (offT A B j).length = A.length := by
  unfold offT
  rw [List.length_append, offD_len (by simp [h]), List.length_take, List.length_drop]; omega
theorem offT_at {A B : List Int} (h : A.length = B.length) {j : Nat} (hj : j < A.length) : (offT A B j)[j]? = some A[j] := by
  unfold offT
  rw [List.getElem?_append_right (by rw [offD_len (by simp [h]), List.length_take]; omega), offD_len (by simp [h]), List.length_take, List.getElem?_drop]
  rw [show j + (j - min j A.length) = j by omega, List.getElem?_eq_getElem hj]
theorem offT_succ {A B : List Int} (h : A.length = B.length) {j : Nat} (hj : j < A.length) : offT A B (j + 1) = (offT A B j).set j (if A[j] = B[j]'(by omega) then 0 else A[j]) := by
  have hB : j < B.length := by omega
  have e0 : (offD (A.take j) (B.take j)).length = j := by rw [offD_len (by simp [h]), List.length_take]; omega
  unfold offT
  rw [List.set_append_right _ _ (by rw [e0]; exact Nat.le_refl _), e0, Nat.sub_self, List.drop_eq_getElem_cons hj, List.set_cons_zero]
  have e : offD (A.take (j + 1)) (B.take (j + 1)) = offD (A.take j) (B.take j) ++ [if A[j] = B[j] then 0 else A[j]] := by
    unfold offD
    rw [List.take_succ_eq_append_getElem hj, List.take_succ_eq_append_getElem hB, List.zipWith_append (by simp; omega)]
    rfl
  rw [e, List.append_assoc]; rfl
theorem offT_same {A B : List Int} (h : A.length = B.length) {j : Nat} (hj : j < A.length) (e : A[j] ≠ B[j]'(by omega)) : offT A B (j + 1) = offT A B j := by
  rw [offT_succ h hj, if_neg e]
  exact List.ext_getElem? fun i => by
    by_cases q : j = i
    · subst q
      rw [List.getElem?_set_self (by rw [offT_len h]; exact hj), offT_at h hj]
    · rw [List.getElem?_set_ne q]
theorem rowV_set (R : List Int) (j : Nat) (x : Int) : rowV (R.set j x) = (rowV R).set j (.int .i64 x) := by unfold rowV; rw [List.map_set]
theorem rowV_at {R : List Int} {j : Nat} {x : Int} (h : R[j]? = some x) : (rowV R)[j]? = some (.int .i64 x) := by unfold rowV; rw [List.getElem?_map, h]; rfl
theorem four_boxes (w : World) (o1 o2 o3 o4 : Obj) (X : World) (hX : X = (((w.alloc o1).alloc o2).alloc o3).alloc o4) :
    Below w.heap.size w X ∧ X.heap.size = w.heap.size + 4 ∧ X.heap[w.heap.size]? = some o1 ∧ X.heap[w.heap.size + 1]? = some o2 ∧ X.heap[w.heap.size + 2]? = some o3 ∧ X.heap[w.heap.size + 3]? = some o4 := by
  have b1 := bel_new w o1
  have b2 := bel_new (w.alloc o1) o2
  have b3 := bel_new ((w.alloc o1).alloc o2) o3
  have b4 := bel_new (((w.alloc o1).alloc o2).alloc o3) o4
  have h1 := heap_alloc_new w o1
  have h2 := heap_alloc_new (w.alloc o1) o2
  have h3 := heap_alloc_new ((w.alloc o1).alloc o2) o3
  have h4 := heap_alloc_new (((w.alloc o1).alloc o2).alloc o3) o4
  have k2 := bel_on b3 b4
  have k1 := bel_on b2 k2
  have g1 := (k1.block _ (lt_of_block h1)).trans h1
  have g2 := (k2.block _ (lt_of_block h2)).trans h2
  have g3 := (b4.block _ (lt_of_block h3)).trans h3
  simp only [World.size_alloc] at g2 g3 h4
  subst hX
  exact ⟨bel_on b1 k1, by simp [World.size_alloc], g1, g2, g3, h4⟩
theorem results_cc {fn : Func} {p q : Tmp} {ty tz : TypeId} (h : fn.results = #[.cell p ty, .cell q tz]) (tmps : Array Value) (P : Program) (w : World) {a b : Addr} {x y : Value} (ha : (asAddr (tmps.getD p undef)).run P w = .ok a w) (hb : (asAddr (tmps.getD q undef)).run P w = .ok b w) (hx : (loadVar ty a).run P w = .ok x w) (hy : (loadVar tz b).run P w = .ok y w) :
    (results fn tmps).run P w = .ok (.tuple #[x, y]) w := by
  simp only [Array.getD_eq_getD_getElem?] at ha hb
  simp only [results, h]
  simp [Sem.run_bind, Result.andThen, ha, hb, hx, hy]

set_option maxRecDepth 10000 in
set_option maxHeartbeats 3200000 in
theorem apart_is (A B : List Int) (w : World) (hA : A.length = 24) (hB : B.length = 24) :
    Calls Tryz.prog 64 #[.agg (rowV A).toArray, .agg (rowV B).toArray] w fun e w' => e = .returned (.tuple #[.agg (rowV (offD A B)).toArray, .agg (rowV (offD B A)).toArray]) ∧ Below w.heap.size w w' := by
  obtain ⟨X, hX⟩ : ∃ X, X = (((w.alloc (.cells (rowV A).toArray 129)).alloc (.cells (rowV B).toArray 129)).alloc (.cells #[.int .i64 0, .int .i64 0, .int .i64 0, .int .i64 0, .int .i64 0, .int .i64 0, .int .i64 0, .int .i64 0, .int .i64 0, .int .i64 0, .int .i64 0, .int .i64 0, .int .i64 0, .int .i64 0, .int .i64 0, .int .i64 0, .int .i64 0, .int .i64 0, .int .i64 0, .int .i64 0, .int .i64 0, .int .i64 0, .int .i64 0, .int .i64 0] 129)).alloc (.cells #[.int .i64 0, .int .i64 0, .int .i64 0, .int .i64 0, .int .i64 0, .int .i64 0, .int .i64 0, .int .i64 0, .int .i64 0, .int .i64 0, .int .i64 0, .int .i64 0, .int .i64 0, .int .i64 0, .int .i64 0, .int .i64 0, .int .i64 0, .int .i64 0, .int .i64 0, .int .i64 0, .int .i64 0, .int .i64 0, .int .i64 0, .int .i64 0] 129) := ⟨_, rfl⟩
  obtain ⟨hbX, hXs, hX0, hX1, hX2, hX3⟩ := four_boxes _ _ _ _ _ X hX
  rw [zero24] at hX2 hX3
  have HBX := hide hbX
  have HX2 := hide hX2
  have HX3 := hide hX3
  have HXs := hide hXs
  have HA := hide hA
  have HB := hide hB
  have H0 : Hid (X.heap[w.heap.size]? = some (.cells (rowV (offT A B 0)).toArray 129 (0, 0))) := by show _ = _; rw [offT_zero]; exact hX0
  have H1 : Hid (X.heap[w.heap.size + 1]? = some (.cells (rowV (offT B A 0)).toArray 129 (0, 0))) := by show _ = _; rw [offT_zero]; exact hX1
  clear hbX hXs hX0 hX1 hX2 hX3 hA hB
  go_enter Tryz.func64, Tryz.ntmps64
  go_wp2_with fail
  rw [← hX]
  clear hX
  go_loopw [7] (fun i wr => ∃ (j : Nat), j ≤ 24 ∧ i = .int .i64 j ∧ Hid (wr.heap[w.heap.size]? = some (.cells (rowV (offT A B j)).toArray 129 (0, 0))) ∧ Hid (wr.heap[w.heap.size + 1]? = some (.cells (rowV (offT B A j)).toArray 129 (0, 0))) ∧ Hid (Gr X wr (fun q => q = w.heap.size ∨ q = w.heap.size + 1))) (fun i _ => 24 - (intOf i).toNat)
  case atStart => exact ⟨0, Nat.zero_le _, rfl, H0, H1, Gr.refl _ _⟩
  case round =>
    obtain ⟨j, hj, rfl, HR0, HR1, HG⟩ := hrel
    clear H0 H1
    have hAl := unhide HA
    have hBl := unhide HB
    have hl : A.length = B.length := by omega
    have hl2 : B.length = A.length := by omega
    by_cases hlt : j < 24
    · have hjA : j < A.length := by omega
      have hjB : j < B.length := by omega
      have c0 := cell_of (unhide HR0) j _ (rowV_at (offT_at hl hjA))
      have c1 := cell_of (unhide HR1) j _ (rowV_at (offT_at hl2 hjB))
      have f0 := frozen_of (unhide HR0) j
      have f1 := frozen_of (unhide HR1) j
      have l0 := lt_of_block (unhide HR0)
      have l1 := lt_of_block (unhide HR1)
      have hjI : (j : Int) < 24 := by omega
      obtain ⟨x, hx⟩ : ∃ x, A[j] = x := ⟨_, rfl⟩
      obtain ⟨y, hy⟩ : ∃ y, B[j] = y := ⟨_, rfl⟩
      rw [hx] at c0
      rw [hy] at c1
      have HXX := hide hx
      have HYY := hide hy
      have HL := hide hl
      have HL2 := hide hl2
      clear hx hy hl hl2 hAl hBl
      by_cases hxy : x = y
      · subst hxy
        have HN0 : Hid (((wr.drew.setCell ⟨w.heap.size, j, none⟩ (.int .i64 0)).setCell ⟨w.heap.size + 1, j, none⟩ (.int .i64 0)).heap[w.heap.size]? = some (.cells (rowV (offT A B (j + 1))).toArray 129 (0, 0))) := by
          show _ = _
          rw [Below.heap_setCell _ _ _ _ (by simp), offT_succ (unhide HL) hjA, if_pos ((unhide HXX).trans (unhide HYY).symm), rowV_set]
          exact row_set (unhide HR0) j _
        have HN1 : Hid (((wr.drew.setCell ⟨w.heap.size, j, none⟩ (.int .i64 0)).setCell ⟨w.heap.size + 1, j, none⟩ (.int .i64 0)).heap[w.heap.size + 1]? = some (.cells (rowV (offT B A (j + 1))).toArray 129 (0, 0))) := by
          show _ = _
          rw [offT_succ (unhide HL2) hjB, if_pos ((unhide HYY).trans (unhide HXX).symm), rowV_set]
          exact row_set ((Below.heap_setCell _ _ _ _ (by simp)).trans (unhide HR1)) j _
        have HN : Hid (Gr X ((wr.drew.setCell ⟨w.heap.size, j, none⟩ (.int .i64 0)).setCell ⟨w.heap.size + 1, j, none⟩ (.int .i64 0)) (fun q => q = w.heap.size ∨ q = w.heap.size + 1)) := ((unhide HG).draw.one w.heap.size j (.inl (.inl rfl)) _).one (w.heap.size + 1) j (.inl (.inr rfl)) _
        go_wp2_with fail
        go_region
        all_goals
          go_wp2
          go_roundw
          case rel => exact ⟨j + 1, by omega, by go_num, HN0, HN1, HN⟩
          case measure => simp [intOf]; omega
      · have HN0 : Hid (wr.drew.heap[w.heap.size]? = some (.cells (rowV (offT A B (j + 1))).toArray 129 (0, 0))) := by show _ = _; rw [offT_same (unhide HL) hjA (by rw [unhide HXX, unhide HYY]; exact hxy)]; exact unhide HR0
        have HN1 : Hid (wr.drew.heap[w.heap.size + 1]? = some (.cells (rowV (offT B A (j + 1))).toArray 129 (0, 0))) := by show _ = _; rw [offT_same (unhide HL2) hjB (by rw [unhide HXX, unhide HYY]; exact fun q => hxy q.symm)]; exact unhide HR1
        have HN := hide (unhide HG).draw
        have gb : (x == y) = false := by simp [hxy]
        go_wp2_with fail
        go_region
        all_goals
          go_wp2
          go_roundw
          case rel => exact ⟨j + 1, by omega, by go_num, HN0, HN1, HN⟩
          case measure => simp [intOf]; omega
    · obtain rfl : j = 24 := by omega
      have e0 := offT_all hl 24 (by omega)
      have e1 := offT_all hl2 24 (by omega)
      rw [e0] at HR0
      rw [e1] at HR1
      have hi0 : (Tryz.prog.info? 129).map (·.size) = some (rowV (offD A B)).toArray.size := row_info (by rw [offD_len hl]; exact hAl)
      have hi1 : (Tryz.prog.info? 129).map (·.size) = some (rowV (offD B A)).toArray.size := row_info (by rw [offD_len hl2]; exact hBl)
      have s0 : ((rowV (List.replicate 24 0)).toArray : Array Value).size = (rowV (offD A B)).toArray.size := by simp [rowV, offD_len hl, hAl]
      have s1 : ((rowV (List.replicate 24 0)).toArray : Array Value).size = (rowV (offD B A)).toArray.size := by simp [rowV, offD_len hl2, hBl]
      have o0 := rowV_one (offD A B)
      have o1 := rowV_one (offD B A)
      have H2 := hide ((unhide HG).heap (unhide HX2) (by omega))
      have H3 := hide ((unhide HG).heap (unhide HX3) (by omega))
      have HBW := hide ((unhide HG).below (unhide HBX) (by have := unhide HXs; omega) (fun q e => by omega))
      obtain ⟨P0, hP0⟩ : ∃ P0, (rowV (offD A B)).toArray = P0 := ⟨_, rfl⟩
      obtain ⟨P1, hP1⟩ : ∃ P1, (rowV (offD B A)).toArray = P1 := ⟨_, rfl⟩
      rw [hP0] at hi0 s0 o0 HR0
      rw [hP1] at hi1 s1 o1 HR1
      have HS0 := hide s0
      have HS1 := hide s1
      clear e0 e1 hAl hBl hl hl2 s0 s1
      go_wp2_with fail
      refine wp_region_held_drew (S := fun V => V.heap[w.heap.size]? = some (.cells P0 129 (0, 0)) ∧ V.heap[w.heap.size + 1]? = some (.cells P1 129 (0, 0)) ∧ (V.heap[w.heap.size + 2]? = some (.cells P0 129 (0, 0)) ∨ V.heap[w.heap.size + 2]? = some (.cells (rowV (List.replicate 24 0)).toArray 129 (0, 0)))) (by kernel_rfl) ⟨unhide HR0, unhide HR1, .inr (unhide H2)⟩ (fun hHeld => ?_)
      refine tk 0 { dst := some 22, op := Op.load 129 (Operand.tmp 2), type := 129, pos := "move.go:43", after := #[], guard := none } (.agg P0) rfl ?_ hHeld ?_
      · (intro V hSw; exact load_yields 129 _ rfl w.heap.size rfl P0 129 hSw.1 _ _ Tryz.underlying129 hi0)
      (try simp only [Act.put, List.setIfInBounds_toArray, List.set_cons_zero, List.set_cons_succ])
      refine tk 1 { dst := some 23, op := Op.load 129 (Operand.tmp 3), type := 129, pos := "move.go:43", after := #[{ on := 2, ground := Ground.gcOnly Departure.lateStores }], guard := none } (.agg P1) rfl ?_ hHeld ?_
      · (intro V hSw; exact load_yields 129 _ rfl (w.heap.size + 1) rfl P1 129 hSw.2.1 _ _ Tryz.underlying129 hi1)
      (try simp only [Act.put, List.setIfInBounds_toArray, List.set_cons_zero, List.set_cons_succ])
      refine wpAnyH_ready (rs := [2]) (by kernel_rfl) (by simp) ?_
      refine AllReadyH.cons (o := { dst := none, op := Op.store 129 (Operand.tmp 4) (Operand.tmp 22), type := 0, pos := "move.go:43", after := #[{ on := 0, ground := Ground.data }, { on := 0, ground := Ground.phase }, { on := 1, ground := Ground.textOnly Departure.lateStores }], guard := none }) rfl (fun KQ hK => ?_) AllReadyH.nil
      refine step_store_row (by rfl) 129 _ _ rfl (w.heap.size + 2) rfl (rowV (List.replicate 24 0)).toArray P0 rfl 129 (unhide H2) hi0 (unhide HS0) o0 ?_
      refine hK.out _ _ ⟨(setRow_other _ _ _ _ (by omega)).trans (unhide HR0), (setRow_other _ _ _ _ (by omega)).trans (unhide HR1), .inl (setRow_heap _ _ _ _ _ _ (unhide H2))⟩ (fun hHeld2 => ?_)
      clear hK KQ hHeld
      have hHeld := hHeld2
      clear hHeld2
      (try simp only [Act.put])
      refine wpAnyH_ready (rs := [3]) (by kernel_rfl) (by simp) ?_
      refine AllReadyH.cons (o := { dst := none, op := Op.store 129 (Operand.tmp 5) (Operand.tmp 23), type := 0, pos := "move.go:43", after := #[{ on := 1, ground := Ground.data }, { on := 2, ground := Ground.chain }, { on := 0, ground := Ground.phase }, { on := 1, ground := Ground.phase }, { on := 2, ground := Ground.phase }], guard := none }) rfl (fun KQ hK => ?_) AllReadyH.nil
      refine step_store_row (by rfl) 129 _ _ rfl (w.heap.size + 3) rfl (rowV (List.replicate 24 0)).toArray P1 rfl 129 ((setRow_other _ _ _ _ (by omega)).trans (unhide H3)) hi1 (unhide HS1) o1 ?_
      refine hK.out _ _ ⟨(setRow_other _ _ _ _ (by omega)).trans ((setRow_other _ _ _ _ (by omega)).trans (unhide HR0)), (setRow_other _ _ _ _ (by omega)).trans ((setRow_other _ _ _ _ (by omega)).trans (unhide HR1)), .inl ((setRow_other _ _ _ _ (by omega)).trans (setRow_heap _ _ _ _ _ _ (unhide H2)))⟩ (fun hHeld2 => ?_)
      clear hK KQ hHeld
      have hHeld := hHeld2
      clear hHeld2
      (try simp only [Act.put])
      refine wpAnyH_done (by kernel_rfl) ?_ _
      clear hHeld
      go_wp2
      (try simp only [Exit.inBlock, Exit.then])
      have h2 : ((wr.drew.setRow (w.heap.size + 2) P0).setRow (w.heap.size + 3) P1).heap[w.heap.size + 2]? = some (.cells P0 129 (0, 0)) := (setRow_other _ _ _ _ (by omega)).trans (setRow_heap _ _ _ _ _ _ (unhide H2))
      have h3 : ((wr.drew.setRow (w.heap.size + 2) P0).setRow (w.heap.size + 3) P1).heap[w.heap.size + 3]? = some (.cells P1 129 (0, 0)) := setRow_heap _ _ _ _ _ _ ((setRow_other _ _ _ _ (by omega)).trans (unhide H3))
      have L2 := run_loadVar_row (P := Tryz.prog) _ (w.heap.size + 2) 129 129 _ (0, 0) _ h2 Tryz.underlying129 rfl hi0
      have L3 := run_loadVar_row (P := Tryz.prog) _ (w.heap.size + 3) 129 129 _ (0, 0) _ h3 Tryz.underlying129 rfl hi1
      have hd : Below w.heap.size w wr.drew := ⟨(unhide HBW).os, (unhide HBW).tape, (unhide HBW).output, (unhide HBW).size, (unhide HBW).block⟩
      refine bodyPost_ret (v := .tuple #[.agg P0, .agg P1]) (results_cc rfl _ _ _ rfl rfl L2 L3) rfl ⟨by rw [hP0, hP1], below_setRow (below_setRow hd (by omega) _) (by omega) _⟩

end Go.Proofs.YtmomfkikogbdeaaGreatDoor

/- slices.Backward over a row of any ints. -/
namespace Go.Proofs.YtmomfkikogbdeaaGreatDoor
open Go.RowKit Go.Shelf

attribute [local go_sem] Oper.semAt_some

abbrev encF (m : Nat) (f : Nat → Int) (x : { i : Nat // i < m }) : Array Value := #[Value.int .i64 (x.1 : Int), Value.int .i64 (f x.1)]

set_option maxRecDepth 100000 in
set_option maxHeartbeats 2000000 in
theorem backF1_in (f : Nat → Int) (F : Fence) (n : Nat) (h8 : F.fn 197) (hro : F.round = none) (hn : 1 ≤ n) (l Bs n1 bb bc tb m cap : Nat) (hm : m ≤ 24) (hb : tb < n1) (hb2 : tb ≠ bb) (hb3 : tb ≠ bc) (hBl : Bs < n1) (hB2 : Bs ≠ bb) (hB3 : Bs ≠ bc) (J Jx : List { i : Nat // i < m } → World → Prop)
    (hY : ∀ pre x W, J pre W → pre.length < m → YieldAt F (n - 1) Tryz.prog l (encF m f x) W fun e W' =>
      (e = .returned (.bool true) ∧ J (pre ++ [x]) W' ∧ KpD n1 bb bc W W') ∨ (e = .returned (.bool false) ∧ Jx (pre ++ [x]) W'))
    (W : World) (hBs : W.cell? ⟨Bs, 0, none⟩ = some (.slice (some ⟨tb, 0, none⟩) m cap)) (hc : ∀ j, j < m → W.cell? ⟨tb, j, none⟩ = some (.int .i64 (f j))) (h0 : J [] W) :
    CallsIn F n Tryz.prog 197 #[.func (.yield l) #[] #[], .pointer (some ⟨Bs, 0, none⟩)] W fun e W' => (∃ v, e = .returned v) ∧
      ((∃ ys, ys = dnL m m (Nat.le_refl m) ∧ J ys W') ∨ (∃ pre, (∃ k, ∃ h : k ≤ m, pre = dnL m k h) ∧ Jx pre W')) := by
  have hm0 : (m : Int) ≤ 24 := by omega
  refine callsIn_of_wp Tryz.func197 rfl h8 ?_ hro
  simp only [Tryz.ntmps197, List.size_toArray, List.length_cons, List.length_nil, Nat.reduceAdd, Nat.reduceSub, Array.replicate_succ, Array.replicate_zero, List.push_toArray, List.append_toArray, List.nil_append, List.cons_append]
  gi_wp2
  gi_loopw [3] (fun i wr => ∃ (k : Nat) (h : k ≤ m), i = .int .i64 ((m : Int) - k - 1) ∧ J (dnL m k h) wr ∧ KpD n1 bb bc W wr)
    (fun i _ => (intOf i + 1).toNat)
  case atStart => exact ⟨0, Nat.zero_le _, by simp, h0, KpD.refl _ _ _ _⟩
  case round =>
    obtain ⟨k, hk, rfl, hJs, hnx⟩ := hrel
    by_cases hlt : k < m
    · obtain ⟨j, hj, hjm⟩ : ∃ j, j = m - 1 - k ∧ j < m := ⟨_, rfl, by omega⟩
      obtain ⟨fn, tmps, assign, body, hy, hR⟩ := hY _ ⟨j, hjm⟩ wr hJs (by rw [dnL_len]; exact hlt)
      dsimp only [encF] at hy
      have hcx := hnx.cell hb hb2 hb3 (hc j hjm)
      have hbx := hnx.cell hBl hB2 hB3 hBs
      have e1 : (m : Int) - k - 1 = (j : Int) := by omega
      have e2 : (m : Int) - ((k + 1 : Nat) : Int) - 1 = (j : Int) - 1 := by omega
      have HJ : Hid (j = m - 1 - k) := hj
      obtain ⟨tv, htv⟩ : ∃ tv : Int, f j = tv := ⟨_, rfl⟩
      rw [htv] at hy hcx
      clear hj htv
      rw [e1]
      have hj0 : (0 : Int) ≤ (j : Int) := by omega
      have hj1 : (j : Int) < (m : Int) := by omega
      clear hc hBs
      gi_wp2
      refine hR.mono ?_
      rintro e W3 (⟨rfl, hJ3, hk3⟩ | ⟨rfl, hJx3⟩)
      · gi_wp2
        go_roundw
        case rel =>
          refine ⟨k + 1, hlt, ?_, ?_, hnx.trans hk3⟩
          · rw [e2]
          · rw [dnL]
            obtain rfl := unhide HJ
            exact hJ3
        case measure => simp [intOf]
      · gi_wp2
        refine bodyPost_ret (results_none rfl _ _ _) rfl ?_
        refine ⟨⟨_, rfl⟩, .inr ⟨_, ⟨k + 1, hlt, ?_⟩, hJx3⟩⟩
        rw [dnL]
        obtain rfl := unhide HJ
        rfl
    · obtain rfl : k = m := by omega
      have e1 : (k : Int) - k - 1 = -1 := by omega
      rw [e1]
      clear hc hBs
      gi_wp2
      go_end0
      exact ⟨⟨_, rfl⟩, .inl ⟨_, rfl, hJs⟩⟩

theorem backF_stops (f : Nat → Int) (F : Fence) (n : Nat) (h8 : F.fn 197) (hro : F.round = none) (hn : 1 ≤ n) (Bs n1 bb bc tb m cap : Nat) (hm : m ≤ 24) (w : World) (hw : w.heap.size = n1) (hb : tb < n1) (hb2 : tb ≠ bb) (hb3 : tb ≠ bc) (hBl : Bs < n1) (hB2 : Bs ≠ bb) (hB3 : Bs ≠ bc)
    (hBs : w.cell? ⟨Bs, 0, none⟩ = some (.slice (some ⟨tb, 0, none⟩) m cap)) (hc : ∀ j, j < m → w.cell? ⟨tb, j, none⟩ = some (.int .i64 (f j))) :
    SeqStopsK F n Tryz.prog 197 #[.pointer (some ⟨Bs, 0, none⟩)] (encF m f) (KpD n1 bb bc) (fun ys => ys = dnL m m (Nat.le_refl m)) (fun pre => ∃ k, ∃ h : k ≤ m, pre = dnL m k h) m w := fun l J Jx W hW _ _ hY h0 => by
  subst hw
  exact backF1_in f F n h8 hro hn l Bs w.heap.size bb bc tb m cap hm hb hb2 hb3 hBl hB2 hB3 J Jx hY W (cell_later hW hBs) (fun j hj => cell_later hW (hc j hj)) h0

end Go.Proofs.YtmomfkikogbdeaaGreatDoor
