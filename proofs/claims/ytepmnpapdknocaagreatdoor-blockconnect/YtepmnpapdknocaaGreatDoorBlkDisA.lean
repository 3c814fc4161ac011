/- The contract of Disconnect, every way. -/
import Derived.Test.YtepmnpapdknocaaGreatDoorBlkDis
namespace Go.Proofs.YtepmnpapdknocaaGreatDoor
open Go.RowKit

theorem nf_len {K : List ByteArray} {C : List CoinD} {b : BlkD} {N : List Int} (h : nfD K C b = (N, 0)) : N.length = b.2.2.2.2.length ∧ 0 < b.2.2.2.2.length ∧ b.2.2.2.2.length ≤ 4 := by
  obtain ⟨_, hb, X, n, N', hN, hN2⟩ := nfD_zero (by rw [h])
  rw [h] at hN2
  have e := (nms_zero hN).2.2.2.2.1
  obtain ⟨h0, h4, _, _⟩ := chkB_few hb
  have hN3 : N = N' := hN2
  rw [hN3]
  exact ⟨by rw [e]; simp, h0, h4⟩

set_option maxRecDepth 100000 in
set_option maxHeartbeats 6400000 in
theorem dis_early (ka : Option Addr) (kn kc : Nat) (K : List ByteArray) (la : Option Addr) (ln lc : Nat) (C0 : List CoinD) (p h k0 n : Int) (a : Option Addr) (m c : Nat) (L : List TxD) (ua : Option Addr) (un uc : Nat) (N : List Int) (x y : Int) (w : World) (hE : Env w) (hK : Bk.TextsAt w ka kn K) (hC : CoinsAt w la ln C0) (hL : TxsAt w a m L) (hnf : nfD K C0 (p, h, k0, n, L) = (N, x)) (hy : (x ≠ 0 ∧ y = x) ∨ (x = 0 ∧ un ≠ m ∧ y = 4)) :
    Calls Tryz.prog 7 #[.agg #[.slice ka kn kc], .slice la ln lc, .agg #[.int .i64 p, .int .i64 h, .int .i64 k0, .int .i64 n, .slice a m c], .slice ua un uc] w fun e w' => RvR w w' y [] e := by
  obtain ⟨X, hX⟩ : ∃ X, X = (((((w.alloc (.cells #[.slice ka kn kc] 24)).alloc (.cells #[.slice la ln lc] 25)).alloc (.cells #[.int .i64 p, .int .i64 h, .int .i64 k0, .int .i64 n, .slice a m c] 28)).alloc (.cells #[.slice ua un uc] 29)).alloc (.cells #[.slice none 0 0] 25)).alloc (.cells #[.int .i64 0] 31) := ⟨_, rfl⟩
  obtain ⟨hbX, hXs, x1, x2, x3, x4, x5, x6⟩ := six_boxes w _ _ _ _ _ _ X hX
  have NF := hide (namesFor_is ka kn kc K la ln lc C0 p h k0 n a m c L N x X (hE.later hbX) (hK.later hbX) (hC.later hbX) (hL.later hbX) hnf)
  have c1 := cell_of (X := [.slice ka kn kc]) x1 0 _ rfl
  have c2 := cell_of (X := [.slice la ln lc]) x2 0 _ rfl
  have c30 := cell_of (X := [.int .i64 p, .int .i64 h, .int .i64 k0, .int .i64 n, .slice a m c]) x3 0 _ rfl
  have c31 := cell_of (X := [.int .i64 p, .int .i64 h, .int .i64 k0, .int .i64 n, .slice a m c]) x3 1 _ rfl
  have c32 := cell_of (X := [.int .i64 p, .int .i64 h, .int .i64 k0, .int .i64 n, .slice a m c]) x3 2 _ rfl
  have c33 := cell_of (X := [.int .i64 p, .int .i64 h, .int .i64 k0, .int .i64 n, .slice a m c]) x3 3 _ rfl
  have c34 := cell_of (X := [.int .i64 p, .int .i64 h, .int .i64 k0, .int .i64 n, .slice a m c]) x3 4 _ rfl
  have hs1 := lt_of_block x1
  have hs2 := lt_of_block x2
  have hs3 := lt_of_block x3
  have HBX := hide hbX
  have HX3 := hide x3
  have HX4 := hide x4
  have HX5 := hide x5
  have HX6 := hide x6
  have HXS := hide hXs
  clear hE hK hC hL hnf hbX x1 x2 x3 x4 x5 x6 hXs
  go_enter Tryz.func7, Tryz.ntmps7
  go_wp2_with fail
  rw [← hX]
  clear hX
  refine (unhide NF).mono ?_
  rintro e w1 ⟨na, nn, nc, rfl, hN, hnc, hb1⟩
  obtain ⟨Y, hY⟩ : ∃ Y, Y = (w1.alloc (.cells #[.slice na nn nc] 30)).alloc (.cells #[.int .i64 x] 31) := ⟨_, rfl⟩
  have hbY : Below w1.heap.size w1 Y := by rw [hY]; exact bel_on (bel_new _ _) (bel_new _ _)
  have y11 : Y.heap[w1.heap.size + 1]? = some (.cells [.int .i64 x].toArray 31 (0, 0)) := by
    rw [hY]
    have := heap_alloc_new (w1.alloc (.cells #[.slice na nn nc] 30)) (.cells #[.int .i64 x] 31)
    rw [show (w1.alloc (.cells #[.slice na nn nc] 30)).heap.size = w1.heap.size + 1 by simp] at this
    exact this
  have hs1' := hb1.size
  have hXs := unhide HXS
  have hXY := bel_on hb1 hbY
  have d3 := (hb1.block _ (lt_of_block (unhide HX3))).trans (unhide HX3)
  have d34 := cell_of (X := [.int .i64 p, .int .i64 h, .int .i64 k0, .int .i64 n, .slice a m c]) d3 4 _ rfl
  have d3l := lt_of_block d3
  have d4 := (hb1.block _ (lt_of_block (unhide HX4))).trans (unhide HX4)
  have d40 := cell_of (X := [.slice ua un uc]) d4 0 _ rfl
  have d4l := lt_of_block d4
  have d2l : w.heap.size + 1 < w1.heap.size := by omega
  have d1l : w.heap.size < w1.heap.size := by omega
  have d8 := (hXY.block _ (lt_of_block (unhide HX5))).trans (unhide HX5)
  have d9 := (hXY.block _ (lt_of_block (unhide HX6))).trans (unhide HX6)
  have o8 := (hb1.block _ (lt_of_block (unhide HX5))).trans (unhide HX5)
  have o9 := (hb1.block _ (lt_of_block (unhide HX6))).trans (unhide HX6)
  have O8 := hide o8
  have O9 := hide o9
  have c8w := cell_of (X := [.slice none 0 0]) o8 0 _ rfl
  have f8w := frozen_of o8 0
  have l8w := lt_of_block o8
  have c9w := cell_of (X := [.int .i64 0]) o9 0 _ rfl
  have f9w := frozen_of o9 0
  have l9w := lt_of_block o9
  have n98 : ¬ w.heap.size + 1 + 1 + 1 + 1 + 1 = w.heap.size + 1 + 1 + 1 + 1 := by omega
  have c8 := cell_of (X := [.slice none 0 0]) d8 0 _ rfl
  have f8 := frozen_of d8 0
  have l8 := lt_of_block d8
  have c9 := cell_of (X := [.int .i64 0]) d9 0 _ rfl
  have f9 := frozen_of d9 0
  have l9 := lt_of_block d9
  have c11 := cell_of y11 0 _ rfl
  have l11 := lt_of_block y11
  have n89 : ¬ w.heap.size + 1 + 1 + 1 + 1 = w.heap.size + 1 + 1 + 1 + 1 + 1 := by omega
  have n811 : ¬ w1.heap.size + 1 = w.heap.size + 1 + 1 + 1 + 1 := by omega
  have HW1 := hide (bel_on (unhide HBX) hb1)
  have HF : Hid (∀ V v5 v6, V = (Y.drew.setCell ⟨w.heap.size + 1 + 1 + 1 + 1, 0, none⟩ v5).setCell ⟨w.heap.size + 1 + 1 + 1 + 1 + 1, 0, none⟩ v6 ∨ V = (Y.setCell ⟨w.heap.size + 1 + 1 + 1 + 1, 0, none⟩ v5).setCell ⟨w.heap.size + 1 + 1 + 1 + 1 + 1, 0, none⟩ v6 ∨ V = ((Y.setCell ⟨w.heap.size + 1 + 1 + 1 + 1, 0, none⟩ v5).setCell ⟨w.heap.size + 1 + 1 + 1 + 1 + 1, 0, none⟩ v6).drew → Below w.heap.size w V) := by
    intro V v5 v6 hV
    have hb := bel_on (unhide HBX) hXY
    rcases hV with rfl | rfl | rfl
    · exact ((bel_on hb (bel_draw1 Y)).setCell (p := ⟨w.heap.size + 1 + 1 + 1 + 1, 0, none⟩) (by show w.heap.size ≤ w.heap.size + 1 + 1 + 1 + 1; omega) _).setCell (p := ⟨w.heap.size + 1 + 1 + 1 + 1 + 1, 0, none⟩) (by show w.heap.size ≤ w.heap.size + 1 + 1 + 1 + 1 + 1; omega) _
    · exact (hb.setCell (p := ⟨w.heap.size + 1 + 1 + 1 + 1, 0, none⟩) (by show w.heap.size ≤ w.heap.size + 1 + 1 + 1 + 1; omega) _).setCell (p := ⟨w.heap.size + 1 + 1 + 1 + 1 + 1, 0, none⟩) (by show w.heap.size ≤ w.heap.size + 1 + 1 + 1 + 1 + 1; omega) _
    · exact bel_on ((hb.setCell (p := ⟨w.heap.size + 1 + 1 + 1 + 1, 0, none⟩) (by show w.heap.size ≤ w.heap.size + 1 + 1 + 1 + 1; omega) _).setCell (p := ⟨w.heap.size + 1 + 1 + 1 + 1 + 1, 0, none⟩) (by show w.heap.size ≤ w.heap.size + 1 + 1 + 1 + 1 + 1; omega) _) (bel_draw1 _)
  clear hN hb1 hbY y11 hXY d3 d4 d8 d9 o8 o9 hs1' hXs NF c1 c2 c30 c31 c32 c33 c34 hs1 hs2 hs3
  have HZ : Hid (∀ (v : Value) (o1 o2 : Obj), ((((w1.setCell ⟨w.heap.size + 1 + 1 + 1 + 1, 0, none⟩ (.slice none 0 0)).setCell ⟨w.heap.size + 1 + 1 + 1 + 1 + 1, 0, none⟩ v).alloc o1).alloc o2).cell? ⟨w.heap.size + 1 + 1 + 1 + 1, 0, none⟩ = some (.slice none 0 0) ∧ ((((w1.setCell ⟨w.heap.size + 1 + 1 + 1 + 1, 0, none⟩ (.slice none 0 0)).setCell ⟨w.heap.size + 1 + 1 + 1 + 1 + 1, 0, none⟩ v).alloc o1).alloc o2).cell? ⟨w.heap.size + 1 + 1 + 1 + 1 + 1, 0, none⟩ = some v) := by
    intro v o1 o2
    have g4 := (Gr.refl w1 (fun q => q = w.heap.size + 1 + 1 + 1 + 1)).set (p := ⟨w.heap.size + 1 + 1 + 1 + 1, 0, none⟩) (.inl rfl) (.slice none 0 0)
    have e8 := box_set (u := .slice none 0 0) (unhide O8)
    have e9 := g4.heap (unhide O9) n98
    have g5 := (Gr.refl (w1.setCell ⟨w.heap.size + 1 + 1 + 1 + 1, 0, none⟩ (.slice none 0 0)) (fun q => q = w.heap.size + 1 + 1 + 1 + 1 + 1)).set (p := ⟨w.heap.size + 1 + 1 + 1 + 1 + 1, 0, none⟩) (.inl rfl) v
    have k9 := box_set (u := v) e9
    have k8 := g5.heap e8 n89
    have hb := bel_on (bel_new ((w1.setCell ⟨w.heap.size + 1 + 1 + 1 + 1, 0, none⟩ (.slice none 0 0)).setCell ⟨w.heap.size + 1 + 1 + 1 + 1 + 1, 0, none⟩ v) o1) (bel_new _ o2)
    exact ⟨cell_later hb (cell_of (X := [.slice none 0 0]) k8 0 _ rfl), cell_later hb (cell_of (X := [v]) k9 0 _ rfl)⟩
  rcases hy with ⟨hx, rfl⟩ | ⟨rfl, hu, rfl⟩
  · have gx : (y != 0) = true := by simp [hx]
    go_wp2
    rw [← hY]
    clear hY
    go_region
    go_wp2
    (try simp only [Exit.inBlock, Exit.then])
    refine bodyPost_ret (v := .tuple #[.slice none 0 0, .int .i64 y]) ?_ rfl ?_
    · simp [results, Tryz.f7, go_sem, c8, c9]
    · refine rv_err rfl ((unhide HF) _ (.slice none 0 0) (.int .i64 y) ?_)
      first | exact .inl rfl | exact .inr (.inl rfl) | exact .inr (.inr rfl)
  · have gu : ((un : Int) != (m : Int)) = true := by simp; omega
    go_wp2
    (try simp only [Exit.inBlock, Exit.then])
    refine bodyPost_ret (v := .tuple #[.slice none 0 0, .int .i64 4]) ?_ rfl ?_
    · obtain ⟨z8, z9⟩ := (unhide HZ) (.int .i64 4) (.cells #[.slice na nn nc] 30) (.cells #[.int .i64 0] 31)
      simp [results, Tryz.f7, go_sem, z8, z9]
    · exact rv_err rfl (bel_on (((unhide HW1).setCell (p := ⟨w.heap.size + 1 + 1 + 1 + 1, 0, none⟩) (by show w.heap.size ≤ w.heap.size + 1 + 1 + 1 + 1; omega) _).setCell (p := ⟨w.heap.size + 1 + 1 + 1 + 1 + 1, 0, none⟩) (by show w.heap.size ≤ w.heap.size + 1 + 1 + 1 + 1 + 1; omega) _) (bel_on (bel_new _ _) (bel_new _ _)))

theorem disconnect_is (ka : Option Addr) (kn kc : Nat) (K : List ByteArray) (la : Option Addr) (ln lc : Nat) (C0 : List CoinD) (p h k0 n : Int) (a : Option Addr) (m c : Nat) (L : List TxD) (ua : Option Addr) (un uc : Nat) (S : List (List CoinD)) (x : Int) (C' : List CoinD) (w : World) (hE : Env w) (hK : Bk.TextsAt w ka kn K) (hC : CoinsAt w la ln C0) (sC : SlOk la ln lc) (hL : TxsAt w a m L) (hU : UndosAt w ua un S) (hx : disD K C0 (p, h, k0, n, L) S = (x, C')) :
    Calls Tryz.prog 7 #[.agg #[.slice ka kn kc], .slice la ln lc, .agg #[.int .i64 p, .int .i64 h, .int .i64 k0, .int .i64 n, .slice a m c], .slice ua un uc] w fun e w' => RvR w w' x C' e := by
  obtain ⟨⟨N, z⟩, hnf⟩ : ∃ r, nfD K C0 (p, h, k0, n, L) = r := ⟨_, rfl⟩
  have hLl : L.length = m := hL.1
  unfold disD at hx
  rw [hnf] at hx
  by_cases hz : z = 0
  · subst hz
    rw [if_neg (fun q => q rfl)] at hx
    by_cases hl : S.length = L.length
    · rw [if_neg (fun q => q hl)] at hx
      obtain ⟨e1, e2, e3⟩ := nf_len hnf
      have hum : un = m := by rw [← hU.1, hl, hLl]
      subst hum
      have e1 : N.length = un := by rw [← hLl]; exact e1
      have hx : disGo L N S L.length C0 = (x, C') := hx
      rw [hLl] at hx
      exact dis_main ka kn kc K la ln lc C0 p h k0 n a un c L ua uc S N x C' w hE hK hC sC hL hU (by rw [← hLl]; exact e3) (by rw [← hLl]; exact e2) hnf e1 hx
    · rw [if_pos hl] at hx
      obtain ⟨rfl, rfl⟩ := Prod.mk.inj hx
      exact dis_early ka kn kc K la ln lc C0 p h k0 n a m c L ua un uc N 0 4 w hE hK hC hL hnf (.inr ⟨rfl, fun q => hl (by rw [hU.1, hLl]; exact q), rfl⟩)
  · rw [if_pos hz] at hx
    obtain ⟨rfl, rfl⟩ := Prod.mk.inj hx
    exact dis_early ka kn kc K la ln lc C0 p h k0 n a m c L ua un uc N z z w hE hK hC hL hnf (.inl ⟨hz, rfl⟩)

end Go.Proofs.YtepmnpapdknocaaGreatDoor
