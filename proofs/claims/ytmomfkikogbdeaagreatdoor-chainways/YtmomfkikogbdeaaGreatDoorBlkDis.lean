/- The contract of Disconnect. -/
import Derived.Test.YtmomfkikogbdeaaGreatDoorCoinEqToBlkDisL
import Derived.Test.YtmomfkikogbdeaaGreatDoorCoinBackAToCoinRevert
import Derived.Test.YtmomfkikogbdeaaGreatDoorTrFirstToTrStep
namespace Go.Proofs.YtmomfkikogbdeaaGreatDoor
open Go.RowKit Go.Shelf

def tvI (m j : Nat) : Int := (((j + 1) % m : Nat) : Int)

attribute [local go_sem] Oper.semAt_some

/-- Six boxes, one behind the other. -/
theorem six_boxes (w : World) (o1 o2 o3 o4 o5 o6 : Obj) (X : World) (hX : X = (((((w.alloc o1).alloc o2).alloc o3).alloc o4).alloc o5).alloc o6) :
    Below w.heap.size w X ∧ X.heap.size = w.heap.size + 6 ∧ X.heap[w.heap.size]? = some o1 ∧ X.heap[w.heap.size + 1]? = some o2 ∧ X.heap[w.heap.size + 1 + 1]? = some o3 ∧ X.heap[w.heap.size + 1 + 1 + 1]? = some o4 ∧ X.heap[w.heap.size + 1 + 1 + 1 + 1]? = some o5 ∧ X.heap[w.heap.size + 1 + 1 + 1 + 1 + 1]? = some o6 := by
  have b1 := bel_new w o1
  have b2 := bel_new (w.alloc o1) o2
  have b3 := bel_new ((w.alloc o1).alloc o2) o3
  have b4 := bel_new (((w.alloc o1).alloc o2).alloc o3) o4
  have b5 := bel_new ((((w.alloc o1).alloc o2).alloc o3).alloc o4) o5
  have b6 := bel_new (((((w.alloc o1).alloc o2).alloc o3).alloc o4).alloc o5) o6
  have h1 := heap_alloc_new w o1
  have h2 := heap_alloc_new (w.alloc o1) o2
  have h3 := heap_alloc_new ((w.alloc o1).alloc o2) o3
  have h4 := heap_alloc_new (((w.alloc o1).alloc o2).alloc o3) o4
  have h5 := heap_alloc_new ((((w.alloc o1).alloc o2).alloc o3).alloc o4) o5
  have h6 := heap_alloc_new (((((w.alloc o1).alloc o2).alloc o3).alloc o4).alloc o5) o6
  have k5 := b6
  have k4 := bel_on b5 b6
  have k3 := bel_on b4 k4
  have k2 := bel_on b3 k3
  have k1 := bel_on b2 k2
  have g1 := (k1.block _ (lt_of_block h1)).trans h1
  have g2 := (k2.block _ (lt_of_block h2)).trans h2
  have g3 := (k3.block _ (lt_of_block h3)).trans h3
  have g4 := (k4.block _ (lt_of_block h4)).trans h4
  have g5 := (k5.block _ (lt_of_block h5)).trans h5
  simp only [World.size_alloc] at g2 g3 g4 g5 h6
  subst hX
  exact ⟨bel_on b1 k1, by simp [World.size_alloc], g1, g2, g3, g4, g5, h6⟩

/-- What a round reads. -/
def SDs (b4 b10 tb tof m c ub uo un uc nb no nn nc i : Nat) (t1 : Int) (ai : Option Addr) (ni ci : Nat) (ao : Option Addr) (no2 co : Nat) (nm : Int) (sa : Option Addr) (sn sc : Nat) (V : World) : Prop :=
  V.cell? ⟨b4 + 1 + 1, 4, none⟩ = some (.slice (some ⟨tb, tof, none⟩) m c) ∧ V.cell? ⟨tb, tof + i * 3, none⟩ = some (.int .i64 t1) ∧ V.cell? ⟨tb, tof + i * 3 + 1, none⟩ = some (.slice ai ni ci) ∧ V.cell? ⟨tb, tof + i * 3 + 2, none⟩ = some (.slice ao no2 co) ∧
  V.cell? ⟨b10, 0, none⟩ = some (.slice (some ⟨nb, no, none⟩) nn nc) ∧ V.cell? ⟨nb, no + i, none⟩ = some (.int .i64 nm) ∧ V.cell? ⟨b4 + 1 + 1 + 1, 0, none⟩ = some (.slice (some ⟨ub, uo, none⟩) un uc) ∧ V.cell? ⟨ub, uo + i, none⟩ = some (.slice sa sn sc) ∧ b4 + 1 + 1 + 1 < V.heap.size ∧ b10 < V.heap.size
theorem one_ne {u : Value} {o : Nat} {k : IntKind} {x : Int} (h : #[u][o]? = some (.int k x)) (hu : ∀ k x, u ≠ .int k x) : False := by
  rcases o with _ | o
  · simp at h
    exact hu _ _ h
  · simp at h
theorem getD_at {α : Type} (l : List α) (i : Nat) (h : i < l.length) {d : α} : l.getD i d = l[i] := by simp [List.getD, h]

/-- Between two rounds. -/
def DsI (W0 : World) (n1 b5 b11 : Nat) (L : List TxD) (N : List Int) (S : List (List CoinD)) (C0 : List CoinD) {m : Nat} (pre : List { i : Nat // i < m }) (W : World) : Prop :=
  KpD n1 b5 b11 W0 W ∧ n1 ≤ W.heap.size ∧ ∃ C ca cn cc, disL L N S (pre.map (·.1)) C0 = (0, C) ∧ W.heap[b5]? = some (.cells #[.slice ca cn cc] 29 (0, 0)) ∧ CoinsAt W ca cn C ∧ SlOk ca cn cc ∧ W.heap[b11]? = some (.cells #[.int .i64 0] 30 (0, 0))
/-- A round has left: something is wrong. -/
def DsX (w : World) (n1 b8 b9 : Nat) (L : List TxD) (N : List Int) (S : List (List CoinD)) (C0 : List CoinD) {m : Nat} (cd : Code) (pre : List { i : Nat // i < m }) (W : World) : Prop :=
  cd = .ret ∧ Below w.heap.size w W ∧ n1 ≤ W.heap.size ∧ ∃ y M, y ≠ 0 ∧ disL L N S (pre.map (·.1)) C0 = (y, M) ∧ W.heap[b8]? = some (.cells #[.slice none 0 0] 29 (0, 0)) ∧ W.heap[b9]? = some (.cells #[.int .i64 y] 30 (0, 0))
theorem dsI_own {W0 : World} {n1 b5 b11 : Nat} {L : List TxD} {N : List Int} {S : List (List CoinD)} {C0 : List CoinD} {m : Nat} (h5 : b5 < n1) (h11 : b11 < n1) : OwnFrom n1 (DsI W0 n1 b5 b11 L N S C0 (m := m)) := by
  rintro pre W W' row ⟨k1, k2, C, ca, cn, cc, k3, k4, k5, k6, k7⟩ hg hr
  refine ⟨k1.grown hg (fun r e => (hr r e).1) k2, Nat.le_trans k2 hg.size, C, ca, cn, cc, k3, ?_, coins_cells (kept_grown hg (fun r e => (hr r e).2)) k5, k6, ?_⟩
  · exact (hg.block b5 (by omega) (fun e => by have := (hr b5 e.symm).1; omega)).trans k4
  · exact (hg.block b11 (by omega) (fun e => by have := (hr b11 e.symm).1; omega)).trans k7
theorem dsX_own {w : World} {n1 b8 b9 : Nat} {L : List TxD} {N : List Int} {S : List (List CoinD)} {C0 : List CoinD} {m : Nat} (hw : w.heap.size ≤ n1) (h8 : b8 < n1) (h9 : b9 < n1) (cd : Code) : OwnFrom n1 (DsX w n1 b8 b9 L N S C0 (m := m) cd) := by
  rintro pre W W' row ⟨k0, k1, k2, y, M, k3, k4, k5, k6⟩ hg hr
  refine ⟨k0, k1.grown hg (by omega) (fun r e => by have := (hr r e).1; omega), Nat.le_trans k2 hg.size, y, M, k3, k4, ?_, ?_⟩
  · exact (hg.block b8 (by omega) (fun e => by have := (hr b8 e.symm).1; omega)).trans k5
  · exact (hg.block b9 (by omega) (fun e => by have := (hr b9 e.symm).1; omega)).trans k6
theorem keeps_of_below {B : Nat} {W W' : World} (h : Below W.heap.size W W') : KeepsFrom B W W' := (KeepsOthers.from ⟨h.size, fun k _ hk _ => (h.block k (lt_of_block hk)).trans hk⟩ B)

set_option maxRecDepth 100000 in
set_option maxHeartbeats 6400000 in
theorem dis_main (ka : Option Addr) (kn kc : Nat) (K : List ByteArray) (la : Option Addr) (ln lc : Nat) (C0 : List CoinD) (p h k0 n : Int) (a : Option Addr) (m c : Nat) (L : List TxD) (ua : Option Addr) (uc : Nat) (S : List (List CoinD)) (N : List Int) (x : Int) (C' : List CoinD) (w : World) (hE : Env w) (hK : Bk.TextsAt w ka kn K) (hC : CoinsAt w la ln C0) (sC : SlOk la ln lc) (hL : TxsAt w a m L) (hU : UndosAt w ua m S) (hm : m ≤ 4) (hm0 : 0 < m) (hnf : nfD K C0 (p, h, k0, n, L) = (N, 0)) (hNl : N.length = m) (hx : disGo L N S m C0 = (x, C')) :
    Calls Tryz.prog 137 #[.agg #[.slice ka kn kc], .slice la ln lc, .agg #[.int .i64 p, .int .i64 h, .int .i64 k0, .int .i64 n, .slice a m c], .slice ua m uc] w fun e w' => RvR w w' x C' e := by
  obtain ⟨X, hX⟩ : ∃ X, X = (((((w.alloc (.cells #[.slice ka kn kc] 24)).alloc (.cells #[.slice la ln lc] 29)).alloc (.cells #[.int .i64 p, .int .i64 h, .int .i64 k0, .int .i64 n, .slice a m c] 39)).alloc (.cells #[.slice ua m uc] 42)).alloc (.cells #[.slice none 0 0] 29)).alloc (.cells #[.int .i64 0] 30) := ⟨_, rfl⟩
  obtain ⟨hbX, hXs, x1, x2, x3, x4, x5, x6⟩ := six_boxes w _ _ _ _ _ _ X hX
  have NF := hide (namesFor_is ka kn kc K la ln lc C0 p h k0 n a m c L N 0 X (hE.later hbX) (hK.later hbX) (hC.later hbX) (hL.later hbX) hnf)
  have c1 := cell_of (X := [.slice ka kn kc]) x1 0 _ rfl
  have c2 := cell_of (X := [.slice la ln lc]) x2 0 _ rfl
  have c30 := cell_of (X := [.int .i64 p, .int .i64 h, .int .i64 k0, .int .i64 n, .slice a m c]) x3 0 _ rfl
  have c31 := cell_of (X := [.int .i64 p, .int .i64 h, .int .i64 k0, .int .i64 n, .slice a m c]) x3 1 _ rfl
  have c32 := cell_of (X := [.int .i64 p, .int .i64 h, .int .i64 k0, .int .i64 n, .slice a m c]) x3 2 _ rfl
  have c33 := cell_of (X := [.int .i64 p, .int .i64 h, .int .i64 k0, .int .i64 n, .slice a m c]) x3 3 _ rfl
  have c34 := cell_of (X := [.int .i64 p, .int .i64 h, .int .i64 k0, .int .i64 n, .slice a m c]) x3 4 _ rfl
  have c4 := cell_of (X := [.slice ua m uc]) x4 0 _ rfl
  have hs1 := lt_of_block x1
  have hs2 := lt_of_block x2
  have hs3 := lt_of_block x3
  have hs4 := lt_of_block x4
  have HBX := hide hbX
  have HX1 := hide x1
  have HX2 := hide x2
  have HX3 := hide x3
  have HX4 := hide x4
  have HX5 := hide x5
  have HX6 := hide x6
  have HE := hide hE
  have HC := hide hC
  have HL := hide hL
  have HU := hide hU
  have HXX := hide hx
  have HNL := hide hNl
  have HXS := hide hXs
  clear hE hK hC hL hU hnf hx hNl hbX x1 x2 x3 x4 x5 x6 hXs
  refine (callsIn_wide (n := 3)).1 ?_
  refine callsIn_of_wp_marks Tryz.func137 rfl trivial ?_ rfl
  simp only [Tryz.ntmps137, List.size_toArray, List.length_cons, List.length_nil, Nat.reduceAdd, Nat.reduceSub, Array.replicate_succ, Array.replicate_zero, List.push_toArray, List.append_toArray, List.nil_append, List.cons_append]
  gi_wp2_with fail
  rw [← hX]
  clear hX
  refine ⟨trivial, (callsIn_wide.2 (unhide NF)).mono ?_⟩
  rintro e w1 ⟨na, nn, nc, rfl, hN, hnc, hb1⟩
  obtain ⟨Y, hY⟩ : ∃ Y, Y = (w1.alloc (.cells #[.slice na nn nc] 25)).alloc (.cells #[.int .i64 0] 30) := ⟨_, rfl⟩
  have hbY : Below w1.heap.size w1 Y := by rw [hY]; exact bel_on (bel_new _ _) (bel_new _ _)
  have hYs : Y.heap.size = w1.heap.size + 1 + 1 := by rw [hY]; simp
  have y10 : Y.heap[w1.heap.size]? = some (.cells [.slice na nn nc].toArray 25 (0, 0)) := by
    rw [hY, Below.heap_alloc _ _ _ (by simp)]; exact heap_alloc_new _ _
  have y11 : Y.heap[w1.heap.size + 1]? = some (.cells [.int .i64 0].toArray 30 (0, 0)) := by
    rw [hY]
    have := heap_alloc_new (w1.alloc (.cells #[.slice na nn nc] 25)) (.cells #[.int .i64 0] 30)
    rw [show (w1.alloc (.cells #[.slice na nn nc] 25)).heap.size = w1.heap.size + 1 by simp] at this
    exact this
  have hXY := bel_on hb1 hbY
  have TU := hide (turns_is m Y hm0 hm)
  have d3 := (hb1.block _ (lt_of_block (unhide HX3))).trans (unhide HX3)
  have d34 := cell_of (X := [.int .i64 p, .int .i64 h, .int .i64 k0, .int .i64 n, .slice a m c]) d3 4 _ rfl
  have d3l := lt_of_block d3
  have d4 := (hb1.block _ (lt_of_block (unhide HX4))).trans (unhide HX4)
  have d40 := cell_of (X := [.slice ua m uc]) d4 0 _ rfl
  have d4l := lt_of_block d4
  have d2l : w.heap.size + 1 < w1.heap.size := by omega
  have d1l : w.heap.size < w1.heap.size := by omega
  have gm : ((m : Int) != (m : Int)) = false := by simp
  have HXY := hide hXY
  have HY10 := hide y10
  have HY11 := hide y11
  have HN := hide hN
  have HBY1 := hide hbY
  have HYS := hide hYs
  have HS1 := hide hb1.size
  clear hN hb1 hbY y10 y11 hXY d3 d4 hYs c1 c2 c30 c31 c32 c33 c34 c4 hs1 hs2 hs3 hs4 NF
  gi_wp2_with fail
  rw [← hY]
  refine ⟨trivial, (callsIn_wide.2 (unhide TU)).mono ?_⟩
  rintro e w2 ⟨rfl, hF⟩
  have hb2 : Below Y.heap.size Y w2 := hF.bel
  have hcell := fun i hi => hF.cells (Nat.le_refl m) i hi
  have hFl := hF.lt
  obtain ⟨W0, hW0⟩ : ∃ W0, W0 = w2.alloc (.cells #[.slice (some ⟨Y.heap.size, 0, none⟩) m m] 25) := ⟨_, rfl⟩
  have hb0 : Below w2.heap.size w2 W0 := by rw [hW0]; exact bel_new _ _
  have z0 : W0.heap[w2.heap.size]? = some (.cells [.slice (some ⟨Y.heap.size, 0, none⟩) m m].toArray 25 (0, 0)) := by rw [hW0]; exact heap_alloc_new _ _
  have HB2 := hide hb2
  have HB20 := hide (bel_on hb2 hb0)
  have HCL : Hid (∀ j, j < m → W0.cell? ⟨Y.heap.size, j, none⟩ = some (.int .i64 (tvI m j))) := fun j hj => cell_later hb0 (hcell j hj)
  have HZ0 := hide z0
  have hW0s : W0.heap.size = w2.heap.size + 1 := by rw [hW0]; simp
  have HWS := hide hW0s
  have HFL := hide hFl
  have BW := hide (backward_in (some ⟨Y.heap.size, 0, none⟩) m m w2)
  clear hF hb2 hcell hb0 z0 hFl hY TU hW0s
  gi_wp2_with fail
  refine ⟨trivial, (callsIn_wide.2 (unhide BW)).mono ?_⟩
  rintro e w3 ⟨rfl, rfl⟩
  rw [← hW0]
  clear hW0 BW d34 d3l d40 d4l d2l d1l
  gi_wp2_with fail
  have hsY := unhide HYS
  have hsW := unhide HWS
  have hsX := unhide HXS
  have hs1' := unhide HS1
  have hfl := unhide HFL
  have h0X0 : Below X.heap.size X W0 := bel_on (unhide HXY) (unhide HB20)
  have hw0 : Below w.heap.size w W0 := bel_on (unhide HBX) h0X0
  have HW0 := hide hw0
  have HX0 := hide h0X0
  have hn1 : w.heap.size + 6 < W0.heap.size := by omega
  have h5l : w.heap.size + 1 < W0.heap.size := by omega
  have h11l : w1.heap.size + 1 < W0.heap.size := by omega
  have Z5 := hide ((h0X0.block _ (lt_of_block (unhide HX2))).trans (unhide HX2))
  have Z11 := hide (((unhide HB20).block _ (lt_of_block (unhide HY11))).trans (unhide HY11))
  have q1 : Y.heap.size < W0.heap.size := by omega
  have q2 : Y.heap.size ≠ w.heap.size + 1 := by omega
  have q3 : Y.heap.size ≠ w1.heap.size + 1 := by omega
  have q4 : w2.heap.size < W0.heap.size := by omega
  have q5 : w2.heap.size ≠ w.heap.size + 1 := by omega
  have q6 : w2.heap.size ≠ w1.heap.size + 1 := by omega
  have q7 : w.heap.size ≤ W0.heap.size := by omega
  have q8 : w.heap.size + 1 + 1 + 1 + 1 < W0.heap.size := by omega
  have q9 : w.heap.size + 1 + 1 + 1 + 1 + 1 < W0.heap.size := by omega
  have q10 : w.heap.size + 1 ≠ w1.heap.size + 1 := by omega
  have QS := hide (show w.heap.size + 6 ≤ w1.heap.size ∧ w1.heap.size + 1 < Y.heap.size ∧ Y.heap.size < w2.heap.size ∧ w2.heap.size < W0.heap.size by omega)
  clear hsY hsW hsX hs1' hfl
  refine wpIn_rangeFunc_ownG (α := { i : Nat // i < m }) rfl (by decide) (gf := 197) (lb := #[.pointer (some ⟨w2.heap.size, 0, none⟩)]) rfl trivial (enters_of Tryz.func197 (by kernel_rfl) rfl)
    (backward_stops Fence.wide (3 - 1) trivial rfl (by decide) w2.heap.size W0.heap.size (w.heap.size + 1) (w1.heap.size + 1) Y.heap.size m m hm W0 rfl q1 q2 q3 q4 q5 q6 (cell_of (unhide HZ0) 0 _ rfl) (unhide HCL))
    (fun h k => KpD.trans h k) (fun W l o o' hl _ _ _ => KpD.put W l o' hl) (Below.refl _ _) (fun _ => rfl)
    (DsI W0 W0.heap.size (w.heap.size + 1) (w1.heap.size + 1) L N S C0) (DsX w W0.heap.size (w.heap.size + 1 + 1 + 1 + 1) (w.heap.size + 1 + 1 + 1 + 1 + 1) L N S C0)
    (dsI_own h5l h11l) (dsX_own q7 q8 q9)
    ⟨KpD.refl _ _ _ _, Nat.le_refl _, C0, la, ln, lc, rfl, unhide Z5, (unhide HC).later hw0, sC, unhide Z11⟩
    (fun x => { tmps := #[.agg #[.slice ka kn kc], .slice la ln lc, .agg #[.int .i64 p, .int .i64 h, .int .i64 k0, .int .i64 n, .slice a m c], .slice ua m uc, .pointer (some ⟨w.heap.size, 0, none⟩), .pointer (some ⟨w.heap.size + 1, 0, none⟩), .pointer (some ⟨w.heap.size + 1 + 1, 0, none⟩), .pointer (some ⟨w.heap.size + 1 + 1 + 1, 0, none⟩), .pointer (some ⟨w.heap.size + 1 + 1 + 1 + 1, 0, none⟩), .pointer (some ⟨w.heap.size + 1 + 1 + 1 + 1 + 1, 0, none⟩), .pointer (some ⟨w1.heap.size, 0, none⟩), .pointer (some ⟨w1.heap.size + 1, 0, none⟩), undef, .int .i64 (tvI m x.1), .tuple #[.slice na nn nc, .int .i64 0], .agg #[.slice ka kn kc], .slice la ln lc, .agg #[.int .i64 p, .int .i64 h, .int .i64 k0, .int .i64 n, .slice a m c], .tuple #[.slice na nn nc, .int .i64 0], .slice na nn nc, .int .i64 0, .int .i64 0, .bool false, undef, .slice ua m uc, .int .i64 m, .pointer (some ⟨w.heap.size + 1 + 1, 4, none⟩), .slice a m c, .int .i64 m, .bool false, .pointer (some ⟨w.heap.size + 1 + 1, 4, none⟩), .slice a m c, .int .i64 m, .slice (some ⟨Y.heap.size, 0, none⟩) m m, .func (.func 197) #[] #[.pointer (some ⟨w2.heap.size, 0, none⟩)], .int .i64 (x.1 : Int), .int .i64 (tvI m x.1), undef, undef, undef, undef, undef, undef, undef, undef, undef, undef, undef, undef, undef, undef, undef, undef, undef, undef, undef, undef, undef, undef], defers := [] }) ?assign ?body ?done ?stop
  case assign =>
    intro l x W K hK
    gi_wp2
    exact hK
  case body =>
    rintro l pre x W ⟨hkp, hsz, C, ca, cn, cc, hd, h5, hCo, sCo, h11⟩ _
    obtain ⟨j, hj⟩ := x
    have hQS := unhide QS
    have hBW : Below w.heap.size w W := hkp.below hw0 q7 (by omega) (by omega)
    obtain ⟨i, hi⟩ : ∃ i, (j + 1) % m = i := ⟨_, rfl⟩
    have him : i < m := hi ▸ Nat.mod_lt _ hm0
    have htv : tvI m j = (i : Int) := by unfold tvI; rw [hi]
    have zL : L.length = m := (unhide HL).1
    have zS : S.length = m := (unhide HU).1
    obtain ⟨tb, tof, rfl, _, htc⟩ := (unhide HL).2 (by omega)
    obtain ⟨ub, uo, rfl, _, huc⟩ := (unhide HU).2 (by omega)
    obtain ⟨nb, no, rfl, hNc⟩ := (unhide HN).2 (by rw [← (unhide HN).1, unhide HNL]; exact hm0)
    have tcell := htc i (by omega)
    have ucell := huc i (by omega)
    have ncell := hNc i (by rw [unhide HNL]; exact him)
    obtain ⟨t, ht⟩ : ∃ t, L[i] = t := ⟨_, rfl⟩
    obtain ⟨s, hs⟩ : ∃ s, S[i] = s := ⟨_, rfl⟩
    obtain ⟨nm, hnm⟩ : ∃ nm, N[i]'(by rw [unhide HNL]; exact him) = nm := ⟨_, rfl⟩
    rw [ht] at tcell
    rw [hs] at ucell
    rw [hnm] at ncell
    obtain ⟨t1, ⟨ai, ni, ci, t2, hIn, sIn⟩, ao, no2, co, t3, hOut, sOut⟩ := tcell
    obtain ⟨sa, sn, sc, u1, hSp, sSp⟩ := ucell
    obtain ⟨⟨y, M⟩, hrv⟩ : ∃ r, rvD C t nm s = r := ⟨_, rfl⟩
    have hds : dstep L N S j C = (y, M) := by
      unfold dstep
      rw [zL, hi, getD_at L i (by omega), ht, getD_at N i (by rw [unhide HNL]; exact him), hnm, getD_at S i (by omega), hs]
      exact hrv
    have hsn := disL_snoc hd hds
    have z6 := (hkp.block (w.heap.size + 1 + 1) (by omega) (by omega) (by omega)).trans (((unhide HX0).block _ (lt_of_block (unhide HX3))).trans (unhide HX3))
    have z7 := (hkp.block (w.heap.size + 1 + 1 + 1) (by omega) (by omega) (by omega)).trans (((unhide HX0).block _ (lt_of_block (unhide HX4))).trans (unhide HX4))
    have z10 := (hkp.block w1.heap.size (by omega) (by omega) (by omega)).trans (((unhide HB20).block _ (lt_of_block (unhide HY10))).trans (unhide HY10))
    have zn : nb ≠ w.heap.size + 1 ∧ nb ≠ w1.heap.size + 1 ∧ W.cell? ⟨nb, no + i, none⟩ = some (.int .i64 nm) := by
      have e := cell_later (unhide HB20) (cell_later (unhide HBY1) ncell)
      have hnl : nb < w1.heap.size := World.block_lt_of_cell? _ _ ncell
      have n5 : nb ≠ w.heap.size + 1 := by
        intro q
        subst q
        rw [cell_of_row W0 _ (no + i) #[.slice la ln lc] _ _ (unhide Z5)] at e
        exact one_ne e (fun _ _ q => by cases q)
      have n11 : nb ≠ w1.heap.size + 1 := by omega
      exact ⟨n5, n11, hkp.cell (by omega) n5 n11 e⟩
    have RV := hide (fun V (hv : Below W.heap.size W V) => revert_is ca cn cc C t.1 ai ao ni ci no2 co t.2.1 t.2.2 nm sa sn sc s y M V (hCo.later hv) sCo ((hIn.later hBW).later hv) ((hOut.later hBW).later hv) sIn ((hSp.later hBW).later hv) hrv)
    have hnb5 : nb ≠ w.heap.size + 1 := zn.1
    have hnb11 : nb ≠ w1.heap.size + 1 := zn.2.1
    have tbl := World.block_lt_of_cell? _ _ t1
    have ubl := World.block_lt_of_cell? _ _ u1
    have hWs : w.heap.size ≤ W.heap.size := hBW.size
    have KS : Hid (∀ V : World, W.heap.size ≤ V.heap.size → (∀ k, k < W.heap.size → k ≠ w.heap.size + 1 → k ≠ w1.heap.size + 1 → V.heap[k]? = W.heap[k]?) → SDs w.heap.size w1.heap.size tb tof m c ub uo m uc nb no nn nc i t.1 ai ni ci ao no2 co nm sa sn sc V) := by
      intro V hvs hv
      have g : ∀ k o v, k ≠ w.heap.size + 1 → k ≠ w1.heap.size + 1 → W.cell? ⟨k, o, none⟩ = some v → V.cell? ⟨k, o, none⟩ = some v := fun k o v h1 h2 hc => (World.cell?_of_block (a := ⟨k, o, none⟩) (hv k (World.block_lt_of_cell? _ _ hc) h1 h2)).trans hc
      exact ⟨g _ _ _ (by omega) (by omega) (cell_of (X := [.int .i64 p, .int .i64 h, .int .i64 k0, .int .i64 n, .slice (some ⟨tb, tof, none⟩) m c]) z6 4 _ rfl), g _ _ _ (by omega) (by omega) (cell_later hBW t1), g _ _ _ (by omega) (by omega) (cell_later hBW t2), g _ _ _ (by omega) (by omega) (cell_later hBW t3), g _ _ _ (by omega) (by omega) (cell_of (X := [.slice (some ⟨nb, no, none⟩) nn nc]) z10 0 _ rfl), g _ _ _ hnb5 hnb11 zn.2.2, g _ _ _ (by omega) (by omega) (cell_of (X := [.slice (some ⟨ub, uo, none⟩) m uc]) z7 0 _ rfl), g _ _ _ (by omega) (by omega) (cell_later hBW u1), Nat.lt_of_lt_of_le (lt_of_block z7) hvs, Nat.lt_of_lt_of_le (lt_of_block z10) hvs⟩
    have hnn : nn = m := by rw [← unhide HNL]; exact (unhide HN).1.symm
    have him1 : (i : Int) < (m : Int) := by omega
    have him0 : (0 : Int) ≤ (i : Int) := by omega
    have hinn : (i : Int) < (nn : Int) := by omega
    dsimp only
    rw [htv]
    clear htc huc hNc hIn hOut hSp t1 t2 t3 u1 z6 z7 z10 zn hds ncell hi
    gi_wp2_with fail
    have f5W := cell_of (X := [.slice ca cn cc]) h5 0 _ rfl
    have l5W := lt_of_block h5
    have H5 := hide h5
    have H11 := hide h11
    have HKP := hide hkp
    have HCOO := hide hCo
    clear hkp hCo h11 h5 hQS
    refine region_round (S := SDs w.heap.size w1.heap.size tb tof m c ub uo m uc nb no nn nc i t.1 ai ni ci ao no2 co nm sa sn sc) (by kernel_rfl) (by kernel_rfl) ((unhide KS) _ (Nat.le_refl _) (fun _ _ _ _ => rfl)) (fun hHeld => ?_)
    refine wpAnyH_take (i := 1) (oi := { dst := some 39, op := Op.fieldAddr 39 (Operand.tmp 6) 4, type := 0, pos := "connect.go:39", after := #[], guard := none }) (v := ?_) rfl (by kernel_rfl) (by kernel_rfl) (by kernel_rfl) (fun _ _ _ h => h) (Or.inl ⟨by rfl, ?_⟩) hHeld ?_
    rotate_left
    · (intro V hSw; obtain ⟨s1, s2, s3, s4, s5, s6, s7, s8, s9, s10⟩ := hSw; go_simp; first | done | with_reducible rfl)
    (try simp only [Act.put, List.setIfInBounds_toArray, List.set_cons_zero, List.set_cons_succ])
    refine wpAnyH_take (i := 2) (oi := { dst := some 40, op := Op.load 37 (Operand.tmp 39), type := 37, pos := "connect.go:39", after := #[{ on := 1, ground := Ground.data }], guard := none }) (v := ?_) rfl (by kernel_rfl) (by kernel_rfl) (by kernel_rfl) (fun _ _ _ h => h) (Or.inl ⟨by rfl, ?_⟩) hHeld ?_
    rotate_left
    · (intro V hSw; obtain ⟨s1, s2, s3, s4, s5, s6, s7, s8, s9, s10⟩ := hSw; go_simp; first | done | with_reducible rfl)
    (try simp only [Act.put, List.setIfInBounds_toArray, List.set_cons_zero, List.set_cons_succ])
    refine wpAnyH_take (i := 3) (oi := { dst := some 41, op := Op.move (Operand.tmp 13), type := 3, pos := "connect.go:39", after := #[], guard := none }) (v := ?_) rfl (by kernel_rfl) (by kernel_rfl) (by kernel_rfl) (fun _ _ _ h => h) (Or.inl ⟨by rfl, ?_⟩) hHeld ?_
    rotate_left
    · (intro V hSw; obtain ⟨s1, s2, s3, s4, s5, s6, s7, s8, s9, s10⟩ := hSw; go_simp; first | done | with_reducible rfl)
    (try simp only [Act.put, List.setIfInBounds_toArray, List.set_cons_zero, List.set_cons_succ])
    refine wpAnyH_take (i := 4) (oi := { dst := some 42, op := Op.indexAddr 37 (Operand.tmp 40) (Operand.tmp 41), type := 0, pos := "connect.go:39", after := #[{ on := 2, ground := Ground.data }, { on := 3, ground := Ground.data }], guard := none }) (v := ?_) rfl (by kernel_rfl) (by kernel_rfl) (by kernel_rfl) (fun _ _ _ h => h) (Or.inl ⟨by rfl, ?_⟩) hHeld ?_
    rotate_left
    · (intro V hSw; obtain ⟨s1, s2, s3, s4, s5, s6, s7, s8, s9, s10⟩ := hSw; go_simp; first | done | with_reducible rfl)
    (try simp only [Act.put, List.setIfInBounds_toArray, List.set_cons_zero, List.set_cons_succ])
    refine wpAnyH_take (i := 5) (oi := { dst := some 43, op := Op.load 59 (Operand.tmp 42), type := 59, pos := "connect.go:39", after := #[{ on := 4, ground := Ground.data }], guard := none }) (v := ?_) rfl (by kernel_rfl) (by kernel_rfl) (by kernel_rfl) (fun _ _ _ h => h) (Or.inl ⟨by rfl, ?_⟩) hHeld ?_
    rotate_left
    · (intro V hSw; obtain ⟨s1, s2, s3, s4, s5, s6, s7, s8, s9, s10⟩ := hSw; go_simp; first | done | with_reducible rfl)
    (try simp only [Act.put, List.setIfInBounds_toArray, List.set_cons_zero, List.set_cons_succ])
    refine wpAnyH_take (i := 6) (oi := { dst := some 44, op := Op.load 25 (Operand.tmp 10), type := 25, pos := "connect.go:39", after := #[], guard := none }) (v := ?_) rfl (by kernel_rfl) (by kernel_rfl) (by kernel_rfl) (fun _ _ _ h => h) (Or.inl ⟨by rfl, ?_⟩) hHeld ?_
    rotate_left
    · (intro V hSw; obtain ⟨s1, s2, s3, s4, s5, s6, s7, s8, s9, s10⟩ := hSw; go_simp; first | done | with_reducible rfl)
    (try simp only [Act.put, List.setIfInBounds_toArray, List.set_cons_zero, List.set_cons_succ])
    refine wpAnyH_take (i := 7) (oi := { dst := some 45, op := Op.move (Operand.tmp 13), type := 3, pos := "connect.go:39", after := #[], guard := none }) (v := ?_) rfl (by kernel_rfl) (by kernel_rfl) (by kernel_rfl) (fun _ _ _ h => h) (Or.inl ⟨by rfl, ?_⟩) hHeld ?_
    rotate_left
    · (intro V hSw; obtain ⟨s1, s2, s3, s4, s5, s6, s7, s8, s9, s10⟩ := hSw; go_simp; first | done | with_reducible rfl)
    (try simp only [Act.put, List.setIfInBounds_toArray, List.set_cons_zero, List.set_cons_succ])
    refine wpAnyH_take (i := 8) (oi := { dst := some 46, op := Op.indexAddr 25 (Operand.tmp 44) (Operand.tmp 45), type := 0, pos := "connect.go:39", after := #[{ on := 6, ground := Ground.data }, { on := 7, ground := Ground.data }], guard := none }) (v := ?_) rfl (by kernel_rfl) (by kernel_rfl) (by kernel_rfl) (fun _ _ _ h => h) (Or.inl ⟨by rfl, ?_⟩) hHeld ?_
    rotate_left
    · (intro V hSw; obtain ⟨s1, s2, s3, s4, s5, s6, s7, s8, s9, s10⟩ := hSw; go_simp; first | done | with_reducible rfl)
    (try simp only [Act.put, List.setIfInBounds_toArray, List.set_cons_zero, List.set_cons_succ])
    refine wpAnyH_take (i := 9) (oi := { dst := some 47, op := Op.load 3 (Operand.tmp 46), type := 3, pos := "connect.go:39", after := #[{ on := 8, ground := Ground.data }], guard := none }) (v := ?_) rfl (by kernel_rfl) (by kernel_rfl) (by kernel_rfl) (fun _ _ _ h => h) (Or.inl ⟨by rfl, ?_⟩) hHeld ?_
    rotate_left
    · (intro V hSw; obtain ⟨s1, s2, s3, s4, s5, s6, s7, s8, s9, s10⟩ := hSw; go_simp; first | done | with_reducible rfl)
    (try simp only [Act.put, List.setIfInBounds_toArray, List.set_cons_zero, List.set_cons_succ])
    refine wpAnyH_take (i := 10) (oi := { dst := some 48, op := Op.load 42 (Operand.tmp 7), type := 42, pos := "connect.go:39", after := #[], guard := none }) (v := ?_) rfl (by kernel_rfl) (by kernel_rfl) (by kernel_rfl) (fun _ _ _ h => h) (Or.inl ⟨by rfl, ?_⟩) hHeld ?_
    rotate_left
    · (intro V hSw; obtain ⟨s1, s2, s3, s4, s5, s6, s7, s8, s9, s10⟩ := hSw; go_simp; first | done | with_reducible rfl)
    (try simp only [Act.put, List.setIfInBounds_toArray, List.set_cons_zero, List.set_cons_succ])
    refine wpAnyH_take (i := 11) (oi := { dst := some 49, op := Op.move (Operand.tmp 13), type := 3, pos := "connect.go:39", after := #[], guard := none }) (v := ?_) rfl (by kernel_rfl) (by kernel_rfl) (by kernel_rfl) (fun _ _ _ h => h) (Or.inl ⟨by rfl, ?_⟩) hHeld ?_
    rotate_left
    · (intro V hSw; obtain ⟨s1, s2, s3, s4, s5, s6, s7, s8, s9, s10⟩ := hSw; go_simp; first | done | with_reducible rfl)
    (try simp only [Act.put, List.setIfInBounds_toArray, List.set_cons_zero, List.set_cons_succ])
    refine wpAnyH_take (i := 12) (oi := { dst := some 50, op := Op.indexAddr 42 (Operand.tmp 48) (Operand.tmp 49), type := 0, pos := "connect.go:39", after := #[{ on := 10, ground := Ground.data }, { on := 11, ground := Ground.data }], guard := none }) (v := ?_) rfl (by kernel_rfl) (by kernel_rfl) (by kernel_rfl) (fun _ _ _ h => h) (Or.inl ⟨by rfl, ?_⟩) hHeld ?_
    rotate_left
    · (intro V hSw; obtain ⟨s1, s2, s3, s4, s5, s6, s7, s8, s9, s10⟩ := hSw; go_simp; first | done | with_reducible rfl)
    (try simp only [Act.put, List.setIfInBounds_toArray, List.set_cons_zero, List.set_cons_succ])
    refine wpAnyH_take (i := 13) (oi := { dst := some 51, op := Op.load 153 (Operand.tmp 50), type := 153, pos := "connect.go:39", after := #[{ on := 12, ground := Ground.data }], guard := none }) (v := ?_) rfl (by kernel_rfl) (by kernel_rfl) (by kernel_rfl) (fun _ _ _ h => h) (Or.inl ⟨by rfl, ?_⟩) hHeld ?_
    rotate_left
    · (intro V hSw; obtain ⟨s1, s2, s3, s4, s5, s6, s7, s8, s9, s10⟩ := hSw; go_simp; first | done | with_reducible rfl)
    (try simp only [Act.put, List.setIfInBounds_toArray, List.set_cons_zero, List.set_cons_succ])
    refine wpAnyH_ready (rs := [0]) (by kernel_rfl) (by simp) ?_
    refine AllReadyH.cons (o := { dst := some 38, op := Op.load 29 (Operand.tmp 5), type := 29, pos := "connect.go:39", after := #[], guard := none }) rfl (fun K0 hK => ?_) AllReadyH.nil
    go_simp
    refine hK.out _ _ ((unhide KS) _ (Nat.le_refl _) (fun _ _ _ _ => rfl)) (fun hHeld2 => ?_)
    clear hK K0 hHeld
    have hHeld := hHeld2
    clear hHeld2
    (try simp only [Act.put, List.setIfInBounds_toArray, List.set_cons_zero, List.set_cons_succ])
    refine wpAnyH_ready (rs := [14]) (by kernel_rfl) (by simp) ?_
    refine AllReadyH.cons (o := { dst := some 52, op := Op.call { callee := Callee.value (Operand.func 198), args := #[Operand.tmp 38, Operand.tmp 43, Operand.tmp 47, Operand.tmp 51], argTypes := #[29, 59, 3, 153] }, type := 31, pos := "connect.go:39", after := #[{ on := 0, ground := Ground.data }, { on := 5, ground := Ground.data }, { on := 9, ground := Ground.data }, { on := 13, ground := Ground.data }], guard := none }) rfl (fun K0 hK => ?_) AllReadyH.nil
    refine step_call_w (by kernel_rfl) 198 #[.slice ca cn cc, .agg #[.int .i64 t.1, .slice ai ni ci, .slice ao no2 co], .int .i64 nm, .agg #[.slice sa sn sc]] (by kernel_rfl) ((unhide RV) _ (bel_draw1 _)) ?_
    rintro e V1 ⟨am, an, ac, rfl, hM, sM, hbV⟩
    refine ⟨_, rfl, ?_⟩
    have hbW1 : Below W.heap.size W V1 := bel_on (bel_draw1 W) hbV
    have v5 := (hbW1.block _ (lt_of_block (unhide H5))).trans (unhide H5)
    have v11 := (hbW1.block _ (lt_of_block (unhide H11))).trans (unhide H11)
    refine hK.out _ _ ((unhide KS) _ hbW1.size (fun k hk _ _ => hbW1.block k hk)) (fun hHeld2 => ?_)
    clear hK K0 hHeld
    have hHeld := hHeld2
    clear hHeld2
    (try simp only [Act.put, List.setIfInBounds_toArray, List.set_cons_zero, List.set_cons_succ])
    refine wpAnyH_take (i := 15) (oi := { dst := some 37, op := Op.move (Operand.tmp 52), type := 31, pos := "connect.go:39", after := #[{ on := 14, ground := Ground.data }], guard := none }) (v := ?_) rfl (by kernel_rfl) (by kernel_rfl) (by kernel_rfl) (fun _ _ _ h => h) (Or.inl ⟨by rfl, ?_⟩) hHeld ?_
    rotate_left
    · (intro V hSw; go_simp; first | done | with_reducible rfl)
    (try simp only [Act.put, List.setIfInBounds_toArray, List.set_cons_zero, List.set_cons_succ])
    refine wpAnyH_take (i := 16) (oi := { dst := some 53, op := Op.extract (Operand.tmp 37) 0, type := 29, pos := "connect.go:39", after := #[{ on := 15, ground := Ground.data }], guard := none }) (v := ?_) rfl (by kernel_rfl) (by kernel_rfl) (by kernel_rfl) (fun _ _ _ h => h) (Or.inl ⟨by rfl, ?_⟩) hHeld ?_
    rotate_left
    · (intro V hSw; go_simp; first | done | with_reducible rfl)
    (try simp only [Act.put, List.setIfInBounds_toArray, List.set_cons_zero, List.set_cons_succ])
    refine wpAnyH_take (i := 17) (oi := { dst := some 54, op := Op.extract (Operand.tmp 37) 1, type := 30, pos := "connect.go:39", after := #[{ on := 15, ground := Ground.data }, { on := 18, ground := Ground.gcOnly Departure.lateStores }], guard := none }) (v := ?_) rfl (by kernel_rfl) (by kernel_rfl) (by kernel_rfl) (fun _ _ _ h => h) (Or.inl ⟨by rfl, ?_⟩) hHeld ?_
    rotate_left
    · (intro V hSw; go_simp; first | done | with_reducible rfl)
    (try simp only [Act.put, List.setIfInBounds_toArray, List.set_cons_zero, List.set_cons_succ])
    have cv5 := cell_of (X := [.slice ca cn cc]) v5 0 _ rfl
    have fv5 := frozen_of v5 0
    have lv5 := lt_of_block v5
    obtain ⟨V2, hV2⟩ : ∃ V2, V2 = V1.setCell ⟨w.heap.size + 1, 0, none⟩ (.slice am an ac) := ⟨_, rfl⟩
    have v25 : V2.heap[w.heap.size + 1]? = some (.cells #[.slice am an ac] 29 (0, 0)) := by rw [hV2]; exact box_set v5
    have g12 : Gr V1 V2 (fun q => q = w.heap.size + 1) := by rw [hV2]; exact (Gr.refl V1 (fun q => q = w.heap.size + 1)).set (p := ⟨w.heap.size + 1, 0, none⟩) (.inl rfl) _
    have ko2 : KeepsOthers W V2 := by
      rw [hV2]
      exact KeepsOthers.trans ⟨hbW1.size, fun k _ hk _ => (hbW1.block k (lt_of_block hk)).trans hk⟩ (KeepsOthers.setCell _ _ _)
    have v211 : V2.heap[w1.heap.size + 1]? = some (.cells #[.int .i64 0] 30 (0, 0)) := g12.heap v11 (fun q => q10 q.symm)
    refine wpAnyH_ready (rs := [18]) (by kernel_rfl) (by simp) ?_
    refine AllReadyH.cons (o := { dst := none, op := Op.store 29 (Operand.tmp 5) (Operand.tmp 53), type := 0, pos := "connect.go:39", after := #[{ on := 16, ground := Ground.data }, { on := 14, ground := Ground.chain }, { on := 0, ground := Ground.phase }, { on := 1, ground := Ground.phase }, { on := 2, ground := Ground.phase }, { on := 3, ground := Ground.phase }, { on := 4, ground := Ground.phase }, { on := 5, ground := Ground.phase }, { on := 6, ground := Ground.phase }, { on := 7, ground := Ground.phase }, { on := 8, ground := Ground.phase }, { on := 9, ground := Ground.phase }, { on := 10, ground := Ground.phase }, { on := 11, ground := Ground.phase }, { on := 12, ground := Ground.phase }, { on := 13, ground := Ground.phase }, { on := 14, ground := Ground.phase }, { on := 15, ground := Ground.phase }, { on := 16, ground := Ground.phase }, { on := 17, ground := Ground.textOnly Departure.lateStores }], guard := none }) rfl (fun K0 hK => ?_) AllReadyH.nil
    go_simp
    rw [← hV2]
    clear hV2 cv5 fv5 lv5
    refine hK.out _ _ ((unhide KS) _ (Nat.le_trans hbW1.size g12.size) (fun k hk h1 h2 => (g12.block k (Nat.lt_of_lt_of_le hk hbW1.size) h1).trans (hbW1.block k hk))) (fun hHeld2 => ?_)
    clear hK K0 hHeld
    have hHeld := hHeld2
    clear hHeld2
    (try simp only [Act.put, List.setIfInBounds_toArray, List.set_cons_zero, List.set_cons_succ])
    have cv11 := cell_of (X := [.int .i64 0]) v211 0 _ rfl
    have fv11 := frozen_of v211 0
    have lv11 := lt_of_block v211
    obtain ⟨V3, hV3⟩ : ∃ V3, V3 = V2.setCell ⟨w1.heap.size + 1, 0, none⟩ (.int .i64 y) := ⟨_, rfl⟩
    have v311 : V3.heap[w1.heap.size + 1]? = some (.cells #[.int .i64 y] 30 (0, 0)) := by rw [hV3]; exact box_set v211
    have g23 : Gr V2 V3 (fun q => q = w1.heap.size + 1) := by rw [hV3]; exact (Gr.refl V2 (fun q => q = w1.heap.size + 1)).set (p := ⟨w1.heap.size + 1, 0, none⟩) (.inl rfl) _
    have v35 := g23.heap v25 q10
    have ko : KeepsOthers W V3 := by
      rw [hV3]
      exact ko2.trans (KeepsOthers.setCell _ _ _)
    refine wpAnyH_ready (rs := [19]) (by kernel_rfl) (by simp) ?_
    refine AllReadyH.cons (o := { dst := none, op := Op.store 30 (Operand.tmp 11) (Operand.tmp 54), type := 0, pos := "connect.go:39", after := #[{ on := 17, ground := Ground.data }, { on := 18, ground := Ground.chain }, { on := 0, ground := Ground.phase }, { on := 1, ground := Ground.phase }, { on := 2, ground := Ground.phase }, { on := 3, ground := Ground.phase }, { on := 4, ground := Ground.phase }, { on := 5, ground := Ground.phase }, { on := 6, ground := Ground.phase }, { on := 7, ground := Ground.phase }, { on := 8, ground := Ground.phase }, { on := 9, ground := Ground.phase }, { on := 10, ground := Ground.phase }, { on := 11, ground := Ground.phase }, { on := 12, ground := Ground.phase }, { on := 13, ground := Ground.phase }, { on := 14, ground := Ground.phase }, { on := 15, ground := Ground.phase }, { on := 16, ground := Ground.phase }, { on := 17, ground := Ground.phase }, { on := 18, ground := Ground.phase }], guard := none }) rfl (fun K0 hK => ?_) AllReadyH.nil
    go_simp
    rw [← hV3]
    clear hV3 cv11 fv11 lv11
    have hsz3 : W.heap.size ≤ V3.heap.size := Nat.le_trans hbW1.size (Nat.le_trans g12.size g23.size)
    have hbl3 : ∀ k, k < W.heap.size → k ≠ w.heap.size + 1 → k ≠ w1.heap.size + 1 → V3.heap[k]? = W.heap[k]? := fun k hk h1 h2 => (g23.block k (Nat.lt_of_lt_of_le hk (Nat.le_trans hbW1.size g12.size)) h2).trans ((g12.block k (Nat.lt_of_lt_of_le hk hbW1.size) h1).trans (hbW1.block k hk))
    refine hK.out _ _ ((unhide KS) _ hsz3 hbl3) (fun hHeld2 => ?_)
    clear hK K0 hHeld
    have hHeld := hHeld2
    clear hHeld2
    (try simp only [Act.put, List.setIfInBounds_toArray, List.set_cons_zero, List.set_cons_succ])
    refine wpAnyH_done (by kernel_rfl) ⟨by simp, ?_⟩ _
    clear hHeld
    have kp3 : KpD W0.heap.size (w.heap.size + 1) (w1.heap.size + 1) W V3 := ⟨g23.os.trans (g12.os.trans hbW1.os), g23.tape.trans (g12.tape.trans hbW1.tape), g23.output.trans (g12.output.trans hbW1.output), hsz3, fun k hk h1 h2 => hbl3 k (by omega) h1 h2⟩
    have hco3 : CoinsAt V3 am an M := coins_box (S := fun q => q = w1.heap.size + 1) g23.size g23.block (fun k e => by subst e; exact ⟨_, _, _, v211⟩) (coins_box (S := fun q => q = w.heap.size + 1) g12.size g12.block (fun k e => by subst e; exact ⟨_, _, _, v5⟩) hM)
    have c3 := cell_of (X := [.int .i64 y]) v311 0 _ rfl
    have l3 := lt_of_block v311
    have KP3 := hide kp3
    have KO := hide ko
    have CO3 := hide hco3
    have V35 := hide v35
    have V311 := hide v311
    have HSN := hide hsn
    have HSZ := hide (Nat.le_trans hsz hsz3)
    have HBW3 : Hid (Below w.heap.size w V3) := ((unhide HKP).trans kp3).below hw0 q7 (by omega) (by have := unhide QS; omega)
    clear kp3 ko ko2 hco3 v35 v25 v211 v311 v5 v11 g12 g23 hbl3 hsz3 hbW1 hbV hM KS RV hsn f5W l5W
    by_cases hy : y = 0
    · subst hy
      gi_wp2
      refine ⟨(unhide KO).from _, unhide KP3, (unhide HKP).trans (unhide KP3), unhide HSZ, M, am, an, ac, ?_, unhide V35, unhide CO3, sM, unhide V311⟩
      rw [List.map_append]
      have e := unhide HSN
      rw [if_neg (by decide)] at e
      exact e
    · have gy : (y != 0) = true := by simp [hy]
      gi_wp2_with fail
      have hQS := unhide QS
      have kk := (unhide HKP).trans (unhide KP3)
      have v8 := (kk.block (w.heap.size + 1 + 1 + 1 + 1) (by omega) (by omega) (by omega)).trans (((unhide HX0).block _ (lt_of_block (unhide HX5))).trans (unhide HX5))
      have v9 := (kk.block (w.heap.size + 1 + 1 + 1 + 1 + 1) (by omega) (by omega) (by omega)).trans (((unhide HX0).block _ (lt_of_block (unhide HX6))).trans (unhide HX6))
      have n89 : ¬ w.heap.size + 1 + 1 + 1 + 1 = w.heap.size + 1 + 1 + 1 + 1 + 1 := by omega
      have n811 : ¬ w1.heap.size + 1 = w.heap.size + 1 + 1 + 1 + 1 := by omega
      have n911 : ¬ w1.heap.size + 1 = w.heap.size + 1 + 1 + 1 + 1 + 1 := by omega
      refine region_round (S := fun V => V.cell? ⟨w1.heap.size + 1, 0, none⟩ = some (.int .i64 y) ∧ w1.heap.size + 1 < V.heap.size) (by kernel_rfl) (by kernel_rfl) ⟨c3, l3⟩ (fun hHeld => ?_)
      obtain ⟨VD, hVD⟩ : ∃ VD, VD = V3.drew := ⟨_, rfl⟩
      rw [← hVD] at hHeld ⊢
      have hbD : Below V3.heap.size V3 VD := by rw [hVD]; exact bel_draw1 _
      have d8 := (hbD.block _ (lt_of_block v8)).trans v8
      have d9 := (hbD.block _ (lt_of_block v9)).trans v9
      have d11 := (hbD.block _ (lt_of_block (unhide V311))).trans (unhide V311)
      clear hVD v8 v9 c3 l3 kk hQS
      refine wpAnyH_take (i := 0) (oi := { dst := some 57, op := Op.load 30 (Operand.tmp 11), type := 30, pos := "connect.go:40", after := #[], guard := none }) (v := ?_) rfl (by kernel_rfl) (by kernel_rfl) (by kernel_rfl) (fun _ _ _ h => h) (Or.inl ⟨by rfl, ?_⟩) hHeld ?_
      rotate_left
      · (intro V hSw; obtain ⟨s1, s2⟩ := hSw; go_simp; first | done | with_reducible rfl)
      (try simp only [Act.put, List.setIfInBounds_toArray, List.set_cons_zero, List.set_cons_succ])
      have c8 := cell_of (X := [.slice none 0 0]) d8 0 _ rfl
      have f8 := frozen_of d8 0
      have l8 := lt_of_block d8
      obtain ⟨V4, hV4⟩ : ∃ V4, V4 = VD.setCell ⟨w.heap.size + 1 + 1 + 1 + 1, 0, none⟩ (.slice none 0 0) := ⟨_, rfl⟩
      have g4 : Gr VD V4 (fun q => q = w.heap.size + 1 + 1 + 1 + 1) := by rw [hV4]; exact (Gr.refl VD (fun q => q = w.heap.size + 1 + 1 + 1 + 1)).set (p := ⟨w.heap.size + 1 + 1 + 1 + 1, 0, none⟩) (.inl rfl) _
      have e8 : V4.heap[w.heap.size + 1 + 1 + 1 + 1]? = some (.cells #[.slice none 0 0] 29 (0, 0)) := by rw [hV4]; exact box_set d8
      have e9 := g4.heap d9 (fun q => n89 q.symm)
      have e11 := g4.heap d11 n811
      have ko4 : KeepsOthers W V4 := by
        rw [hV4]
        exact ((unhide KO).trans ⟨hbD.size, fun k _ hk _ => (hbD.block k (lt_of_block hk)).trans hk⟩).trans (KeepsOthers.setCell _ _ _)
      refine wpAnyH_ready (rs := [1]) (by kernel_rfl) (by simp) ?_
      refine AllReadyH.cons (o := { dst := none, op := Op.store 29 (Operand.tmp 8) (Operand.const (Value.slice none 0 0)), type := 0, pos := "connect.go:40", after := #[{ on := 0, ground := Ground.textOnly Departure.inlinedCapture }], guard := none }) rfl (fun K0 hK => ?_) AllReadyH.nil
      go_simp
      rw [← hV4]
      clear hV4 c8 f8 l8
      refine hK.out _ _ ⟨cell_of (X := [.int .i64 y]) e11 0 _ rfl, lt_of_block e11⟩ (fun hHeld2 => ?_)
      clear hK K0 hHeld
      have hHeld := hHeld2
      clear hHeld2
      (try simp only [Act.put, List.setIfInBounds_toArray, List.set_cons_zero, List.set_cons_succ])
      have c9 := cell_of (X := [.int .i64 0]) e9 0 _ rfl
      have f9 := frozen_of e9 0
      have l9 := lt_of_block e9
      obtain ⟨V5, hV5⟩ : ∃ V5, V5 = V4.setCell ⟨w.heap.size + 1 + 1 + 1 + 1 + 1, 0, none⟩ (.int .i64 y) := ⟨_, rfl⟩
      have g5 : Gr V4 V5 (fun q => q = w.heap.size + 1 + 1 + 1 + 1 + 1) := by rw [hV5]; exact (Gr.refl V4 (fun q => q = w.heap.size + 1 + 1 + 1 + 1 + 1)).set (p := ⟨w.heap.size + 1 + 1 + 1 + 1 + 1, 0, none⟩) (.inl rfl) _
      have k9 : V5.heap[w.heap.size + 1 + 1 + 1 + 1 + 1]? = some (.cells #[.int .i64 y] 30 (0, 0)) := by rw [hV5]; exact box_set e9
      have k8 := g5.heap e8 n89
      have k11 := g5.heap e11 n911
      have ko5 : KeepsOthers W V5 := by
        rw [hV5]
        exact ko4.trans (KeepsOthers.setCell _ _ _)
      refine wpAnyH_ready (rs := [2]) (by kernel_rfl) (by simp) ?_
      refine AllReadyH.cons (o := { dst := none, op := Op.store 30 (Operand.tmp 9) (Operand.tmp 57), type := 0, pos := "connect.go:40", after := #[{ on := 0, ground := Ground.data }, { on := 1, ground := Ground.chain }, { on := 0, ground := Ground.phase }, { on := 1, ground := Ground.phase }], guard := none }) rfl (fun K0 hK => ?_) AllReadyH.nil
      go_simp
      rw [← hV5]
      clear hV5 c9 f9 l9
      refine hK.out _ _ ⟨cell_of (X := [.int .i64 y]) k11 0 _ rfl, lt_of_block k11⟩ (fun hHeld2 => ?_)
      clear hK K0 hHeld
      have hHeld := hHeld2
      clear hHeld2
      (try simp only [Act.put, List.setIfInBounds_toArray, List.set_cons_zero, List.set_cons_succ])
      refine wpAnyH_done (by kernel_rfl) ⟨by simp, ?_⟩ _
      clear hHeld
      have hbF : Below w.heap.size w V5 := g5.below (g4.below (bel_on (unhide HBW3) hbD) (bel_on (unhide HBW3) hbD).size (fun k q => by omega)) (g4.below (bel_on (unhide HBW3) hbD) (bel_on (unhide HBW3) hbD).size (fun k q => by omega)).size (fun k q => by omega)
      have hsF : W0.heap.size ≤ V5.heap.size := Nat.le_trans (unhide HSZ) (Nat.le_trans hbD.size (Nat.le_trans g4.size g5.size))
      have KO5 := hide ko5
      have KB := hide hbF
      have KSF := hide hsF
      have K8 := hide k8
      have K9 := hide k9
      clear ko5 ko4 hbF hsF k8 k9 k11 e8 e9 e11 d8 d9 d11 g4 g5 hbD
      gi_wp2
      refine ⟨(unhide KO5).from _, rfl, unhide KB, unhide KSF, y, [], hy, ?_, unhide K8, unhide K9⟩
      rw [List.map_append]
      have e := unhide HSN
      rw [if_pos hy] at e
      exact e
  case done =>
    rintro D ys W hD rfl ⟨hkp, hsz, C, ca, cn, cc, hd, h5, hCo, sCo, h11⟩ hK
    have hQS := unhide QS
    have hxx := unhide HXX
    rw [disGo_list, dnL_all, hd] at hxx
    obtain ⟨rfl, rfl⟩ := Prod.mk.inj hxx
    have v8 := (hkp.block (w.heap.size + 1 + 1 + 1 + 1) (by omega) (by omega) (by omega)).trans (((unhide HX0).block _ (lt_of_block (unhide HX5))).trans (unhide HX5))
    have v9 := (hkp.block (w.heap.size + 1 + 1 + 1 + 1 + 1) (by omega) (by omega) (by omega)).trans (((unhide HX0).block _ (lt_of_block (unhide HX6))).trans (unhide HX6))
    have hBW : Below w.heap.size w W := hkp.below hw0 q7 (by omega) (by omega)
    have n89 : ¬ w.heap.size + 1 + 1 + 1 + 1 = w.heap.size + 1 + 1 + 1 + 1 + 1 := by omega
    have n98 : ¬ w.heap.size + 1 + 1 + 1 + 1 + 1 = w.heap.size + 1 + 1 + 1 + 1 := by omega
    have c5 := cell_of (X := [.slice ca cn cc]) h5 0 _ rfl
    have l5 := lt_of_block h5
    have c8 := cell_of (X := [.slice none 0 0]) v8 0 _ rfl
    have f8 := frozen_of v8 0
    have l8 := lt_of_block v8
    obtain ⟨V4, hV4⟩ : ∃ V4, V4 = W.setCell ⟨w.heap.size + 1 + 1 + 1 + 1, 0, none⟩ (.slice ca cn cc) := ⟨_, rfl⟩
    have g4 : Gr W V4 (fun q => q = w.heap.size + 1 + 1 + 1 + 1) := by rw [hV4]; exact (Gr.refl W (fun q => q = w.heap.size + 1 + 1 + 1 + 1)).set (p := ⟨w.heap.size + 1 + 1 + 1 + 1, 0, none⟩) (.inl rfl) _
    have e8 : V4.heap[w.heap.size + 1 + 1 + 1 + 1]? = some (.cells #[.slice ca cn cc] 29 (0, 0)) := by rw [hV4]; exact box_set v8
    have e9 := g4.heap v9 n98
    have kd4 : V4.heap[D]? = some (.deferred (some [])) := by rw [hV4]; exact (KeepsOthers.setCell W _ _).same D _ hK rfl
    have c9 := cell_of (X := [.int .i64 0]) v9 0 _ rfl
    have f9 := frozen_of v9 0
    have l9 := lt_of_block v9
    obtain ⟨V5, hV5⟩ : ∃ V5, V5 = V4.setCell ⟨w.heap.size + 1 + 1 + 1 + 1 + 1, 0, none⟩ (.int .i64 0) := ⟨_, rfl⟩
    have g5 : Gr V4 V5 (fun q => q = w.heap.size + 1 + 1 + 1 + 1 + 1) := by rw [hV5]; exact (Gr.refl V4 (fun q => q = w.heap.size + 1 + 1 + 1 + 1 + 1)).set (p := ⟨w.heap.size + 1 + 1 + 1 + 1 + 1, 0, none⟩) (.inl rfl) _
    have k9 : V5.heap[w.heap.size + 1 + 1 + 1 + 1 + 1]? = some (.cells #[.int .i64 0] 30 (0, 0)) := by rw [hV5]; exact box_set e9
    have k8 := g5.heap e8 n89
    have kd5 : V5.heap[D]? = some (.deferred (some [])) := by rw [hV5]; exact (KeepsOthers.setCell V4 _ _).same D _ kd4 rfl
    have hb5 : Below w.heap.size w V5 := g5.below (g4.below hBW hBW.size (fun k q => by omega)) (g4.below hBW hBW.size (fun k q => by omega)).size (fun k q => by omega)
    have hc5 : CoinsAt V5 ca cn C := coins_box (S := fun q => q = w.heap.size + 1 + 1 + 1 + 1 + 1) g5.size g5.block (fun k e => by subst e; exact ⟨_, _, _, e9⟩) (coins_box (S := fun q => q = w.heap.size + 1 + 1 + 1 + 1) g4.size g4.block (fun k e => by subst e; exact ⟨_, _, _, v8⟩) hCo)
    have gp := grownBy_putObj' V5 D (.deferred none)
    have hrp : ∀ r, (some D : Option Nat) = some r → ∃ o : Obj, V5.heap[r]? = some o ∧ o.isCells = false := fun r e => by cases e; exact ⟨_, kd5, rfl⟩
    have hcF := coins_cells (kept_grown gp hrp) hc5
    have hbF : Below w.heap.size w (V5.putObj D (.deferred none)) := hb5.grown gp hb5.size (fun k e => by cases e; omega)
    have z8 := cell_kept (cell_of (X := [.slice ca cn cc]) k8 0 _ rfl) gp hrp
    have z9 := cell_kept (cell_of (X := [.int .i64 0]) k9 0 _ rfl) gp hrp
    have HF : Hid (RvR w (V5.putObj D (.deferred none)) 0 C (.returned (.tuple #[.slice ca cn cc, .int .i64 0]))) := ⟨ca, cn, cc, rfl, hcF, sCo, hbF⟩
    have KD := hide kd5
    clear hcF hbF hc5 hb5 k8 k9 e8 kd4 kd5 hCo hkp h5 h11 hBW v8 e9 g4 g5 hK hQS hd gp hrp hxx
    have HV4 := hide hV4
    have HV5 := hide hV5
    clear hV4 hV5 v9
    gi_wp2
    rw [← unhide HV4, ← unhide HV5]
    refine ⟨by simp, .inl ⟨_, _, rfl, run_takeDeferred (unhide KD), ?_⟩⟩
    refine ⟨.tuple #[.slice ca cn cc, .int .i64 0], ?_, unhide HF⟩
    simp [results, Tryz.f137, go_sem, z8, z9]
  case stop =>
    rintro D cd pre W hD ⟨k, hk, rfl⟩ ⟨rfl, hBW, hsz, y, M, hy, hd, h8, h9⟩ hK
    have hxx := unhide HXX
    rw [disGo_list, dnL_down m k hk, disL_err hd hy] at hxx
    obtain ⟨rfl, rfl⟩ := Prod.mk.inj hxx
    have hQS := unhide QS
    have gp := grownBy_putObj' W D (.deferred none)
    have hrp : ∀ r, (some D : Option Nat) = some r → ∃ o : Obj, W.heap[r]? = some o ∧ o.isCells = false := fun r e => by cases e; exact ⟨_, hK, rfl⟩
    have hbF : Below w.heap.size w (W.putObj D (.deferred none)) := hBW.grown gp hBW.size (fun k e => by cases e; omega)
    have z8 := cell_kept (cell_of (X := [.slice none 0 0]) h8 0 _ rfl) gp hrp
    have z9 := cell_kept (cell_of (X := [.int .i64 y]) h9 0 _ rfl) gp hrp
    have HF : Hid (RvR w (W.putObj D (.deferred none)) y [] (.returned (.tuple #[.slice none 0 0, .int .i64 y]))) := rv_err rfl hbF
    have KD := hide hK
    clear hbF hBW hd hK gp hrp hxx h8 h9 hQS
    gi_wp2
    refine ⟨by simp, .inl ⟨_, _, rfl, run_takeDeferred (unhide KD), ?_⟩⟩
    refine ⟨.tuple #[.slice none 0 0, .int .i64 y], ?_, unhide HF⟩
    simp [results, Tryz.f137, go_sem, z8, z9]

end Go.Proofs.YtmomfkikogbdeaaGreatDoor
