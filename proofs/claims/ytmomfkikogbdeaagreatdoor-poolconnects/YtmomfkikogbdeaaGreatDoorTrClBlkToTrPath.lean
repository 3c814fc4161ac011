/- The contracts of clone.Txs and clone.Block. -/
import Derived.Test.YtmomfkikogbdeaaGreatDoorTrClTx
import Derived.Test.YtmomfkikogbdeaaGreatDoorTrCloneToTrIdx
namespace Go.Proofs.YtmomfkikogbdeaaGreatDoor.Tr
open Go.RowKit

def TxSmall (t : TxD) : Prop := t.2.1.length ≤ 4096 ∧ t.2.2.length ≤ 4096 ∧ (∀ x ∈ t.2.1, x.2.2.length ≤ 4096) ∧ ∀ x ∈ t.2.2, x.2.length ≤ 4096

/-- A transaction has been copied. -/
theorem tx_step {G B w0s : Nat} {w0 wr w5 : World} {g cap n k : Nat} {K : List (List Value)} {T : List TxD} {x : TxD} {u0 u1 u2 : Value} (h : Cl txR 59 B G w0 wr (.slice (some ⟨g, 0, none⟩) n cap) n K T k) (hk : k < T.length) (hkK : k < K.length) (hx : T[k] = x) (hb : Below wr.heap.size wr w5) (hf : Fresh w0s w5 (fun w2 => txR.C w2 [u0, u1, u2] x)) (hG : G ≤ w0s) :
    Cl txR 59 B G w0 (((w5.setCell ⟨g, k * 3, none⟩ u0).setCell ⟨g, k * 3 + 1, none⟩ u1).setCell ⟨g, k * 3 + 2, none⟩ u2) (.slice (some ⟨g, 0, none⟩) n cap) n (K.set k [u0, u1, u2]) T (k + 1) := by
  have h5 := h.keep hb
  refine h5.step hk ?_ ((((Gr.refl w5 (fun q => q = g)).one g (k * 3) (.inl rfl) _).one g (k * 3 + 1) (.inl rfl) _).one g (k * 3 + 2) (.inl rfl) _) ?_
  · rw [hx]
    exact hf.less hG
  · have h1 := (((h5.own.stored (k * 3) u0).1.stored (k * 3 + 1) u1).1.stored (k * 3 + 2) u2).1
    rw [put3 h5.wid k hkK] at h1
    exact h1

set_option maxRecDepth 10000 in
set_option maxHeartbeats 6400000 in
theorem clTxs_is (at_ : Option Addr) (m c : Nat) (T : List TxD) (w : World) (hT : TxsAt w at_ m T) (sT : SlOk at_ m c) (hm : m ≤ 4096) (hs : ∀ t ∈ T, TxSmall t) :
    Calls Tryz.prog 142 #[.slice at_ m c] w fun e w' => ∃ a' c', e = .returned (.slice a' m c') ∧ Fresh w.heap.size w' (fun w2 => TxsAt w2 a' m T ∧ SlOk a' m c') ∧ Below w.heap.size w w' := by
  have HSM := hide hs
  have HZT := hide hT.1
  have C1 := hide (cloneTx_any at_ m c T w w hm hT ⟨rfl, rfl, rfl, Nat.le_refl _, fun _ _ => rfl⟩ sT)
  clear hT sT hs
  go_enter Tryz.func142, Tryz.ntmps142
  go_wp2_with fail
  refine (unhide C1).mono ?_
  rintro e w3 ⟨v, K1, rfl, hA, ho, hb3⟩
  obtain ⟨a1, c1, rfl, _, _⟩ := own_slice ho
  obtain ⟨G, hG⟩ : ∃ G, w3.heap.size = G := ⟨_, rfl⟩
  have hGw : w.heap.size ≤ G := by rw [← hG]; exact hb3.size
  have ST1 : Hid (Cl txR 59 w.heap.size G w w3 (.slice a1 m c1) m K1 T 0) := Cl.start ho hA (unhide HZT) (Nat.le_of_eq hG)
  have HB := hide hb3
  have HGl : Hid (G ≤ w3.heap.size) := Nat.le_of_eq hG.symm
  clear hA ho hb3 hG C1
  go_wp2
  go_loopw [9] (fun i wr => ∃ (k : Nat) (K : List (List Value)), k ≤ m ∧ i = .int .i64 k ∧ Hid (Cl txR 59 w.heap.size G w wr (.slice a1 m c1) m K T k) ∧ Hid (Below w.heap.size w wr) ∧ Hid (G ≤ wr.heap.size)) (fun i _ => m - (intOf i).toNat)
  case atStart => exact ⟨0, K1, Nat.zero_le _, rfl, ST1, HB, HGl⟩
  case round =>
    obtain ⟨k, K, hk, rfl, HC1, HBr, HGr⟩ := hrel
    clear ST1 HB HGl
    by_cases hlt : k < m
    · have hlk : k < T.length := by rw [unhide HZT]; exact hlt
      have hkK : k < K.length := by rw [(unhide HC1).len]; exact hlk
      obtain ⟨g, cap, ev, hgB, hgG, hgl⟩ := (unhide HC1).form (by omega)
      cases ev
      obtain ⟨ai, ni, ci, ao, no, co, eK, hI, sI, hO, sO⟩ := (unhide HC1).old k hlk hkK (Nat.le_refl _)
      have hsm := (unhide HSM) _ (List.getElem_mem hlk)
      obtain ⟨x, hx⟩ : ∃ x, T[k] = x := ⟨_, rfl⟩
      rw [hx] at eK hI hO hsm
      have r0 := (unhide HC1).cell k hkK 0 (by decide)
      have r1 := (unhide HC1).cell k hkK 1 (by decide)
      have r2 := (unhide HC1).cell k hkK 2 (by decide)
      rw [eK] at r0 r1 r2
      have r0 : wr.cell? ⟨g, k * 3, none⟩ = some (.int .i64 x.1) := r0
      have r1 : wr.cell? ⟨g, k * 3 + 1, none⟩ = some (.slice ai ni ci) := r1
      have r2 : wr.cell? ⟨g, k * 3 + 2, none⟩ = some (.slice ao no co) := r2
      obtain ⟨X1, hX1⟩ : ∃ X1, X1 = wr.alloc (.cells #[.int .i64 x.1, .slice ai ni ci, .slice ao no co] 59) := ⟨_, rfl⟩
      have hbX1 : Below wr.heap.size wr X1 := by rw [hX1]; exact bel_new _ _
      have hXX : X1.heap[wr.heap.size]? = some (.cells [.int .i64 x.1, .slice ai ni ci, .slice ao no co].toArray 59 (0, 0)) := by rw [hX1]; exact three_heap _ _ _ _ _
      have b0 := cell_of hXX 0 _ rfl
      have b1 := cell_of hXX 1 _ rfl
      have b2 := cell_of hXX 2 _ rfl
      have bl := lt_of_block hXX
      have HBX1 := hide hbX1
      have hbb := bel_on (unhide HBr) hbX1
      have CO := hide (clTx_is x.1 ai ao ni ci no co x.2.1 x.2.2 X1 (hI.later hbb) (hO.later hbb) sI sO (by rw [← hI.1]; exact hsm.1) (by rw [← hO.1]; exact hsm.2.1) hsm.2.2.1 hsm.2.2.2)
      have NX : Hid (∀ w5 u0 u1 u2, Below wr.heap.size wr w5 → Fresh X1.heap.size w5 (fun w2 => txR.C w2 [u0, u1, u2] x) →
          Hid (Cl txR 59 w.heap.size G w (((w5.setCell ⟨g, k * 3, none⟩ u0).setCell ⟨g, k * 3 + 1, none⟩ u1).setCell ⟨g, k * 3 + 2, none⟩ u2) (.slice (some ⟨g, 0, none⟩) m c1) m (K.set k [u0, u1, u2]) T (k + 1)) ∧ Hid (Below w.heap.size w (((w5.setCell ⟨g, k * 3, none⟩ u0).setCell ⟨g, k * 3 + 1, none⟩ u1).setCell ⟨g, k * 3 + 2, none⟩ u2)) ∧ Hid (G ≤ (((w5.setCell ⟨g, k * 3, none⟩ u0).setCell ⟨g, k * 3 + 1, none⟩ u1).setCell ⟨g, k * 3 + 2, none⟩ u2).heap.size)) := by
        intro w5 u0 u1 u2 hb5 hf5
        have hGr := unhide HGr
        have hg5 := (((Gr.refl w5 (fun q => q = g)).one g (k * 3) (.inl rfl) u0).one g (k * 3 + 1) (.inl rfl) u1).one g (k * 3 + 2) (.inl rfl) u2
        have hs5 := hb5.size
        refine ⟨tx_step (unhide HC1) hlk hkK hx hb5 hf5 (Nat.le_trans hGr hbX1.size), ?_, ?_⟩
        · exact hg5.below (bel_on (unhide HBr) hb5) (by have := (unhide HBr).size; omega) (fun q e => by omega)
        · exact Nat.le_trans hGr (Nat.le_trans hs5 hg5.size)
      have FR := hide (fun j => (unhide HC1).free j)
      have hkI : (k : Int) < (m : Int) := by omega
      clear hI hO sI sO hsm hx eK hbX1 hXX hbb
      go_wp2_with fail
      rw [← hX1]
      clear hX1
      (try go_wp2_with fail)
      refine (unhide CO).mono ?_
      rintro e w5 ⟨a5, c5, a6, c6, rfl, hf5, hb5⟩
      have hbw5 := bel_on (unhide HBX1) hb5
      have HN := hide ((unhide NX) w5 _ _ _ hbw5 hf5)
      have s0 := cell_later hbw5 r0
      have s1 := cell_later hbw5 r1
      have s2 := cell_later hbw5 r2
      have q3 : w5.frozen? ⟨g, k * 3, none⟩ = false := (World.frozen?_of_block (a := ⟨g, k * 3, none⟩) (hbw5.block g hgl)).trans ((unhide FR) _)
      have q33 : w5.frozen? ⟨g, k * 3 + 1, none⟩ = false := (World.frozen?_of_block (a := ⟨g, k * 3 + 1, none⟩) (hbw5.block g hgl)).trans ((unhide FR) _)
      have q34 : w5.frozen? ⟨g, k * 3 + 2, none⟩ = false := (World.frozen?_of_block (a := ⟨g, k * 3 + 2, none⟩) (hbw5.block g hgl)).trans ((unhide FR) _)
      have q4 := Nat.lt_of_lt_of_le hgl hbw5.size
      clear hf5 hb5 hbw5
      go_wp2
      go_roundw
      case rel =>
        obtain ⟨f1, f5, f6⟩ := unhide HN
        exact ⟨k + 1, _, by omega, by go_num, f1, f5, f6⟩
      case measure => simp [intOf]; omega
    · have e : k = m := by omega
      subst e
      have R : Hid (Fresh w.heap.size wr (fun w2 => TxsAt w2 a1 k T ∧ SlOk a1 k c1)) := by
        obtain ⟨a', c', e1, h1⟩ := (unhide HC1).rows hGw
        cases e1
        exact h1
      clear HC1
      go_wp2
      go_ret
      exact ⟨a1, c1, rfl, unhide R, unhide HBr⟩

set_option maxRecDepth 10000 in
set_option maxHeartbeats 6400000 in
theorem clBlock_is (p h k0 o : Int) (at_ : Option Addr) (m c : Nat) (T : List TxD) (w : World) (hT : TxsAt w at_ m T) (sT : SlOk at_ m c) (hm : m ≤ 4096) (hs : ∀ t ∈ T, TxSmall t) :
    Calls Tryz.prog 71 #[.agg #[.int .i64 p, .int .i64 h, .int .i64 k0, .int .i64 o, .slice at_ m c]] w fun e w' => ∃ a' c', e = .returned (.agg #[.int .i64 p, .int .i64 h, .int .i64 k0, .int .i64 o, .slice a' m c']) ∧ Fresh w.heap.size w' (fun w2 => blkR.C w2 [.int .i64 p, .int .i64 h, .int .i64 k0, .int .i64 o, .slice a' m c'] (p, h, k0, o, T)) ∧ Below w.heap.size w w' := by
  obtain ⟨X, hX⟩ : ∃ X, X = (w.alloc (.cells #[.int .i64 p, .int .i64 h, .int .i64 k0, .int .i64 o, .slice at_ m c] 39)).alloc (.cells #[.int .i64 0, .int .i64 0, .int .i64 0, .int .i64 0, .slice none 0 0] 39) := ⟨_, rfl⟩
  have hbX : Below w.heap.size w X := by rw [hX]; exact bel_on (bel_new _ _) (bel_new _ _)
  have hX0 : X.heap[w.heap.size]? = some (.cells [.int .i64 p, .int .i64 h, .int .i64 k0, .int .i64 o, .slice at_ m c].toArray 39 (0, 0)) := by
    rw [hX, Below.heap_alloc _ _ _ (by simp)]; exact five_heap _ _ _ _ _ _ _
  have hXs : X.heap.size = w.heap.size + 2 := by rw [hX]; simp
  have hX1 : X.heap[w.heap.size + 1]? = some (.cells [.int .i64 0, .int .i64 0, .int .i64 0, .int .i64 0, .slice none 0 0].toArray 39 (0, 0)) := by
    rw [hX]
    have := five_heap (w.alloc (.cells #[.int .i64 p, .int .i64 h, .int .i64 k0, .int .i64 o, .slice at_ m c] 39)) (.int .i64 0) (.int .i64 0) (.int .i64 0) (.int .i64 0) (.slice none 0 0) 39
    rw [show (w.alloc (.cells #[.int .i64 p, .int .i64 h, .int .i64 k0, .int .i64 o, .slice at_ m c] 39)).heap.size = w.heap.size + 1 by simp] at this
    exact this
  have HBX := hide hbX
  have HX0 := hide hX0
  have HX1 := hide hX1
  have HXs := hide hXs
  have C1 := hide (clTxs_is at_ m c T X (hT.later hbX) sT hm hs)
  have x4 := cell_of hX0 4 _ rfl
  have xl := lt_of_block hX0
  clear hbX hX0 hX1 hT sT hs hXs
  go_enter Tryz.func71, Tryz.ntmps71
  go_wp2_with fail
  rw [← hX]
  clear hX
  (try go_wp2_with fail)
  refine (unhide C1).mono ?_
  rintro e w3 ⟨a1, c1, rfl, hf3, hb3⟩
  have h30 := (hb3.block _ (lt_of_block (unhide HX0))).trans (unhide HX0)
  have h31 := (hb3.block _ (lt_of_block (unhide HX1))).trans (unhide HX1)
  have d4 := cell_of h30 4 _ rfl
  have z9 := frozen_of h30 4
  have dl := lt_of_block h30
  have s0 := cell_of h30 0 _ rfl
  have s1 := cell_of h30 1 _ rfl
  have s2 := cell_of h30 2 _ rfl
  have s3 := cell_of h30 3 _ rfl
  have y0 := cell_of h31 0 _ rfl
  have y1 := cell_of h31 1 _ rfl
  have y2 := cell_of h31 2 _ rfl
  have y3 := cell_of h31 3 _ rfl
  have y4 := cell_of h31 4 _ rfl
  have z0 := frozen_of h31 0
  have z1 := frozen_of h31 1
  have z2 := frozen_of h31 2
  have z3 := frozen_of h31 3
  have z4 := frozen_of h31 4
  have yl := lt_of_block h31
  have HB3 := hide (bel_on (unhide HBX) hb3)
  have HF := hide hf3
  clear hf3 hb3 h30 h31 C1 HX0 HX1 HBX x4 xl
  go_wp2
  (try simp only [Exit.inBlock, Exit.then])
  have hG := ((((((Gr.refl w3 (fun q => q = w.heap.size ∨ q = w.heap.size + 1)).one w.heap.size 4 (.inl (.inl rfl)) (.slice a1 m c1)).one (w.heap.size + 1) 0 (.inl (.inr rfl)) (.int .i64 p)).one (w.heap.size + 1) 1 (.inl (.inr rfl)) (.int .i64 h)).one (w.heap.size + 1) 2 (.inl (.inr rfl)) (.int .i64 k0)).one (w.heap.size + 1) 3 (.inl (.inr rfl)) (.int .i64 o)).one (w.heap.size + 1) 4 (.inl (.inr rfl)) (.slice a1 m c1)
  refine bodyPost_ret (v := .agg #[.int .i64 p, .int .i64 h, .int .i64 k0, .int .i64 o, .slice a1 m c1]) ?_ rfl ⟨a1, c1, rfl, ?_, ?_⟩
  · rw [results_cell1 rfl]
    go_simp
  · refine ((Fresh.imp (unhide HF) fun w2 h => ⟨_, _, _, rfl, h.1, h.2⟩).on (hG.mono fun q _ e => by have := unhide HXs; omega)).less (by have := unhide HXs; omega)
  · exact hG.below (unhide HB3) (by omega) (fun q e => by omega)

end Go.Proofs.YtmomfkikogbdeaaGreatDoor.Tr

/- The contract of clone.Tree. -/
namespace Go.Proofs.YtmomfkikogbdeaaGreatDoor.Tr
open Go.RowKit

/-- A block has been copied. -/
theorem blk_step {G B w0s : Nat} {w0 wr w5 : World} {g cap n k : Nat} {K : List (List Value)} {T : List BlkD} {x : BlkD} {u0 u1 u2 u3 u4 : Value} (h : Cl blkR 39 B G w0 wr (.slice (some ⟨g, 0, none⟩) n cap) n K T k) (hk : k < T.length) (hkK : k < K.length) (hx : T[k] = x) (hb : Below wr.heap.size wr w5) (hf : Fresh w0s w5 (fun w2 => blkR.C w2 [u0, u1, u2, u3, u4] x)) (hG : G ≤ w0s) :
    Cl blkR 39 B G w0 (((((w5.setCell ⟨g, k * 5, none⟩ u0).setCell ⟨g, k * 5 + 1, none⟩ u1).setCell ⟨g, k * 5 + 2, none⟩ u2).setCell ⟨g, k * 5 + 3, none⟩ u3).setCell ⟨g, k * 5 + 4, none⟩ u4) (.slice (some ⟨g, 0, none⟩) n cap) n (K.set k [u0, u1, u2, u3, u4]) T (k + 1) := by
  have h5 := h.keep hb
  refine h5.step hk ?_ ((((((Gr.refl w5 (fun q => q = g)).one g (k * 5) (.inl rfl) _).one g (k * 5 + 1) (.inl rfl) _).one g (k * 5 + 2) (.inl rfl) _).one g (k * 5 + 3) (.inl rfl) _).one g (k * 5 + 4) (.inl rfl) _) ?_
  · rw [hx]
    exact hf.less hG
  · have h1 := (((((h5.own.stored (k * 5) u0).1.stored (k * 5 + 1) u1).1.stored (k * 5 + 2) u2).1.stored (k * 5 + 3) u3).1.stored (k * 5 + 4) u4).1
    rw [put5 h5.wid k hkK] at h1
    exact h1

def CutTree (w : World) (N : List Int) (T : List BlkD) (n : Nat) (v1 v2 : Value) (wx : World) : Prop :=
  ∃ K, AllC blkR w K T ∧ wx.ownsRow (w.heap.size + 2) 3 1 v1 n (N.map (Value.int .i64)) ∧ wx.ownsRow (w.heap.size + 2) 39 5 v2 n K.flatten ∧
    wx.heap[w.heap.size]? = some (.cells [v1, v2].toArray 28 (0, 0)) ∧ wx.heap[w.heap.size + 1]? = some (.cells [.slice none 0 0, .slice none 0 0].toArray 28 (0, 0)) ∧ Below w.heap.size w wx
theorem cutTree_of {w W wx : World} {N : List Int} {T : List BlkD} {n : Nat} {v1 v2 : Value} {K : List (List Value)} (h1 : AllC blkR w K T) (o1 : W.ownsRow (w.heap.size + 2) 3 1 v1 n (N.map (Value.int .i64))) (o2 : W.ownsRow (w.heap.size + 2) 39 5 v2 n K.flatten) (hb : Below w.heap.size w W)
    (hz : W.heap[w.heap.size + 1]? = some (.cells [.slice none 0 0, .slice none 0 0].toArray 28 (0, 0))) (hg : Gr W wx (fun q => q = w.heap.size)) (hx : wx.heap[w.heap.size]? = some (.cells [v1, v2].toArray 28 (0, 0))) : CutTree w N T n v1 v2 wx :=
  ⟨K, h1, hg.own o1 (fun k hk => by have := (o1.lt k hk).1; omega), hg.own o2 (fun k hk => by have := (o2.lt k hk).1; omega), hx, hg.heap hz (by omega), hg.below hb (by have := lt_of_block hz; omega) (fun k hk => by omega)⟩

def BlkSmall (b : BlkD) : Prop := b.2.2.2.2.length ≤ 4096 ∧ ∀ t ∈ b.2.2.2.2, TxSmall t

/-- A tree that a call has laid: rows of its own, contents of the blocks behind G. -/
def TreeOwn (B : Nat) (w : World) (v1 v2 : Value) (n : Nat) (N : List Int) (T : List BlkD) : Prop :=
  ∃ K G, w.ownsRow B 3 1 v1 n (N.map (Value.int .i64)) ∧ w.ownsRow B 39 5 v2 n K.flatten ∧ (∀ q, v1.ownBlock = some q → q < G) ∧ (∀ q, v2.ownBlock = some q → q < G) ∧ B ≤ G ∧ T.length = n ∧ Fresh G w (fun w2 => AllC blkR w2 K T)
theorem TreeOwn.gr {B : Nat} {w w' : World} {v1 v2 : Value} {n : Nat} {N : List Int} {T : List BlkD} (h : TreeOwn B w v1 v2 n N T) (g : Gr w w' (fun q => q < B)) : TreeOwn B w' v1 v2 n N T := by
  obtain ⟨K, G, h1, h2, h3, h4, h5, h6, h7⟩ := h
  exact ⟨K, G, g.own h1 (fun q hq => by have := (h1.lt q hq).1; omega), g.own h2 (fun q hq => by have := (h2.lt q hq).1; omega), h3, h4, h5, h6, h7.on (g.mono fun q _ hq => by omega)⟩
theorem TreeOwn.less {B B' : Nat} {w : World} {v1 v2 : Value} {n : Nat} {N : List Int} {T : List BlkD} (h : TreeOwn B' w v1 v2 n N T) (hb : B ≤ B') : TreeOwn B w v1 v2 n N T := by
  obtain ⟨K, G, h1, h2, h3, h4, h5, h6, h7⟩ := h
  exact ⟨K, G, own_weak h1 hb, own_weak h2 hb, h3, h4, by omega, h6, h7⟩
theorem TreeOwn.read {B : Nat} {w : World} {v1 v2 : Value} {n : Nat} {N : List Int} {T : List BlkD} (h : TreeOwn B w v1 v2 n N T) : ∃ a1 c1 a2 c2, v1 = .slice a1 n c1 ∧ v2 = .slice a2 n c2 ∧ IntsAt w a1 n N ∧ SlOk a1 n c1 ∧ BlksAt w a2 n T ∧ SlOk a2 n c2 := by
  obtain ⟨K, G, h1, h2, h3, h4, h5, h6, h7⟩ := h
  obtain ⟨a1, c1, rfl, s1, i1⟩ := ints_of_own h1
  obtain ⟨a2, c2, rfl, r2, s2⟩ := rows_of_own blkR h2 h7.now h6
  exact ⟨a1, c1, a2, c2, rfl, rfl, i1, s1, r2, s2⟩

set_option maxRecDepth 10000 in
set_option maxHeartbeats 12800000 in
theorem clTree_is (a b : Option Addr) (n c d : Nat) (N : List Int) (T : List BlkD) (w : World) (hN : IntsAt w a n N) (hT : BlksAt w b n T) (sN : SlOk a n c) (sT : SlOk b n d) (hn : n ≤ 4096) (hs : ∀ t ∈ T, BlkSmall t) :
    Calls Tryz.prog 135 #[.agg #[.slice a n c, .slice b n d]] w fun e w' => ∃ v1 v2, e = .returned (.agg #[v1, v2]) ∧ TreeOwn (w.heap.size + 2) w' v1 v2 n N T ∧ Below w.heap.size w w' := by
  obtain ⟨X, hX⟩ : ∃ X, X = (w.alloc (.cells #[.slice a n c, .slice b n d] 28)).alloc (.cells #[.slice none 0 0, .slice none 0 0] 28) := ⟨_, rfl⟩
  have hbX : Below w.heap.size w X := by rw [hX]; exact bel_on (bel_new _ _) (bel_new _ _)
  have hX0 : X.heap[w.heap.size]? = some (.cells [.slice a n c, .slice b n d].toArray 28 (0, 0)) := by
    rw [hX, Below.heap_alloc _ _ _ (by simp)]; exact two_heap _ _ _ _
  have hXs : X.heap.size = w.heap.size + 2 := by rw [hX]; simp
  have hX1 : X.heap[w.heap.size + 1]? = some (.cells [.slice none 0 0, .slice none 0 0].toArray 28 (0, 0)) := by
    rw [hX]
    have := two_heap (w.alloc (.cells #[.slice a n c, .slice b n d] 28)) (.slice none 0 0) (.slice none 0 0) 28
    rw [show (w.alloc (.cells #[.slice a n c, .slice b n d] 28)).heap.size = w.heap.size + 1 by simp] at this
    exact this
  have HBX := hide hbX
  have HX0 := hide hX0
  have HX1 := hide hX1
  have HXs := hide hXs
  have HSM := hide hs
  have HZN := hide hN.1
  have HZT := hide hT.1
  have C1 := hide (cloneInt_any a n c N X.drew hn (hN.later (bel_on hbX (bel_draw1 X))) sN)
  have C2 := hide (fun W (hb : Below w.heap.size w W) => cloneBlk_any b n d T w W hn hT hb sT)
  have x0 := cell_of hX0 0 _ rfl
  have x1 := cell_of hX0 1 _ rfl
  have xl := lt_of_block hX0
  clear hbX hX0 hX1 hN hT sN sT hs hXs
  go_enter Tryz.func135, Tryz.ntmps135
  go_upto_region 1 with fail
  rw [← hX]
  clear hX
  go_cut [7, 10] from 5 to 12 (fun s7 s10 wx => Hid (CutTree w N T n s7 s10 wx))
  case first =>
    go_region_with (first
      | (go_at_call 47
         refine (unhide C1).mono ?_
         rintro e w3 ⟨v1, rfl, ho1, hb3⟩
         have h30 := (hb3.block _ (lt_of_block (unhide HX0))).trans (unhide HX0)
         have d0 := cell_of h30 0 _ rfl
         have d1 := cell_of h30 1 _ rfl
         have dl := lt_of_block h30
         have HO1 : Hid (w3.ownsRow (w.heap.size + 2) 3 1 v1 n (N.map (Value.int .i64))) := own_weak ho1 (Nat.le_of_eq (unhide HXs).symm)
         have HB3 := hide (bel_on (bel_on (unhide HBX) (bel_draw1 _)) hb3)
         have HB3X := hide (bel_on (bel_draw1 X) hb3)
         clear ho1 hb3 h30)
      | (go_at_call 196
         refine ((unhide C2) _ (unhide HB3)).mono ?_
         rintro e w4 ⟨v2, K2, rfl, hA2, ho2, hb4⟩
         have hbX4 := bel_on (unhide HB3X) hb4
         have h40 := (hbX4.block _ (lt_of_block (unhide HX0))).trans (unhide HX0)
         have h41 := (hbX4.block _ (lt_of_block (unhide HX1))).trans (unhide HX1)
         have e0 := cell_of h40 0 _ rfl
         have e1 := cell_of h40 1 _ rfl
         have z0 := frozen_of h40 0
         have z1 := frozen_of h40 1
         have el := lt_of_block h40
         have HA2 := hide hA2
         have HO2 : Hid (w4.ownsRow (w.heap.size + 2) 39 5 v2 n K2.flatten) := own_weak ho2 (by have := (unhide HB3X).size; have := unhide HXs; omega)
         have HO14 := hide ((Gr.of (S := fun _ => False) hb4).own (unhide HO1) (fun _ _ q => q))
         have HB4 := hide (bel_on (unhide HB3) hb4)
         have H40 := hide h40
         have H41 := hide h41
         obtain ⟨a2, c2, rfl, _, _⟩ := own_slice (unhide HO2)
         obtain ⟨a1, c1, rfl, _, _⟩ := own_slice (unhide HO1)
         clear hA2 ho2 hb4 hbX4 h40 h41))
    all_goals
      go_wp2_with fail
      go_meet
      case rel =>
        first
        | exact cutTree_of (W := w4) (unhide HA2) (unhide HO14) (unhide HO2) (unhide HB4) (unhide H41) (((Gr.refl w4 (fun q => q = w.heap.size)).one w.heap.size 0 (.inl rfl) _).one w.heap.size 1 (.inl rfl) _) (set_cells (set_cells (unhide H40) 0 _) 1 _)
        | exact cutTree_of (W := w4) (unhide HA2) (unhide HO14) (unhide HO2) (unhide HB4) (unhide H41) (((Gr.refl w4 (fun q => q = w.heap.size)).one w.heap.size 1 (.inl rfl) _).one w.heap.size 0 (.inl rfl) _) (set_cells (set_cells (unhide H40) 1 _) 0 _)
  case rest =>
    obtain ⟨K1, hA1, ho1, ho2, h0, h1, hb⟩ := unhide hcut
    obtain ⟨a1, c1, rfl, _, _⟩ := own_slice ho1
    obtain ⟨a2, c2, rfl, _, _⟩ := own_slice ho2
    obtain ⟨G, hG⟩ : ∃ G, wc.heap.size = G := ⟨_, rfl⟩
    have hGw : w.heap.size + 2 ≤ G := by rw [← hG]; exact lt_of_block h1
    have ST1 : Hid (wc.ownsRow (w.heap.size + 2) 3 1 (.slice a1 n c1) n (N.map (Value.int .i64))) := ho1
    have HG1 : Hid (∀ q, (Value.slice a1 n c1).ownBlock = some q → q < G) := fun q hq => by have := (ho1.lt q hq).2; omega
    have ST2 : Hid (Cl blkR 39 (w.heap.size + 2) G w wc (.slice a2 n c2) n K1 T 0) := Cl.start ho2 hA1 (unhide HZT) (Nat.le_of_eq hG)
    have H0 := hide h0
    have H1 := hide h1
    have HB := hide hb
    have HGl : Hid (G ≤ wc.heap.size) := Nat.le_of_eq hG.symm
    have c10 := cell_of h0 1 _ rfl
    have cl0 := lt_of_block h0
    clear hcut hA1 ho1 ho2 h0 h1 hb C1 C2 HX0 HX1 HBX x0 x1 xl hG
    go_wp2
    go_loopw [16] (fun i wr => ∃ (k : Nat) (K : List (List Value)), k ≤ n ∧ i = .int .i64 k ∧ Hid (wr.ownsRow (w.heap.size + 2) 3 1 (.slice a1 n c1) n (N.map (Value.int .i64))) ∧ Hid (Cl blkR 39 (w.heap.size + 2) G w wr (.slice a2 n c2) n K T k) ∧ Hid (wr.heap[w.heap.size]? = some (.cells [.slice a1 n c1, .slice a2 n c2].toArray 28 (0, 0))) ∧ Hid (wr.heap[w.heap.size + 1]? = some (.cells [.slice none 0 0, .slice none 0 0].toArray 28 (0, 0))) ∧ Hid (Below w.heap.size w wr) ∧ Hid (G ≤ wr.heap.size)) (fun i _ => n - (intOf i).toNat)
    case atStart => exact ⟨0, K1, Nat.zero_le _, rfl, ST1, ST2, H0, H1, HB, HGl⟩
    case round =>
      obtain ⟨k, K, hk, rfl, HN1, HC1, HB0, HB1, HBr, HGr⟩ := hrel
      clear ST1 ST2 H0 H1 HB HGl c10 cl0
      by_cases hlt : k < n
      · have hlk : k < T.length := by rw [unhide HZT]; exact hlt
        have hkK : k < K.length := by rw [(unhide HC1).len]; exact hlk
        obtain ⟨g, cap, ev, hgB, hgG, hgl⟩ := (unhide HC1).form (by omega)
        cases ev
        obtain ⟨ta, tn, tc, eK, hI, sI⟩ := (unhide HC1).old k hlk hkK (Nat.le_refl _)
        have hsm := (unhide HSM) _ (List.getElem_mem hlk)
        obtain ⟨x, hx⟩ : ∃ x, T[k] = x := ⟨_, rfl⟩
        rw [hx] at eK hI hsm
        obtain ⟨x0, x1, x2, x3, x4⟩ := x
        simp only at eK hI
        have r0 := (unhide HC1).cell k hkK 0 (by decide)
        have r1 := (unhide HC1).cell k hkK 1 (by decide)
        have r2 := (unhide HC1).cell k hkK 2 (by decide)
        have r3 := (unhide HC1).cell k hkK 3 (by decide)
        have r4 := (unhide HC1).cell k hkK 4 (by decide)
        rw [eK] at r0 r1 r2 r3 r4
        have r0 : wr.cell? ⟨g, k * 5, none⟩ = some (.int .i64 x0) := r0
        have r1 : wr.cell? ⟨g, k * 5 + 1, none⟩ = some (.int .i64 x1) := r1
        have r2 : wr.cell? ⟨g, k * 5 + 2, none⟩ = some (.int .i64 x2) := r2
        have r3 : wr.cell? ⟨g, k * 5 + 3, none⟩ = some (.int .i64 x3) := r3
        have r4 : wr.cell? ⟨g, k * 5 + 4, none⟩ = some (.slice ta tn tc) := r4
        obtain ⟨X1, hX1⟩ : ∃ X1, X1 = wr.alloc (.cells #[.int .i64 x0, .int .i64 x1, .int .i64 x2, .int .i64 x3, .slice ta tn tc] 39) := ⟨_, rfl⟩
        have hbX1 : Below wr.heap.size wr X1 := by rw [hX1]; exact bel_new _ _
        have hXX : X1.heap[wr.heap.size]? = some (.cells [.int .i64 x0, .int .i64 x1, .int .i64 x2, .int .i64 x3, .slice ta tn tc].toArray 39 (0, 0)) := by rw [hX1]; exact five_heap _ _ _ _ _ _ _
        have b0 := cell_of hXX 0 _ rfl
        have b1 := cell_of hXX 1 _ rfl
        have b2 := cell_of hXX 2 _ rfl
        have b3 := cell_of hXX 3 _ rfl
        have b4 := cell_of hXX 4 _ rfl
        have bl := lt_of_block hXX
        have t1 := cell_later hbX1 (cell_of (unhide HB0) 1 _ rfl)
        have tl := Nat.lt_of_lt_of_le (lt_of_block (unhide HB0)) hbX1.size
        have HBX1 := hide hbX1
        have hbb := bel_on (bel_on (unhide HBr) hbX1) (bel_draw1 _)
        have CO := hide (clBlock_is x0 x1 x2 x3 ta tn tc x4 X1.drew (hI.later hbb) sI (by rw [← hI.1]; exact hsm.1) hsm.2)
        have NX : Hid (∀ w5 u0 u1 u2 u3 u4, Below wr.heap.size wr w5 → Fresh X1.drew.heap.size w5 (fun w2 => blkR.C w2 [u0, u1, u2, u3, u4] (x0, x1, x2, x3, x4)) →
            Hid ((((((w5.setCell ⟨g, k * 5, none⟩ u0).setCell ⟨g, k * 5 + 1, none⟩ u1).setCell ⟨g, k * 5 + 2, none⟩ u2).setCell ⟨g, k * 5 + 3, none⟩ u3).setCell ⟨g, k * 5 + 4, none⟩ u4).ownsRow (w.heap.size + 2) 3 1 (.slice a1 n c1) n (N.map (Value.int .i64))) ∧ Hid (Cl blkR 39 (w.heap.size + 2) G w (((((w5.setCell ⟨g, k * 5, none⟩ u0).setCell ⟨g, k * 5 + 1, none⟩ u1).setCell ⟨g, k * 5 + 2, none⟩ u2).setCell ⟨g, k * 5 + 3, none⟩ u3).setCell ⟨g, k * 5 + 4, none⟩ u4) (.slice (some ⟨g, 0, none⟩) n c2) n (K.set k [u0, u1, u2, u3, u4]) T (k + 1)) ∧ Hid ((((((w5.setCell ⟨g, k * 5, none⟩ u0).setCell ⟨g, k * 5 + 1, none⟩ u1).setCell ⟨g, k * 5 + 2, none⟩ u2).setCell ⟨g, k * 5 + 3, none⟩ u3).setCell ⟨g, k * 5 + 4, none⟩ u4).heap[w.heap.size]? = some (.cells [.slice a1 n c1, .slice (some ⟨g, 0, none⟩) n c2].toArray 28 (0, 0))) ∧ Hid ((((((w5.setCell ⟨g, k * 5, none⟩ u0).setCell ⟨g, k * 5 + 1, none⟩ u1).setCell ⟨g, k * 5 + 2, none⟩ u2).setCell ⟨g, k * 5 + 3, none⟩ u3).setCell ⟨g, k * 5 + 4, none⟩ u4).heap[w.heap.size + 1]? = some (.cells [.slice none 0 0, .slice none 0 0].toArray 28 (0, 0))) ∧ Hid (Below w.heap.size w (((((w5.setCell ⟨g, k * 5, none⟩ u0).setCell ⟨g, k * 5 + 1, none⟩ u1).setCell ⟨g, k * 5 + 2, none⟩ u2).setCell ⟨g, k * 5 + 3, none⟩ u3).setCell ⟨g, k * 5 + 4, none⟩ u4)) ∧ Hid (G ≤ (((((w5.setCell ⟨g, k * 5, none⟩ u0).setCell ⟨g, k * 5 + 1, none⟩ u1).setCell ⟨g, k * 5 + 2, none⟩ u2).setCell ⟨g, k * 5 + 3, none⟩ u3).setCell ⟨g, k * 5 + 4, none⟩ u4).heap.size)) := by
          intro w5 u0 u1 u2 u3 u4 hb5 hf5
          have hGr := unhide HGr
          have hg5 := (((((Gr.refl w5 (fun q => q = g)).one g (k * 5) (.inl rfl) u0).one g (k * 5 + 1) (.inl rfl) u1).one g (k * 5 + 2) (.inl rfl) u2).one g (k * 5 + 3) (.inl rfl) u3).one g (k * 5 + 4) (.inl rfl) u4
          have hs5 := hb5.size
          refine ⟨?_, blk_step (unhide HC1) hlk hkK hx hb5 hf5 (Nat.le_trans hGr hbX1.size), ?_, ?_, ?_, ?_⟩
          · exact hg5.own ((Gr.of (S := fun _ => False) hb5).own (unhide HN1) (fun _ _ q => q)) (fun q hq e => own_apart (unhide HC1).own (unhide HN1) (by decide) q (by rw [e]; rfl) hq)
          · exact hg5.heap ((hb5.block _ (lt_of_block (unhide HB0))).trans (unhide HB0)) (by omega)
          · exact hg5.heap ((hb5.block _ (lt_of_block (unhide HB1))).trans (unhide HB1)) (by omega)
          · exact hg5.below (bel_on (unhide HBr) hb5) (by have := lt_of_block (unhide HB0); omega) (fun q e => by omega)
          · exact Nat.le_trans hGr (Nat.le_trans hs5 hg5.size)
        have FR := hide (fun j => (unhide HC1).free j)
        have hkI : (k : Int) < (n : Int) := by omega
        clear hI sI hsm hx eK hbX1 hXX hbb
        go_wp2_with fail
        rw [← hX1]
        clear hX1
        go_region_with (go_at_call 71; refine (unhide CO).mono ?_; rintro e w5 ⟨a5, c5, rfl, hf5, hb5⟩; have hbw5 := bel_on (bel_on (unhide HBX1) (bel_draw1 _)) hb5; have HN := hide ((unhide NX) w5 _ _ _ _ _ hbw5 hf5); have q1 := cell_later hb5 (cell_later (bel_draw1 _) t1); have s0 := cell_later hbw5 r0; have s1 := cell_later hbw5 r1; have s2 := cell_later hbw5 r2; have s3 := cell_later hbw5 r3; have s4 := cell_later hbw5 r4; have q3 : w5.frozen? ⟨g, k * 5, none⟩ = false := (World.frozen?_of_block (a := ⟨g, k * 5, none⟩) (hbw5.block g hgl)).trans ((unhide FR) _); have q33 : w5.frozen? ⟨g, k * 5 + 1, none⟩ = false := (World.frozen?_of_block (a := ⟨g, k * 5 + 1, none⟩) (hbw5.block g hgl)).trans ((unhide FR) _); have q34 : w5.frozen? ⟨g, k * 5 + 2, none⟩ = false := (World.frozen?_of_block (a := ⟨g, k * 5 + 2, none⟩) (hbw5.block g hgl)).trans ((unhide FR) _); have q35 : w5.frozen? ⟨g, k * 5 + 3, none⟩ = false := (World.frozen?_of_block (a := ⟨g, k * 5 + 3, none⟩) (hbw5.block g hgl)).trans ((unhide FR) _); have q36 : w5.frozen? ⟨g, k * 5 + 4, none⟩ = false := (World.frozen?_of_block (a := ⟨g, k * 5 + 4, none⟩) (hbw5.block g hgl)).trans ((unhide FR) _); have q4 := Nat.lt_of_lt_of_le hgl hbw5.size; have q5 := Nat.lt_of_lt_of_le (lt_of_block (unhide HB0)) hbw5.size; clear hf5 hb5 hbw5)
        all_goals
          go_wp2
          go_roundw
          case rel =>
            obtain ⟨f1, f2, f3, f4, f5, f6⟩ := unhide HN
            exact ⟨k + 1, _, by omega, by go_num, f1, f2, f3, f4, f5, f6⟩
          case measure => simp [intOf]; omega
      · have e : k = n := by omega
        subst e
        have s0 := cell_of (unhide HB0) 0 _ rfl
        have s1 := cell_of (unhide HB0) 1 _ rfl
        have sl := lt_of_block (unhide HB0)
        have y0 := cell_of (unhide HB1) 0 _ rfl
        have y1 := cell_of (unhide HB1) 1 _ rfl
        have z0 := frozen_of (unhide HB1) 0
        have z1 := frozen_of (unhide HB1) 1
        have yl := lt_of_block (unhide HB1)
        have R : Hid (TreeOwn (w.heap.size + 2) wr (.slice a1 k c1) (.slice a2 k c2) k N T) :=
          ⟨K, G, unhide HN1, (unhide HC1).own, unhide HG1, (unhide HC1).gt, hGw, unhide HZT, (unhide HC1).done⟩
        clear HC1 HN1
        go_wp2
        (try simp only [Exit.inBlock, Exit.then])
        have hG := ((Gr.refl wr (fun q => q = w.heap.size + 1)).one (w.heap.size + 1) 0 (.inl rfl) (.slice a1 k c1)).one (w.heap.size + 1) 1 (.inl rfl) (.slice a2 k c2)
        refine bodyPost_ret (v := .agg #[.slice a1 k c1, .slice a2 k c2]) ?_ rfl ⟨_, _, rfl, (unhide R).gr (hG.mono fun q _ e => by omega), ?_⟩
        · rw [results_cell1 rfl]
          go_simp
        · exact hG.below (unhide HBr) (by omega) (fun q e => by omega)

end Go.Proofs.YtmomfkikogbdeaaGreatDoor.Tr

/- Contracts of pathTo and workOf. -/
namespace Go.Proofs.YtmomfkikogbdeaaGreatDoor.Tr
open Go.RowKit

/-- The row of a path, filled from its end. -/
structure Up (B g H : Nat) (N : List Int) (T : List BlkD) (s : Int) (wr : World) (k : Nat) (y : Int) : Prop where
  ex : ∃ xs : List Value, wr.ownsRow B 3 1 (.slice (some ⟨g, 0, none⟩) H H) H xs ∧ (upD N T H s).map (Value.int .i64) = (upD N T (H - k) y).map (Value.int .i64) ++ xs.drop (H - k)
theorem Up.old {B g H : Nat} {N : List Int} {T : List BlkD} {s : Int} {wr : World} {k : Nat} {y : Int} (h : Up B g H N T s wr k y) {r : Nat} (hr : r < H) : (∃ v, wr.cell? ⟨g, r, none⟩ = some v) ∧ wr.frozen? ⟨g, r, none⟩ = false ∧ B ≤ g ∧ g < wr.heap.size := by
  obtain ⟨xs, ho, _⟩ := h.ex
  have hl : xs.length = H := by simpa using ho.1
  exact ⟨⟨xs[r]'(by omega), by rw [ho.cellAt r (by omega)]; simp [hl, hr]⟩, ho.frozenAt r, (ho.lt g rfl).1, (ho.lt g rfl).2⟩
theorem Up.step {B g H : Nat} {N : List Int} {T : List BlkD} {s : Int} {wr : World} {k : Nat} {y : Int} (h : Up B g H N T s wr k y) (hk : k < H) {r : Nat} (hr : r = H - 1 - k) : Up B g H N T s (wr.setCell ⟨g, r, none⟩ (.int .i64 y)) (k + 1) (fnd y N T).1 := by
  obtain ⟨xs, ho, hx⟩ := h.ex
  have hl : xs.length = H := by simpa using ho.1
  refine ⟨xs.set r (.int .i64 y), (ho.stored r _).1, ?_⟩
  rw [hx, show H - k = (H - (k + 1)) + 1 by omega, upD, List.map_append, List.append_assoc]
  congr 1
  have e : r = H - (k + 1) := by omega
  rw [← e]
  rw [List.drop_eq_getElem_cons (l := xs.set r (.int .i64 y)) (i := r) (by rw [List.length_set]; omega), List.drop_set_of_lt (by omega)]
  simp
theorem Up.keep {B g H : Nat} {N : List Int} {T : List BlkD} {s : Int} {wr w' : World} {k : Nat} {y : Int} (h : Up B g H N T s wr k y) (hb : Below wr.heap.size wr w') : Up B g H N T s w' k y := by
  obtain ⟨xs, ho, hx⟩ := h.ex
  exact ⟨xs, (Gr.of (S := fun _ => False) hb).own ho (fun _ _ q => q), hx⟩

end Go.Proofs.YtmomfkikogbdeaaGreatDoor.Tr
