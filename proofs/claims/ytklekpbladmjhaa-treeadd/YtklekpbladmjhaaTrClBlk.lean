/- The contracts of clone.Txs and clone.Block. -/
import Derived.Test.YtklekpbladmjhaaTrClTx
namespace Go.Proofs.Ytklekpbladmjhaa
open Go.RowKit

def TxSmall (t : TxD) : Prop := t.2.1.length ≤ 4096 ∧ t.2.2.length ≤ 4096 ∧ (∀ x ∈ t.2.1, x.2.2.length ≤ 4096) ∧ ∀ x ∈ t.2.2, x.2.length ≤ 4096

/-- A transaction has been copied. -/
theorem tx_step {G B w0s : Nat} {w0 wr w5 : World} {g cap n k : Nat} {K : List (List Value)} {T : List TxD} {x : TxD} {u0 u1 u2 : Value} (h : Cl txR 71 B G w0 wr (.slice (some ⟨g, 0, none⟩) n cap) n K T k) (hk : k < T.length) (hkK : k < K.length) (hx : T[k] = x) (hb : Below wr.heap.size wr w5) (hf : Fresh w0s w5 (fun w2 => txR.C w2 [u0, u1, u2] x)) (hG : G ≤ w0s) :
    Cl txR 71 B G w0 (((w5.setCell ⟨g, k * 3, none⟩ u0).setCell ⟨g, k * 3 + 1, none⟩ u1).setCell ⟨g, k * 3 + 2, none⟩ u2) (.slice (some ⟨g, 0, none⟩) n cap) n (K.set k [u0, u1, u2]) T (k + 1) := by
  have h5 := h.keep hb
  refine h5.step hk ?_ ((((Gr.refl w5 (fun q => q = g)).one g (k * 3) (.inl rfl) _).one g (k * 3 + 1) (.inl rfl) _).one g (k * 3 + 2) (.inl rfl) _) ?_
  · rw [hx]
    exact hf.less hG
  · have h1 := (((h5.own.stored (k * 3) u0).1.stored (k * 3 + 1) u1).1.stored (k * 3 + 2) u2).1
    rw [put3 h5.wid k hkK] at h1
    exact h1

set_option maxRecDepth 10000 in
set_option maxHeartbeats 6400000 in
theorem clTxs_is (at_ : Option Addr) (m c : Nat) (T : List TxD) (w : World) (hT : TxsAt w at_ m T) (sT : SlOk at_ m c) (hm : m ≤ 4096) (hs : ∀ t ∈ T, TxSmall t) :
    Calls Try.prog 46 #[.slice at_ m c] w fun e w' => ∃ a' c', e = .returned (.slice a' m c') ∧ Fresh w.heap.size w' (fun w2 => TxsAt w2 a' m T ∧ SlOk a' m c') ∧ Below w.heap.size w w' := by
  have HSM := hide hs
  have HZT := hide hT.1
  have C1 := hide (cloneTx_any at_ m c T w w hm hT ⟨rfl, rfl, rfl, Nat.le_refl _, fun _ _ => rfl⟩ sT)
  clear hT sT hs
  go_enter Try.func46, Try.ntmps46
  go_wp2_with fail
  refine (unhide C1).mono ?_
  rintro e w3 ⟨v, K1, rfl, hA, ho, hb3⟩
  obtain ⟨a1, c1, rfl, _, _⟩ := own_slice ho
  obtain ⟨G, hG⟩ : ∃ G, w3.heap.size = G := ⟨_, rfl⟩
  have hGw : w.heap.size ≤ G := by rw [← hG]; exact hb3.size
  have ST1 : Hid (Cl txR 71 w.heap.size G w w3 (.slice a1 m c1) m K1 T 0) := Cl.start ho hA (unhide HZT) (Nat.le_of_eq hG)
  have HB := hide hb3
  have HGl : Hid (G ≤ w3.heap.size) := Nat.le_of_eq hG.symm
  clear hA ho hb3 hG C1
  go_wp2
  go_loopw [9] (fun i wr => ∃ (k : Nat) (K : List (List Value)), k ≤ m ∧ i = .int .i64 k ∧ Hid (Cl txR 71 w.heap.size G w wr (.slice a1 m c1) m K T k) ∧ Hid (Below w.heap.size w wr) ∧ Hid (G ≤ wr.heap.size)) (fun i _ => m - (intOf i).toNat)
  case atStart => exact ⟨0, K1, Nat.zero_le _, rfl, ST1, HB, HGl⟩
  case round =>
    obtain ⟨k, K, hk, rfl, HC1, HBr, HGr⟩ := hrel
    clear ST1 HB HGl
    by_cases hlt : k < m
    · have hlk : k < T.length := by rw [unhide HZT]; exact hlt
      have hkK : k < K.length := by rw [(unhide HC1).len]; exact hlk
      obtain ⟨g, cap, ev, hgB, hgG, hgl⟩ := (unhide HC1).form (by omega)
      cases ev
      obtain ⟨ai, ni, ci, ao, no, co, eK, hI, sI, hO, sO⟩ := (unhide HC1).old k hlk hkK (Nat.le_refl _)
      have hsm := (unhide HSM) _ (List.getElem_mem hlk)
      obtain ⟨x, hx⟩ : ∃ x, T[k] = x := ⟨_, rfl⟩
      rw [hx] at eK hI hO hsm
      have r0 := (unhide HC1).cell k hkK 0 (by decide)
      have r1 := (unhide HC1).cell k hkK 1 (by decide)
      have r2 := (unhide HC1).cell k hkK 2 (by decide)
      rw [eK] at r0 r1 r2
      have r0 : wr.cell? ⟨g, k * 3, none⟩ = some (.int .i64 x.1) := r0
      have r1 : wr.cell? ⟨g, k * 3 + 1, none⟩ = some (.slice ai ni ci) := r1
      have r2 : wr.cell? ⟨g, k * 3 + 2, none⟩ = some (.slice ao no co) := r2
      obtain ⟨X1, hX1⟩ : ∃ X1, X1 = wr.alloc (.cells #[.int .i64 x.1, .slice ai ni ci, .slice ao no co] 71) := ⟨_, rfl⟩
      have hbX1 : Below wr.heap.size wr X1 := by rw [hX1]; exact bel_new _ _
      have hXX : X1.heap[wr.heap.size]? = some (.cells [.int .i64 x.1, .slice ai ni ci, .slice ao no co].toArray 71 (0, 0)) := by rw [hX1]; exact three_heap _ _ _ _ _
      have b0 := cell_of hXX 0 _ rfl
      have b1 := cell_of hXX 1 _ rfl
      have b2 := cell_of hXX 2 _ rfl
      have bl := lt_of_block hXX
      have HBX1 := hide hbX1
      have hbb := bel_on (unhide HBr) hbX1
      have CO := hide (clTx_is x.1 ai ao ni ci no co x.2.1 x.2.2 X1 (hI.later hbb) (hO.later hbb) sI sO (by rw [← hI.1]; exact hsm.1) (by rw [← hO.1]; exact hsm.2.1) hsm.2.2.1 hsm.2.2.2)
      have NX : Hid (∀ w5 u0 u1 u2, Below wr.heap.size wr w5 → Fresh X1.heap.size w5 (fun w2 => txR.C w2 [u0, u1, u2] x) →
          Hid (Cl txR 71 w.heap.size G w (((w5.setCell ⟨g, k * 3, none⟩ u0).setCell ⟨g, k * 3 + 1, none⟩ u1).setCell ⟨g, k * 3 + 2, none⟩ u2) (.slice (some ⟨g, 0, none⟩) m c1) m (K.set k [u0, u1, u2]) T (k + 1)) ∧ Hid (Below w.heap.size w (((w5.setCell ⟨g, k * 3, none⟩ u0).setCell ⟨g, k * 3 + 1, none⟩ u1).setCell ⟨g, k * 3 + 2, none⟩ u2)) ∧ Hid (G ≤ (((w5.setCell ⟨g, k * 3, none⟩ u0).setCell ⟨g, k * 3 + 1, none⟩ u1).setCell ⟨g, k * 3 + 2, none⟩ u2).heap.size)) := by
        intro w5 u0 u1 u2 hb5 hf5
        have hGr := unhide HGr
        have hg5 := (((Gr.refl w5 (fun q => q = g)).one g (k * 3) (.inl rfl) u0).one g (k * 3 + 1) (.inl rfl) u1).one g (k * 3 + 2) (.inl rfl) u2
        have hs5 := hb5.size
        refine ⟨tx_step (unhide HC1) hlk hkK hx hb5 hf5 (Nat.le_trans hGr hbX1.size), ?_, ?_⟩
        · exact hg5.below (bel_on (unhide HBr) hb5) (by have := (unhide HBr).size; omega) (fun q e => by omega)
        · exact Nat.le_trans hGr (Nat.le_trans hs5 hg5.size)
      have FR := hide (fun j => (unhide HC1).free j)
      have hkI : (k : Int) < (m : Int) := by omega
      clear hI hO sI sO hsm hx eK hbX1 hXX hbb
      go_wp2_with fail
      rw [← hX1]
      clear hX1
      (try go_wp2_with fail)
      refine (unhide CO).mono ?_
      rintro e w5 ⟨a5, c5, a6, c6, rfl, hf5, hb5⟩
      have hbw5 := bel_on (unhide HBX1) hb5
      have HN := hide ((unhide NX) w5 _ _ _ hbw5 hf5)
      have s0 := cell_later hbw5 r0
      have s1 := cell_later hbw5 r1
      have s2 := cell_later hbw5 r2
      have q3 : w5.frozen? ⟨g, k * 3, none⟩ = false := (World.frozen?_of_block (a := ⟨g, k * 3, none⟩) (hbw5.block g hgl)).trans ((unhide FR) _)
      have q33 : w5.frozen? ⟨g, k * 3 + 1, none⟩ = false := (World.frozen?_of_block (a := ⟨g, k * 3 + 1, none⟩) (hbw5.block g hgl)).trans ((unhide FR) _)
      have q34 : w5.frozen? ⟨g, k * 3 + 2, none⟩ = false := (World.frozen?_of_block (a := ⟨g, k * 3 + 2, none⟩) (hbw5.block g hgl)).trans ((unhide FR) _)
      have q4 := Nat.lt_of_lt_of_le hgl hbw5.size
      clear hf5 hb5 hbw5
      go_wp2
      go_roundw
      case rel =>
        obtain ⟨f1, f5, f6⟩ := unhide HN
        exact ⟨k + 1, _, by omega, by go_num, f1, f5, f6⟩
      case measure => simp [intOf]; omega
    · have e : k = m := by omega
      subst e
      have R : Hid (Fresh w.heap.size wr (fun w2 => TxsAt w2 a1 k T ∧ SlOk a1 k c1)) := by
        obtain ⟨a', c', e1, h1⟩ := (unhide HC1).rows hGw
        cases e1
        exact h1
      clear HC1
      go_wp2
      go_ret
      exact ⟨a1, c1, rfl, unhide R, unhide HBr⟩

set_option maxRecDepth 10000 in
set_option maxHeartbeats 6400000 in
theorem clBlock_is (p h k0 o : Int) (at_ : Option Addr) (m c : Nat) (T : List TxD) (w : World) (hT : TxsAt w at_ m T) (sT : SlOk at_ m c) (hm : m ≤ 4096) (hs : ∀ t ∈ T, TxSmall t) :
    Calls Try.prog 29 #[.agg #[.int .i64 p, .int .i64 h, .int .i64 k0, .int .i64 o, .slice at_ m c]] w fun e w' => ∃ a' c', e = .returned (.agg #[.int .i64 p, .int .i64 h, .int .i64 k0, .int .i64 o, .slice a' m c']) ∧ Fresh w.heap.size w' (fun w2 => blkR.C w2 [.int .i64 p, .int .i64 h, .int .i64 k0, .int .i64 o, .slice a' m c'] (p, h, k0, o, T)) ∧ Below w.heap.size w w' := by
  obtain ⟨X, hX⟩ : ∃ X, X = (w.alloc (.cells #[.int .i64 p, .int .i64 h, .int .i64 k0, .int .i64 o, .slice at_ m c] 28)).alloc (.cells #[.int .i64 0, .int .i64 0, .int .i64 0, .int .i64 0, .slice none 0 0] 28) := ⟨_, rfl⟩
  have hbX : Below w.heap.size w X := by rw [hX]; exact bel_on (bel_new _ _) (bel_new _ _)
  have hX0 : X.heap[w.heap.size]? = some (.cells [.int .i64 p, .int .i64 h, .int .i64 k0, .int .i64 o, .slice at_ m c].toArray 28 (0, 0)) := by
    rw [hX, Below.heap_alloc _ _ _ (by simp)]; exact five_heap _ _ _ _ _ _ _
  have hXs : X.heap.size = w.heap.size + 2 := by rw [hX]; simp
  have hX1 : X.heap[w.heap.size + 1]? = some (.cells [.int .i64 0, .int .i64 0, .int .i64 0, .int .i64 0, .slice none 0 0].toArray 28 (0, 0)) := by
    rw [hX]
    have := five_heap (w.alloc (.cells #[.int .i64 p, .int .i64 h, .int .i64 k0, .int .i64 o, .slice at_ m c] 28)) (.int .i64 0) (.int .i64 0) (.int .i64 0) (.int .i64 0) (.slice none 0 0) 28
    rw [show (w.alloc (.cells #[.int .i64 p, .int .i64 h, .int .i64 k0, .int .i64 o, .slice at_ m c] 28)).heap.size = w.heap.size + 1 by simp] at this
    exact this
  have HBX := hide hbX
  have HX0 := hide hX0
  have HX1 := hide hX1
  have HXs := hide hXs
  have C1 := hide (clTxs_is at_ m c T X (hT.later hbX) sT hm hs)
  have x4 := cell_of hX0 4 _ rfl
  have xl := lt_of_block hX0
  clear hbX hX0 hX1 hT sT hs hXs
  go_enter Try.func29, Try.ntmps29
  go_wp2_with fail
  rw [← hX]
  clear hX
  (try go_wp2_with fail)
  refine (unhide C1).mono ?_
  rintro e w3 ⟨a1, c1, rfl, hf3, hb3⟩
  have h30 := (hb3.block _ (lt_of_block (unhide HX0))).trans (unhide HX0)
  have h31 := (hb3.block _ (lt_of_block (unhide HX1))).trans (unhide HX1)
  have d4 := cell_of h30 4 _ rfl
  have z9 := frozen_of h30 4
  have dl := lt_of_block h30
  have s0 := cell_of h30 0 _ rfl
  have s1 := cell_of h30 1 _ rfl
  have s2 := cell_of h30 2 _ rfl
  have s3 := cell_of h30 3 _ rfl
  have y0 := cell_of h31 0 _ rfl
  have y1 := cell_of h31 1 _ rfl
  have y2 := cell_of h31 2 _ rfl
  have y3 := cell_of h31 3 _ rfl
  have y4 := cell_of h31 4 _ rfl
  have z0 := frozen_of h31 0
  have z1 := frozen_of h31 1
  have z2 := frozen_of h31 2
  have z3 := frozen_of h31 3
  have z4 := frozen_of h31 4
  have yl := lt_of_block h31
  have HB3 := hide (bel_on (unhide HBX) hb3)
  have HF := hide hf3
  clear hf3 hb3 h30 h31 C1 HX0 HX1 HBX x4 xl
  go_wp2
  (try simp only [Exit.inBlock, Exit.then])
  have hG := ((((((Gr.refl w3 (fun q => q = w.heap.size ∨ q = w.heap.size + 1)).one w.heap.size 4 (.inl (.inl rfl)) (.slice a1 m c1)).one (w.heap.size + 1) 0 (.inl (.inr rfl)) (.int .i64 p)).one (w.heap.size + 1) 1 (.inl (.inr rfl)) (.int .i64 h)).one (w.heap.size + 1) 2 (.inl (.inr rfl)) (.int .i64 k0)).one (w.heap.size + 1) 3 (.inl (.inr rfl)) (.int .i64 o)).one (w.heap.size + 1) 4 (.inl (.inr rfl)) (.slice a1 m c1)
  refine bodyPost_ret (v := .agg #[.int .i64 p, .int .i64 h, .int .i64 k0, .int .i64 o, .slice a1 m c1]) ?_ rfl ⟨a1, c1, rfl, ?_, ?_⟩
  · rw [results_cell1 rfl]
    go_simp
  · refine ((Fresh.imp (unhide HF) fun w2 h => ⟨_, _, _, rfl, h.1, h.2⟩).on (hG.mono fun q _ e => by have := unhide HXs; omega)).less (by have := unhide HXs; omega)
  · exact hG.below (unhide HB3) (by omega) (fun q e => by omega)

end Go.Proofs.Ytklekpbladmjhaa
