/- Records that are copied one by one into a row that the call has made. Nothing of the program but output.Copy. -/
import Derived.Test.YtmomfkikogbdeaaGreatDoorTrCloneToTrIdx
import Derived.Deep.CutRange
namespace Go.Proofs.YtmomfkikogbdeaaGreatDoor.Tr
open Go.RowKit

def Wid (sz : Nat) (K : List (List Value)) : Prop := ∀ c ∈ K, c.length = sz
theorem AllC.wid {α : Type} {Z : Rec α} {w : World} {K : List (List Value)} {L : List α} (h : AllC Z w K L) : Wid Z.sz K := by
  intro c hc
  obtain ⟨i, hi, rfl⟩ := List.getElem_of_mem hc
  exact Z.wide _ _ _ (h.2 i (by rw [← h.1]; exact hi) hi)
theorem wid_at {sz : Nat} : ∀ {K : List (List Value)} (_ : Wid sz K) (k : Nat) (h : k < K.length) (j : Nat) (_ : j < sz), K.flatten[k * sz + j]? = (K[k])[j]?
  | [], _, _, h, _, _ => absurd h (by simp)
  | c :: K, hw, 0, _, j, hj => by
    have h2 := hw c (by simp)
    rw [List.flatten_cons, List.getElem?_append_left (by omega)]
    simp
  | c :: K, hw, k + 1, h, j, hj => by
    have h2 := hw c (by simp)
    rw [List.flatten_cons, List.getElem?_append_right (by rw [h2, Nat.succ_mul]; omega), h2]
    rw [show (k + 1) * sz + j - sz = k * sz + j by rw [Nat.succ_mul]; omega]
    rw [wid_at (fun c hc => hw c (by simp [hc])) k (by simpa using h) j hj]
    simp
theorem flat_set {sz : Nat} : ∀ {K : List (List Value)} (_ : Wid sz K) (k : Nat) (h : k < K.length) (j : Nat) (_ : j < sz) (u : Value), K.flatten.set (k * sz + j) u = (K.set k ((K[k]).set j u)).flatten
  | [], _, _, h, _, _, _ => absurd h (by simp)
  | c :: K, hw, 0, _, j, hj, u => by
    have h2 := hw c (by simp)
    rw [List.flatten_cons, Nat.zero_mul, Nat.zero_add, List.set_append_left _ _ (by omega)]
    simp
  | c :: K, hw, k + 1, h, j, hj, u => by
    have h2 := hw c (by simp)
    rw [List.flatten_cons, List.set_append_right _ _ (by rw [h2, Nat.succ_mul]; omega), h2]
    rw [show (k + 1) * sz + j - sz = k * sz + j by rw [Nat.succ_mul]; omega]
    rw [flat_set (fun c hc => hw c (by simp [hc])) k (by simpa using h) j hj u]
    simp
theorem wid_set {sz : Nat} {K : List (List Value)} (hw : Wid sz K) (k : Nat) {c : List Value} (hc : c.length = sz) : Wid sz (K.set k c) := by
  intro x hx
  rcases List.mem_or_eq_of_mem_set hx with q | rfl
  · exact hw x q
  · exact hc

/-- The first k records have contents of their own, the others those of the world ahead. -/
structure Cl {α : Type} (Z : Rec α) (e : TypeId) (B G : Nat) (w0 wr : World) (v : Value) (n : Nat) (K : List (List Value)) (L : List α) (k : Nat) : Prop where
  own : wr.ownsRow B e Z.sz v n K.flatten
  wid : Wid Z.sz K
  len : K.length = L.length
  ln : L.length = n
  gt : ∀ q, v.ownBlock = some q → q < G
  new : ∀ i (h : i < L.length) (h' : i < K.length), i < k → Fresh G wr (fun w2 => Z.C w2 K[i] L[i])
  old : ∀ i (h : i < L.length) (h' : i < K.length), k ≤ i → Z.C w0 K[i] L[i]

section
variable {α : Type} {Z : Rec α} {e : TypeId} {B G : Nat} {w0 wr w' : World} {v : Value} {n : Nat} {K : List (List Value)} {L : List α} {k : Nat}
theorem Cl.start (h : wr.ownsRow B e Z.sz v n K.flatten) (hc : AllC Z w0 K L) (hn : L.length = n) (hG : wr.heap.size ≤ G) : Cl Z e B G w0 wr v n K L 0 :=
  ⟨h, hc.wid, hc.1, hn, fun q hq => Nat.lt_of_lt_of_le (h.lt q hq).2 hG, fun _ _ _ h => absurd h (by omega), fun i h h' _ => hc.2 i h h'⟩
theorem Cl.gr {S : Nat → Prop} (h : Cl Z e B G w0 wr v n K L k) (g : Gr wr w' S) (hs : ∀ q, S q → q < G) (hv : ∀ q, v.ownBlock = some q → ¬ S q) : Cl Z e B G w0 w' v n K L k :=
  ⟨g.own h.own hv, h.wid, h.len, h.ln, h.gt, fun i a b c => (h.new i a b c).on (g.mono fun q _ hq => hs q hq), h.old⟩
theorem Cl.keep (h : Cl Z e B G w0 wr v n K L k) (hb : Below wr.heap.size wr w') : Cl Z e B G w0 w' v n K L k :=
  h.gr (S := fun _ => False) (Gr.of hb) (fun _ q => q.elim) (fun _ _ q => q)
theorem Cl.form (h : Cl Z e B G w0 wr v n K L k) (hn : 0 < n) : ∃ g cap, v = .slice (some ⟨g, 0, none⟩) n cap ∧ B ≤ g ∧ g < G ∧ g < wr.heap.size := by
  rcases h.own.2 with ⟨_, h0⟩ | ⟨g, cap, cur, rfl, hg, hh, _⟩
  · omega
  · exact ⟨g, cap, rfl, hg, h.gt g rfl, lt_of_block hh⟩
theorem Cl.cell {g cap : Nat} (h : Cl Z e B G w0 wr (.slice (some ⟨g, 0, none⟩) n cap) n K L k) (i : Nat) (hi : i < K.length) (j : Nat) (hj : j < Z.sz) : wr.cell? ⟨g, i * Z.sz + j, none⟩ = (K[i])[j]? := by
  have hin : i < n := by rw [← h.ln, ← h.len]; exact hi
  have : (i + 1) * Z.sz ≤ n * Z.sz := Nat.mul_le_mul_right _ (by omega)
  rw [Nat.succ_mul] at this
  rw [World.ownsRow.cellAt h.own _ (by omega), wid_at h.wid i hi j hj]
theorem Cl.free {g cap : Nat} (h : Cl Z e B G w0 wr (.slice (some ⟨g, 0, none⟩) n cap) n K L k) (j : Nat) : wr.frozen? ⟨g, j, none⟩ = false := h.own.frozenAt j
/-- Record k is stored. -/
theorem Cl.step {g cap : Nat} (h : Cl Z e B G w0 wr (.slice (some ⟨g, 0, none⟩) n cap) n K L k) (hk : k < L.length) {cs : List Value} (hc : Fresh G wr (fun w2 => Z.C w2 cs L[k])) (hg : Gr wr w' (fun q => q = g)) (ho : w'.ownsRow B e Z.sz (.slice (some ⟨g, 0, none⟩) n cap) n (K.set k cs).flatten) : Cl Z e B G w0 w' (.slice (some ⟨g, 0, none⟩) n cap) n (K.set k cs) L (k + 1) := by
  have hgG := h.gt g rfl
  have hw := Z.wide _ _ _ hc.now
  have hm : Gr wr w' (fun q => q < G) := hg.mono fun q _ e => by omega
  refine ⟨ho, wid_set h.wid k hw, by rw [List.length_set]; exact h.len, h.ln, h.gt, fun i a b c => ?_, fun i a b c => ?_⟩
  · by_cases e : i = k
    · subst e
      rw [List.getElem_set_self]
      exact hc.on hm
    · rw [List.getElem_set_ne (by omega)]
      exact (h.new i a (by simpa using b) (by omega)).on hm
  · rw [List.getElem_set_ne (by omega)]
    exact h.old i a (by simpa using b) (by omega)
theorem Cl.done (h : Cl Z e B G w0 wr v n K L n) : Fresh G wr (fun w2 => AllC Z w2 K L) := fun w2 g2 =>
  ⟨h.len, fun i a b => h.new i a b (by rw [← h.ln]; exact a) w2 g2⟩
theorem Cl.rows (h : Cl Z e B G w0 wr v n K L n) (hB : B ≤ G) : ∃ a c, v = .slice a n c ∧ Fresh B wr (fun w2 => RowsAt Z.R Z.sz w2 a n L ∧ SlOk a n c) := by
  obtain ⟨a, c, rfl, _, _⟩ := rows_of_own Z h.own h.done.now h.ln
  refine ⟨a, c, rfl, fun w2 g2 => ?_⟩
  have ho := g2.own h.own (fun q hq => by have := (h.own.lt q hq).1; omega)
  obtain ⟨a', c', e, h1, h2⟩ := rows_of_own Z ho (h.done w2 (g2.mono fun q _ hq => by omega)) h.ln
  cases e
  exact ⟨h1, h2⟩
end

theorem set_cells {w : World} {b : Nat} {X : List Value} {t : TypeId} (h : w.heap[b]? = some (.cells X.toArray t (0, 0))) (j : Nat) (u : Value) : (w.setCell ⟨b, j, none⟩ u).heap[b]? = some (.cells (X.set j u).toArray t (0, 0)) := by
  rw [setCell_eq_setRow w b j X.toArray t (0, 0) u h]
  have := setRow_heap w b _ (X.toArray.setIfInBounds j u) t _ h
  simpa using this

/-! Stores of a record's cells. -/
theorem len1 {c : List Value} (h : c.length = 2) : ∃ x y, c = [x, y] := by
  match c, h with
  | [x, y], _ => exact ⟨x, y, rfl⟩
theorem len3 {c : List Value} (h : c.length = 3) : ∃ x y z, c = [x, y, z] := by
  match c, h with
  | [x, y, z], _ => exact ⟨x, y, z, rfl⟩
theorem len5 {c : List Value} (h : c.length = 5) : ∃ x y z r s, c = [x, y, z, r, s] := by
  match c, h with
  | [x, y, z, r, s], _ => exact ⟨x, y, z, r, s, rfl⟩
theorem put2 {K : List (List Value)} (hw : Wid 2 K) (k : Nat) (h : k < K.length) (a b : Value) : ((K.flatten.set (k * 2) a).set (k * 2 + 1) b) = (K.set k [a, b]).flatten := by
  obtain ⟨x, y, e⟩ := len1 (hw _ (List.getElem_mem h))
  have h1 := flat_set hw k h 0 (by decide) a
  rw [Nat.add_zero] at h1
  rw [h1, flat_set (wid_set hw k (by rw [List.length_set, e]; rfl)) k (by rw [List.length_set]; exact h) 1 (by decide) b, List.getElem_set_self, List.set_set, e]
  rfl
theorem put3 {K : List (List Value)} (hw : Wid 3 K) (k : Nat) (h : k < K.length) (a b c : Value) : (((K.flatten.set (k * 3) a).set (k * 3 + 1) b).set (k * 3 + 2) c) = (K.set k [a, b, c]).flatten := by
  obtain ⟨x, y, z, e⟩ := len3 (hw _ (List.getElem_mem h))
  have h1 := flat_set hw k h 0 (by decide) a
  rw [Nat.add_zero] at h1
  rw [h1, flat_set (wid_set hw k (by rw [List.length_set, e]; rfl)) k (by rw [List.length_set]; exact h) 1 (by decide) b, List.getElem_set_self, List.set_set, e]
  rw [flat_set (wid_set hw k rfl) k (by rw [List.length_set]; exact h) 2 (by decide) c, List.getElem_set_self, List.set_set]
  rfl
theorem put5 {K : List (List Value)} (hw : Wid 5 K) (k : Nat) (h : k < K.length) (a b c d f : Value) : (((((K.flatten.set (k * 5) a).set (k * 5 + 1) b).set (k * 5 + 2) c).set (k * 5 + 3) d).set (k * 5 + 4) f) = (K.set k [a, b, c, d, f]).flatten := by
  obtain ⟨x, y, z, r, s, e⟩ := len5 (hw _ (List.getElem_mem h))
  have h1 := flat_set hw k h 0 (by decide) a
  rw [Nat.add_zero] at h1
  rw [h1, flat_set (wid_set hw k (by rw [List.length_set, e]; rfl)) k (by rw [List.length_set]; exact h) 1 (by decide) b, List.getElem_set_self, List.set_set, e]
  rw [flat_set (wid_set hw k rfl) k (by rw [List.length_set]; exact h) 2 (by decide) c, List.getElem_set_self, List.set_set]
  rw [flat_set (wid_set hw k rfl) k (by rw [List.length_set]; exact h) 3 (by decide) d, List.getElem_set_self, List.set_set]
  rw [flat_set (wid_set hw k rfl) k (by rw [List.length_set]; exact h) 4 (by decide) f, List.getElem_set_self, List.set_set]
  rfl

set_option maxRecDepth 10000 in
set_option maxHeartbeats 1600000 in
theorem outCopy_is (x : Int) (a : Option Addr) (n c : Nat) (l : List (Int × Int)) (w : World) (hn : n ≤ 4096) (h : OpsAt w a n l) (hs : SlOk a n c) :
    Calls Tryz.prog 161 #[.agg #[.int .i64 x, .slice a n c]] w fun e w' => ∃ a' c', e = .returned (.agg #[.int .i64 x, .slice a' n c']) ∧ Fresh w.heap.size w' (fun w2 => OpsAt w2 a' n l ∧ SlOk a' n c') ∧ Below w.heap.size w w' := by
  obtain ⟨X, hX⟩ : ∃ X, X = (w.alloc (.cells #[.int .i64 x, .slice a n c] 122)).alloc (.cells #[.int .i64 0, .slice none 0 0] 122) := ⟨_, rfl⟩
  have hbX : Below w.heap.size w X := by rw [hX]; exact bel_on (bel_new _ _) (bel_new _ _)
  have x0 : X.cell? ⟨w.heap.size, 0, none⟩ = some (.int .i64 x) := by rw [hX]; exact cell_later (bel_new _ _) (two_cells w _ _ _).1
  have x1 : X.cell? ⟨w.heap.size, 1, none⟩ = some (.slice a n c) := by rw [hX]; exact cell_later (bel_new _ _) (two_cells w _ _ _).2
  have hX1 : X.heap[w.heap.size + 1]? = some (.cells [.int .i64 0, .slice none 0 0].toArray 122 (0, 0)) := by
    rw [hX]
    have := two_heap (w.alloc (.cells #[.int .i64 x, .slice a n c] 122)) (.int .i64 0) (.slice none 0 0) 122
    rw [show (w.alloc (.cells #[.int .i64 x, .slice a n c] 122)).heap.size = w.heap.size + 1 by simp] at this
    exact this
  have C := hide (cloneOp_any a n c l X.drew hn (h.later (bel_on hbX (bel_draw1 X))) hs)
  have HX1 := hide hX1
  have HBX := hide hbX
  clear h hs hbX hX1
  go_enter Tryz.func161, Tryz.ntmps161
  go_wp2_with fail
  rw [← hX]
  clear hX
  go_region_with (go_at_call 150; refine (unhide C).mono ?_; rintro e w3 ⟨a', c', rfl, ho3, hb3⟩; have o2 : w3.cell? ⟨w.heap.size, 0, none⟩ = some (.int .i64 x) := cell_later hb3 (cell_later (bel_draw1 _) x0); have hz3 := (hb3.block _ (lt_of_block (unhide HX1))).trans (unhide HX1); have c0 := cell_of hz3 0 _ rfl; have c1 := cell_of hz3 1 _ rfl; have f0 := frozen_of hz3 0; have f1 := frozen_of hz3 1; have H3 : Hid (Fresh X.drew.heap.size w3 (fun w2 => OpsAt w2 a' n l ∧ SlOk a' n c') ∧ Below X.drew.heap.size X.drew w3) := ⟨ho3, hb3⟩; clear ho3 hb3 hz3)
  all_goals
    go_wp2
    (try simp only [Exit.inBlock, Exit.then])
    obtain ⟨ho3, hb3⟩ := unhide H3
    have hG := ((Gr.refl w3 (fun q => q = w.heap.size + 1)).one (w.heap.size + 1) 0 (.inl rfl) (.int .i64 x)).one (w.heap.size + 1) 1 (.inl rfl) (.slice a' n c')
    have hlt : w.heap.size + 1 < X.drew.heap.size := lt_of_block (unhide HX1)
    refine bodyPost_ret (v := .agg #[.int .i64 x, .slice a' n c']) ?_ rfl ⟨a', c', rfl, (ho3.on (hG.mono fun q _ e => by omega)).less (by omega), ?_⟩
    · rw [results_cell1 rfl]
      go_simp
    · have hsz := hb3.size
      exact hG.below (bel_on (bel_on (unhide HBX) (bel_draw1 _)) hb3) (by omega) (fun k hk => by omega)

end Go.Proofs.YtmomfkikogbdeaaGreatDoor.Tr
