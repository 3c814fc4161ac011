/- Worlds that have grown; boxes and rows that a call has made. Nothing of the program. -/
import Derived.Test.YtklekpbladmjhaaTxMem
import Derived.Deep.RegionHeld3
import Derived.Lib.SliceRun
import Derived.Lib.OwnKind
namespace Go.Proofs.Ytklekpbladmjhaa
open Go.RowKit

theorem two_cells (w : World) (x y : Value) (t : TypeId) : (w.alloc (.cells #[x, y] t)).cell? ⟨w.heap.size, 0, none⟩ = some x ∧ (w.alloc (.cells #[x, y] t)).cell? ⟨w.heap.size, 1, none⟩ = some y := by
  refine ⟨?_, ?_⟩ <;> (rw [World.cell?_alloc_at _ _ _ _ rfl]; rfl)
theorem bel_draw1 (w : World) : Below w.heap.size w w.drew := ⟨rfl, rfl, rfl, Nat.le_refl _, fun _ _ => rfl⟩
theorem insert_cell {w : World} {b : Nat} {X : List Value} {t : TypeId} (h : w.heap[b]? = some (.cells X.toArray t (0, 0))) (j : Nat) (u : Value) (hj : X[j]? = some u) : w.cell? ⟨b, j, none⟩ = some u := by
  simp only [World.cell?, h]
  simpa using hj
theorem cell_of {w : World} {b : Nat} {X : List Value} {t : TypeId} (h : w.heap[b]? = some (.cells X.toArray t (0, 0))) (j : Nat) (u : Value) (hj : X[j]? = some u) : w.cell? ⟨b, j, none⟩ = some u := insert_cell h j u hj
theorem frozen_of {w : World} {b : Nat} {X : Array Value} {t : TypeId} (h : w.heap[b]? = some (.cells X t (0, 0))) (j : Nat) : w.frozen? ⟨b, j, none⟩ = false := by simp [World.frozen?, h]
theorem two_heap (w : World) (a b : Value) (t : TypeId) : (w.alloc (.cells #[a, b] t)).heap[w.heap.size]? = some (.cells [a, b].toArray t (0, 0)) := heap_alloc_new w _
theorem three_heap (w : World) (a b c : Value) (t : TypeId) : (w.alloc (.cells #[a, b, c] t)).heap[w.heap.size]? = some (.cells [a, b, c].toArray t (0, 0)) := heap_alloc_new w _

structure Gr (w w' : World) (S : Nat → Prop) : Prop where
  os : w'.os = w.os
  tape : w'.tape = w.tape
  output : w'.output = w.output
  size : w.heap.size ≤ w'.heap.size
  block : ∀ k, k < w.heap.size → ¬ S k → w'.heap[k]? = w.heap[k]?

theorem Gr.refl (w : World) (S : Nat → Prop) : Gr w w S := ⟨rfl, rfl, rfl, Nat.le_refl _, fun _ _ _ => rfl⟩
theorem Gr.of {w w' : World} {S : Nat → Prop} (h : Below w.heap.size w w') : Gr w w' S := ⟨h.os, h.tape, h.output, h.size, fun k hk _ => h.block k hk⟩
theorem Gr.on {w w1 w2 : World} {S : Nat → Prop} (h : Gr w w1 S) (k : Below w1.heap.size w1 w2) : Gr w w2 S :=
  ⟨k.os.trans h.os, k.tape.trans h.tape, k.output.trans h.output, Nat.le_trans h.size k.size, fun i hi hn => (k.block i (Nat.lt_of_lt_of_le hi h.size)).trans (h.block i hi hn)⟩
theorem Gr.trans {w w1 w2 : World} {S : Nat → Prop} (h : Gr w w1 S) (k : Gr w1 w2 S) : Gr w w2 S :=
  ⟨k.os.trans h.os, k.tape.trans h.tape, k.output.trans h.output, Nat.le_trans h.size k.size, fun i hi hn => (k.block i (Nat.lt_of_lt_of_le hi h.size) hn).trans (h.block i hi hn)⟩
theorem Gr.mono {w w1 : World} {S T : Nat → Prop} (h : Gr w w1 S) (hs : ∀ k, k < w.heap.size → S k → T k) : Gr w w1 T :=
  ⟨h.os, h.tape, h.output, h.size, fun i hi hn => h.block i hi (fun q => hn (hs i hi q))⟩
theorem Gr.grown {w w1 w2 : World} {S : Nat → Prop} {row : Option Nat} (h : Gr w w1 S) (g : w1.grownBy w2 row) (hr : ∀ k, row = some k → S k ∨ w.heap.size ≤ k) : Gr w w2 S :=
  ⟨g.os.trans h.os, g.tape.trans h.tape, g.output.trans h.output, Nat.le_trans h.size g.size, fun i hi hn => (g.block i (Nat.lt_of_lt_of_le hi h.size) (fun e => by
    rcases hr i e.symm with q | q
    · exact hn q
    · omega)).trans (h.block i hi hn)⟩
theorem Gr.set {w w1 : World} {S : Nat → Prop} (h : Gr w w1 S) {p : Addr} (hp : S p.block ∨ w.heap.size ≤ p.block) (u : Value) : Gr w (w1.setCell p u) S :=
  ⟨h.os, h.tape, h.output, by simpa [World.setCell] using h.size, fun i hi hn => (Below.heap_setCell w1 p u i (fun e => by
    subst e
    rcases hp with q | q
    · exact hn q
    · omega)).trans (h.block i hi hn)⟩
theorem Gr.one {w w1 : World} {S : Nat → Prop} (h : Gr w w1 S) (b i : Nat) (hb : S b ∨ w.heap.size ≤ b) (u : Value) : Gr w (w1.setCell ⟨b, i, none⟩ u) S := h.set (p := ⟨b, i, none⟩) hb u
theorem Gr.new {w w1 : World} {S : Nat → Prop} (h : Gr w w1 S) (o : Obj) : Gr w (w1.alloc o) S := h.on (bel_new _ _)
theorem Gr.draw {w w1 : World} {S : Nat → Prop} (h : Gr w w1 S) : Gr w w1.drew S := ⟨h.os, h.tape, h.output, h.size, h.block⟩
theorem Gr.below {w0 w w' : World} {S : Nat → Prop} {B : Nat} (h : Gr w w' S) (hb : Below B w0 w) (hB : B ≤ w.heap.size) (hs : ∀ k, S k → B ≤ k) : Below B w0 w' :=
  ⟨h.os.trans hb.os, h.tape.trans hb.tape, h.output.trans hb.output, Nat.le_trans hb.size h.size, fun k hk => (h.block k (by omega) (fun q => by have := hs k q; omega)).trans (hb.block k hk)⟩
theorem Gr.own {w w' : World} {S : Nat → Prop} (h : Gr w w' S) {base : Nat} {e : TypeId} {size : Nat} {v : Value} {n : Nat} {xs : List Value} (ho : w.ownsRow base e size v n xs) (hn : ∀ k, v.ownBlock = some k → ¬ S k) : w'.ownsRow base e size v n xs := by
  obtain ⟨hl, h0 | ⟨g, cap, cur, hv, hg, hh, r⟩⟩ := ho
  · exact ⟨hl, .inl h0⟩
  · exact ⟨hl, .inr ⟨g, cap, cur, hv, hg, (h.block g (lt_of_block hh) (hn g (by rw [hv]; rfl))).trans hh, r⟩⟩
theorem Gr.heap {w w' : World} {S : Nat → Prop} (h : Gr w w' S) {b : Nat} {o : Obj} (ho : w.heap[b]? = some o) (hn : ¬ S b) : w'.heap[b]? = some o := (h.block b (lt_of_block ho) hn).trans ho
theorem Gr.cell {w w' : World} {S : Nat → Prop} (h : Gr w w' S) {p : Addr} {v : Value} (hc : w.cell? p = some v) (hn : ¬ S p.block) : w'.cell? p = some v :=
  (World.cell?_of_block (h.block p.block (World.block_lt_of_cell? _ _ hc) hn)).trans hc

theorem own_lo {w : World} {base : Nat} {e : TypeId} {size : Nat} {v : Value} {n : Nat} {xs : List Value} (h : w.ownsRow base e size v n xs) (k : Nat) (hk : v.ownBlock = some k) : base ≤ k := by
  rcases h.2 with ⟨rfl, _⟩ | ⟨g, cap, cur, rfl, hg, _⟩
  · cases hk
  · cases hk; exact hg
theorem own_nil (w : World) (e : TypeId) (size : Nat) : (w.alloc (.cells #[] e)).ownsRow w.heap.size e size (.slice (some ⟨w.heap.size, 0, none⟩) 0 0) 0 [] :=
  ⟨by simp, .inr ⟨w.heap.size, 0, #[], rfl, Nat.le_refl _, heap_alloc_new w _, Nat.le_refl _, Nat.zero_le _, by simp, by simp⟩⟩
theorem own_weak {w : World} {base base' : Nat} {e : TypeId} {size : Nat} {v : Value} {n : Nat} {xs : List Value} (h : w.ownsRow base' e size v n xs) (hb : base ≤ base') : w.ownsRow base e size v n xs := by
  obtain ⟨hl, h0 | ⟨g, cap, cur, hv, hg, r⟩⟩ := h
  · exact ⟨hl, .inl h0⟩
  · exact ⟨hl, .inr ⟨g, cap, cur, hv, Nat.le_trans hb hg, r⟩⟩
theorem own_slice {w : World} {base : Nat} {e : TypeId} {size : Nat} {v : Value} {n : Nat} {xs : List Value} (h : w.ownsRow base e size v n xs) : ∃ a c, v = .slice a n c ∧ SlOk a n c ∧ ∀ ad, a = some ad → base ≤ ad.block ∧ ad.block < w.heap.size := by
  rcases h.2 with ⟨rfl, rfl⟩ | ⟨g, cap, cur, rfl, hg, hh, h1, h2, _⟩
  · exact ⟨none, 0, rfl, ⟨Nat.le_refl _, Nat.zero_le _, fun _ => ⟨rfl, rfl⟩⟩, fun ad e => by cases e⟩
  · exact ⟨_, cap, rfl, ⟨h1, h2, fun e => by cases e⟩, fun ad e => by cases e; exact ⟨hg, lt_of_block hh⟩⟩
theorem results_cell_tmp1 {fn : Func} {p u : Tmp} {ty : TypeId} (h : fn.results = #[.cell p ty, .tmp u]) (tmps : Array Value) (P : Program) (w : World) :
    (results fn tmps).run P w =
      ((asAddr (tmps.getD p undef)).run P w).andThen fun a w₁ => ((loadVar ty a).run P w₁).andThen fun x w₂ => .ok (.tuple #[x, tmps.getD u undef]) w₂ := by
  simp only [results, h]
  simp [Sem.run_bind, Result.andThen]

/-- It holds in each world that is the same from B on. -/
def Fresh (B : Nat) (w : World) (Q : World → Prop) : Prop := ∀ w2, Gr w w2 (fun k => k < B) → Q w2
theorem Fresh.now {B : Nat} {w : World} {Q : World → Prop} (h : Fresh B w Q) : Q w := h w (Gr.refl _ _)
theorem Fresh.on {B : Nat} {w w' : World} {Q : World → Prop} (h : Fresh B w Q) (g : Gr w w' (fun k => k < B)) : Fresh B w' Q := fun w2 g2 => h w2 (g.trans g2)
theorem Fresh.later {B : Nat} {w w' : World} {Q : World → Prop} (h : Fresh B w Q) (g : Below w.heap.size w w') : Fresh B w' Q := h.on (Gr.of g)
theorem Fresh.less {B B' : Nat} {w : World} {Q : World → Prop} (h : Fresh B' w Q) (hb : B ≤ B') : Fresh B w Q := fun w2 g2 => h w2 (g2.mono fun _ _ hk => Nat.lt_of_lt_of_le hk hb)
theorem Fresh.imp {B : Nat} {w : World} {Q R : World → Prop} (h : Fresh B w Q) (f : ∀ w2, Q w2 → R w2) : Fresh B w R := fun w2 g2 => f w2 (h w2 g2)

/-! Records: cells in a row, their contents elsewhere. -/
def CellsAt (w : World) (b o : Nat) (cs : List Value) : Prop := ∀ j u, cs[j]? = some u → w.cell? ⟨b, o + j, none⟩ = some u

/-- What a record's cells say, and how wide it is. -/
structure Rec (α : Type) where
  sz : Nat
  C : World → List Value → α → Prop
  R : World → Nat → Nat → α → Prop
  wide : ∀ w cs x, C w cs x → cs.length = sz
  one : ∀ w cs x, C w cs x → ∀ v ∈ cs, v.oneCell' = true
  kept : ∀ w w' cs x, Below w.heap.size w w' → C w cs x → C w' cs x
  rc : ∀ w b o x, R w b o x → ∃ cs, CellsAt w b o cs ∧ C w cs x
  cr : ∀ w b o cs x, CellsAt w b o cs → C w cs x → R w b o x

def AllC {α : Type} (Z : Rec α) (w : World) (K : List (List Value)) (L : List α) : Prop := K.length = L.length ∧ ∀ i (h : i < L.length) (h' : i < K.length), Z.C w K[i] L[i]

theorem flat_len {α : Type} {Z : Rec α} {w : World} : ∀ {K : List (List Value)} {L : List α}, AllC Z w K L → K.flatten.length = L.length * Z.sz
  | [], [], _ => by simp
  | [], _ :: _, h => by cases h.1
  | _ :: _, [], h => by cases h.1
  | k :: K, x :: L, h => by
    have h1 : AllC Z w K L := ⟨by simpa using h.1, fun i h1 h2 => h.2 (i + 1) (by simpa using h1) (by simpa using h2)⟩
    have h2 := Z.wide _ _ _ (h.2 0 (by simp) (by simp))
    simp only [List.getElem_cons_zero] at h2
    rw [List.flatten_cons, List.length_append, flat_len h1, h2, List.length_cons, Nat.succ_mul]; omega
theorem flat_one {α : Type} {Z : Rec α} {w : World} {K : List (List Value)} {L : List α} (h : AllC Z w K L) : ∀ u ∈ K.flatten, u.oneCell' = true := by
  intro u hu
  obtain ⟨k, hk, hu⟩ := List.mem_flatten.1 hu
  obtain ⟨i, hi, rfl⟩ := List.getElem_of_mem hk
  exact Z.one _ _ _ (h.2 i (by rw [← h.1]; exact hi) hi) u hu
theorem AllC.later {α : Type} {Z : Rec α} {w w' : World} {K : List (List Value)} {L : List α} (h : AllC Z w K L) (hb : Below w.heap.size w w') : AllC Z w' K L :=
  ⟨h.1, fun i h1 h2 => Z.kept _ _ _ _ hb (h.2 i h1 h2)⟩
theorem AllC.snoc {α : Type} {Z : Rec α} {w : World} {K : List (List Value)} {L : List α} (h : AllC Z w K L) {k : List Value} {x : α} (hx : Z.C w k x) : AllC Z w (K ++ [k]) (L ++ [x]) := by
  refine ⟨by simp [h.1], fun i h1 h2 => ?_⟩
  rcases Nat.lt_or_ge i L.length with q | q
  · rw [List.getElem_append_left (h := by rw [h.1]; exact q), List.getElem_append_left (h := q)]
    exact h.2 i q (by rw [h.1]; exact q)
  · have e : i = L.length := by simp at h1; omega
    subst e
    rw [List.getElem_append_right (by rw [h.1]; exact Nat.le_refl _), List.getElem_append_right (Nat.le_refl _)]
    simpa [h.1] using hx
/-- The cells of record i in the row of all. -/
theorem flat_at {α : Type} {Z : Rec α} {w : World} : ∀ {K : List (List Value)} {L : List α} (_ : AllC Z w K L) (i : Nat) (h' : i < K.length) (j : Nat) (_ : j < Z.sz), K.flatten[i * Z.sz + j]? = (K[i])[j]?
  | [], _, _, _, h', _, _ => absurd h' (by simp)
  | _ :: _, [], h, _, _, _, _ => by cases h.1
  | k :: K, x :: L, h, 0, _, j, hj => by
    have h2 := Z.wide _ _ _ (h.2 0 (by simp) (by simp))
    simp only [List.getElem_cons_zero] at h2
    rw [List.flatten_cons, List.getElem?_append_left (by omega)]
    simp
  | k :: K, x :: L, h, i + 1, h', j, hj => by
    have h1 : AllC Z w K L := ⟨by simpa using h.1, fun i h1 h2 => h.2 (i + 1) (by simpa using h1) (by simpa using h2)⟩
    have h2 := Z.wide _ _ _ (h.2 0 (by simp) (by simp))
    simp only [List.getElem_cons_zero] at h2
    rw [List.flatten_cons, List.getElem?_append_right (by rw [h2, Nat.succ_mul]; omega), h2]
    rw [show (i + 1) * Z.sz + j - Z.sz = i * Z.sz + j by rw [Nat.succ_mul]; omega]
    rw [flat_at h1 i (by simpa using h') j hj]
    simp

/-- Records in memory have cells. -/
theorem heads_of {α : Type} (Z : Rec α) {w : World} {b off : Nat} {L : List α} (h : ∀ i (h : i < L.length), Z.R w b (off + i * Z.sz) L[i]) : ∃ K, AllC Z w K L ∧ CellsAt w b off K.flatten := by
  have h2 : ∀ k, k ≤ L.length → ∃ K, AllC Z w K (L.take k) ∧ CellsAt w b off K.flatten := by
    intro k
    induction k with
    | zero => intro _; exact ⟨[], ⟨by simp, fun i h1 h2 => absurd h2 (by simp)⟩, fun j u hj => by simp at hj⟩
    | succ k ih =>
      intro hk
      obtain ⟨K, h1, h3⟩ := ih (by omega)
      obtain ⟨cs, h4, h5⟩ := Z.rc _ _ _ _ (h k (by omega))
      refine ⟨K ++ [cs], by rw [List.take_succ_eq_append_getElem (by omega)]; exact h1.snoc h5, fun j u hj => ?_⟩
      have hl := flat_len h1
      rw [List.length_take, Nat.min_eq_left (by omega)] at hl
      rw [List.flatten_append] at hj
      rcases Nat.lt_or_ge j K.flatten.length with q | q
      · rw [List.getElem?_append_left q] at hj; exact h3 j u hj
      · rw [List.getElem?_append_right q] at hj
        have := h4 (j - K.flatten.length) u (by simpa using hj)
        rw [show off + k * Z.sz + (j - K.flatten.length) = off + j by omega] at this
        exact this
  obtain ⟨K, h1, h3⟩ := h2 L.length (Nat.le_refl _)
  rw [List.take_length] at h1
  exact ⟨K, h1, h3⟩

/-- A row of records that a call has laid is one to a reader. -/
theorem rows_of_own {α : Type} (Z : Rec α) {w : World} {base n : Nat} {e : TypeId} {v : Value} {K : List (List Value)} {L : List α} (h : w.ownsRow base e Z.sz v n K.flatten) (hc : AllC Z w K L) (hn : L.length = n) : ∃ a c, v = .slice a n c ∧ RowsAt Z.R Z.sz w a n L ∧ SlOk a n c := by
  rcases h.2 with ⟨rfl, rfl⟩ | ⟨g, cap, cur, rfl, hg, hh, h1, h2, h3, h4⟩
  · exact ⟨none, 0, rfl, ⟨hn, fun h => absurd h (by omega)⟩, Nat.le_refl _, Nat.zero_le _, fun _ => ⟨rfl, rfl⟩⟩
  · refine ⟨_, cap, rfl, ⟨hn, fun _ => ⟨g, 0, rfl, lt_of_block hh, fun i hi => ?_⟩⟩, h1, h2, fun e => by cases e⟩
    have hi' : i < K.length := by rw [hc.1]; exact hi
    refine Z.cr _ _ _ (K[i]) _ (fun j u hj => ?_) (hc.2 i hi hi')
    have hw := Z.wide _ _ _ (hc.2 i hi hi')
    have hjl : j < Z.sz := by rw [← hw]; exact (List.getElem?_eq_some_iff.1 hj).1
    rw [Nat.zero_add, World.ownsRow.cellAt h _ (by
      have : (i + 1) * Z.sz ≤ n * Z.sz := Nat.mul_le_mul_right _ (by omega)
      rw [Nat.succ_mul] at this; omega), flat_at hc i hi' j hjl]
    exact hj

end Go.Proofs.Ytklekpbladmjhaa
