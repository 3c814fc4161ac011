/- The contract of block.Names. -/
import Derived.Test.YtmomfkikogbdeaaGreatDoorBlkPrintB
import Derived.Test.YtmomfkikogbdeaaGreatDoorBookOpenToBookName
import Derived.Deep.AppendLies
import Derived.Test.YtmomfkikogbdeaaGreatDoorCoinMemToCoinCheckB
import Derived.Test.YtmomfkikogbdeaaGreatDoorBlkHeadToCoinDo
namespace Go.Proofs.YtmomfkikogbdeaaGreatDoor
open Go.RowKit

/-- The texts that are named: those of the transactions, then the block's. -/
def txtsOf (b : BlkD) : List ByteArray := b.2.2.2.2.map txText ++ [blkText b]
/-- What Names answers: the book then, the block's name, the transactions', what is wrong. -/
def nmsB (L : List ByteArray) (b : BlkD) : List ByteArray × Int × List Int × Int :=
  if chkB b ≠ 0 then ([], 0, [], chkB b)
  else if (Bk.allR L (txtsOf b)).2.2 ≠ 0 then ([], 0, [], (Bk.allR L (txtsOf b)).2.2)
  else ((Bk.allR L (txtsOf b)).1, (Bk.allR L (txtsOf b)).2.1.getD b.2.2.2.2.length 0, (Bk.allR L (txtsOf b)).2.1.take b.2.2.2.2.length, 0)

def NmR (w w' : World) (M : List ByteArray) (nm : Int) (N : List Int) (x : Int) (e : Ending) : Prop :=
  ∃ a' n' c' a2 n2 c2, e = .returned (.tuple #[.agg #[.slice a' n' c'], .int .i64 nm, .slice a2 n2 c2, .int .i64 x]) ∧ Bk.TextsAt w' a' n' M ∧ Bk.SlOk a' n' c' ∧ Bk.IntsAt w' a2 n2 N ∧ n2 ≤ c2 ∧ Below w.heap.size w w'

theorem NmR.drew {w w' : World} {M : List ByteArray} {nm : Int} {N : List Int} {x : Int} {e : Ending} (h : NmR w w' M nm N x e) : NmR w w'.drew M nm N x e := by
  obtain ⟨a, n, c, a2, n2, c2, h1, h2, h3, h4, h5, h6⟩ := h
  exact ⟨a, n, c, a2, n2, c2, h1, h2, h3, h4, h5, bel_on h6 (bel_draw1 _)⟩

theorem results_cttt {fn : Func} {p u v z : Tmp} {ty : TypeId} (h : fn.results = #[.cell p ty, .tmp u, .tmp v, .tmp z]) (tmps : Array Value) (P : Program) (w : World) :
    (results fn tmps).run P w =
      ((asAddr (tmps.getD p undef)).run P w).andThen fun a w₁ => ((loadVar ty a).run P w₁).andThen fun x w₂ => .ok (.tuple #[x, tmps.getD u undef, tmps.getD v undef, tmps.getD z undef]) w₂ := by
  simp only [results, h]
  simp [Sem.run_bind, Result.andThen]

theorem one_heap (w : World) (a : Value) (t : TypeId) : (w.alloc (.cells #[a] t)).heap[w.heap.size]? = some (.cells [a].toArray t (0, 0)) := heap_alloc_new w _

/-- The row that is named. -/
theorem txts_at {w : World} {base g cap m : Nat} {xs : List Value} {T : List TxD} {t : ByteArray} (ho : w.ownsRow base 9 1 (.slice (some ⟨g, 0, none⟩) (m + 1) cap) (m + 1) (xs ++ [.string t])) (hz : T.length = m) (hl : xs.length = m) (hx : ∀ j, j < m → xs[j]? = some (txV T j)) : Bk.TextsAt w (some ⟨g, 0, none⟩) (m + 1) (T.map txText ++ [t]) := by
  refine ⟨by simp [hz], fun _ => ⟨g, 0, rfl, fun i hi => ?_⟩⟩
  have hi' : i < m + 1 := by simpa [hz] using hi
  rw [Nat.zero_add, ho.cellAt i (by omega)]
  by_cases h : i < m
  · rw [List.getElem?_append_left (by omega), hx i h]
    rw [List.getElem_append_left (by simp; omega)]
    simp [txV, (by omega : i < T.length)]
  · have e : i = m := by omega
    subst e
    rw [List.getElem?_append_right (by omega), List.getElem_append_right (by simp; omega)]
    simp [hl, hz]

set_option maxRecDepth 10000 in
set_option maxHeartbeats 6400000 in
theorem names_bad (ka : Option Addr) (kn kc : Nat) (p h k n : Int) (a : Option Addr) (m c : Nat) (T : List TxD) (x : Int) (w : World) (hT : TxsAt w a m T) (hx : chkB (p, h, k, n, T) = x) (h0 : x ≠ 0) :
    Calls Tryz.prog 27 #[.agg #[.slice ka kn kc], .agg #[.int .i64 p, .int .i64 h, .int .i64 k, .int .i64 n, .slice a m c]] w fun e w' => NmR w w' [] 0 [] x e := by
  obtain ⟨X, hX⟩ : ∃ X, X = ((w.alloc (.cells #[.slice ka kn kc] 24)).alloc (.cells #[.int .i64 p, .int .i64 h, .int .i64 k, .int .i64 n, .slice a m c] 39)).alloc (.cells #[.slice none 0 0] 24) := ⟨_, rfl⟩
  have hbX : Below w.heap.size w X := by rw [hX]; exact bel_on (bel_on (bel_new _ _) (bel_new _ _)) (bel_new _ _)
  have hX3 : X.heap[w.heap.size + 2]? = some (.cells [.slice none 0 0].toArray 24 (0, 0)) := by
    rw [hX]
    have := one_heap ((w.alloc (.cells #[.slice ka kn kc] 24)).alloc (.cells #[.int .i64 p, .int .i64 h, .int .i64 k, .int .i64 n, .slice a m c] 39)) (.slice none 0 0) 24
    rw [show ((w.alloc (.cells #[.slice ka kn kc] 24)).alloc (.cells #[.int .i64 p, .int .i64 h, .int .i64 k, .int .i64 n, .slice a m c] 39)).heap.size = w.heap.size + 2 by simp] at this
    exact this
  have C1 := hide (blkPrint_bad p h k n a m c T x X (hT.later hbX) hx h0)
  have HX3 := hide hX3
  have HBX := hide hbX
  have gx : (x != 0) = true := by simp [h0]
  clear hT hx h0 hX3 hbX
  go_enter Tryz.func27, Tryz.ntmps27
  go_wp2_with fail
  rw [← hX]
  clear hX
  refine (unhide C1).mono ?_
  rintro e w1 ⟨rfl, hb1⟩
  have h3 := (hb1.block _ (lt_of_block (unhide HX3))).trans (unhide HX3)
  have z0 := cell_of h3 0 _ rfl
  have zf := frozen_of h3 0
  have zl := lt_of_block h3
  have HB1 := hide (bel_on (unhide HBX) hb1)
  clear hb1 h3
  go_wp2
  (try simp only [Exit.inBlock, Exit.then])
  refine bodyPost_ret (v := .tuple #[.agg #[.slice none 0 0], .int .i64 0, .slice none 0 0, .int .i64 x]) ?_ rfl ⟨_, _, _, _, _, _, rfl, Bk.TextsAt.nil _ _, Bk.SlOk.nil, Bk.IntsAt.nil _ _, Nat.le_refl _, ?_⟩
  · rw [results_cttt rfl]
    go_simp
  · exact (unhide HB1).setCell (p := ⟨w.heap.size + 2, 0, none⟩) (by simp) _

/-- The box of the answer: it holds some slice. -/
def OutOk (ty : TypeId) (o : Nat) (W : World) : Prop := ∃ a n c, W.heap[o]? = some (.cells #[.slice a n c] ty (0, 0))
theorem OutOk.later {ty : TypeId} {o : Nat} {W V : World} (h : OutOk ty o W) (hb : Below W.heap.size W V) : OutOk ty o V := by
  obtain ⟨a, n, c, h⟩ := h
  exact ⟨a, n, c, (hb.block _ (lt_of_block h)).trans h⟩
theorem OutOk.grown {ty : TypeId} {o B : Nat} {W V : World} (h : OutOk ty o W) (hg : W.grownBy V (some B)) (hn : o ≠ B) : OutOk ty o V := by
  obtain ⟨a, n, c, h⟩ := h
  exact ⟨a, n, c, (hg.block _ (lt_of_block h) (fun e => hn (Option.some.inj e))).trans h⟩
theorem OutOk.put {ty : TypeId} {o : Nat} {W : World} (h : OutOk ty o W) (b : Nat) (e : b = o) (a' : Option Addr) (n' c' : Nat) : OutOk ty o (W.setCell ⟨b, 0, none⟩ (.slice a' n' c')) := by
  subst e
  obtain ⟨a, n, c, h⟩ := h
  exact ⟨a', n', c', box_set h⟩
theorem OutOk.cell {ty : TypeId} {o : Nat} {W : World} (h : OutOk ty o W) : ∃ z, W.cell? ⟨o, 0, none⟩ = some z := by
  obtain ⟨a, n, c, h⟩ := h
  exact ⟨.slice a n c, by simp [World.cell?, h]⟩
theorem OutOk.free {ty : TypeId} {o : Nat} {W : World} (h : OutOk ty o W) : W.frozen? ⟨o, 0, none⟩ = false := by
  obtain ⟨a, n, c, h⟩ := h
  simp [World.frozen?, h]
/-- A cell of another kind lies elsewhere. -/
theorem OutOk.other {ty : TypeId} {o b j : Nat} {W : World} {v u : Value} (h : OutOk ty o W) (hc : W.cell? ⟨b, j, none⟩ = some v) (hv : ∀ a n c, v ≠ .slice a n c) : (W.setCell ⟨o, 0, none⟩ u).cell? ⟨b, j, none⟩ = some v := by
  have hne : b ≠ o := fun e => by
    subst e
    obtain ⟨a, n, c, h⟩ := h
    cases j with
    | zero => simp [World.cell?, h] at hc; exact hv a n c hc.symm
    | succ i => simp [World.cell?, h] at hc
  rw [← hc]
  exact World.cell?_of_block (a := ⟨b, j, none⟩) (Below.heap_setCell W ⟨o, 0, none⟩ u b (fun e => hne e))
theorem texts_put {ty : TypeId} {o : Nat} {W : World} {a : Option Addr} {n : Nat} {M : List ByteArray} {u : Value} (h : Bk.TextsAt W a n M) (ho : OutOk ty o W) : Bk.TextsAt (W.setCell ⟨o, 0, none⟩ u) a n M := by
  refine ⟨h.1, fun h0 => ?_⟩
  obtain ⟨b, off, e, hc⟩ := h.2 h0
  exact ⟨b, off, e, fun i hi => ho.other (hc i hi) (fun _ _ _ q => by cases q)⟩
theorem ints_put {ty : TypeId} {o : Nat} {W : World} {a : Option Addr} {n : Nat} {N : List Int} {u : Value} (h : Bk.IntsAt W a n N) (ho : OutOk ty o W) : Bk.IntsAt (W.setCell ⟨o, 0, none⟩ u) a n N := by
  refine ⟨h.1, fun h0 => ?_⟩
  obtain ⟨b, off, e, hc⟩ := h.2 h0
  exact ⟨b, off, e, fun i hi => ho.other (hc i hi) (fun _ _ _ q => by cases q)⟩
def NmS (ty : TypeId) (w1 : World) (B : Nat) (v u : Value) (W : World) : Prop := Gr w1 W (fun q => q = B + 2) ∧ W.cell? ⟨B, 0, none⟩ = some v ∧ W.cell? ⟨B + 1, 4, none⟩ = some u ∧ OutOk ty (B + 2) W

theorem Gr.grow2 {w1 W V : World} {S : Nat → Prop} {B : Nat} (h : Gr w1 W S) (hg : W.grownBy V (some B)) (hB : w1.heap.size ≤ B) : Gr w1 V S := h.grown hg (fun k e => .inr (by injection e with e; omega))

set_option maxRecDepth 10000 in
set_option maxHeartbeats 12800000 in
theorem names_some (ka : Option Addr) (kn kc : Nat) (L : List ByteArray) (p h k n : Int) (a : Option Addr) (m c : Nat) (T : List TxD) (M : List ByteArray) (N : List Int) (x : Int) (w : World) (hE : Env w) (hL : Bk.TextsAt w ka kn L) (hT : TxsAt w a m T) (hx : chkB (p, h, k, n, T) = 0) (hA : Bk.allR L (txtsOf (p, h, k, n, T)) = (M, N, x)) (hN : x = 0 → N.length = m + 1) (M' : List ByteArray) (nm : Int) (N' : List Int) (hR : (if x = 0 then (M, N.getD m 0, N.take m) else (([] : List ByteArray), (0 : Int), ([] : List Int))) = (M', nm, N')) :
    Calls Tryz.prog 27 #[.agg #[.slice ka kn kc], .agg #[.int .i64 p, .int .i64 h, .int .i64 k, .int .i64 n, .slice a m c]] w fun e w' => NmR w w' M' nm N' x e := by
  obtain ⟨i0, ii, iz0, iz1, iz2⟩ := info_parts Tryz.info9
  obtain ⟨f1, f2, f3, _, f5⟩ := chkB_zero hx
  have hz : T.length = m := hT.1
  obtain ⟨X, hX⟩ : ∃ X, X = ((w.alloc (.cells #[.slice ka kn kc] 24)).alloc (.cells #[.int .i64 p, .int .i64 h, .int .i64 k, .int .i64 n, .slice a m c] 39)).alloc (.cells #[.slice none 0 0] 24) := ⟨_, rfl⟩
  have hbX : Below w.heap.size w X := by rw [hX]; exact bel_on (bel_on (bel_new _ _) (bel_new _ _)) (bel_new _ _)
  have hX1 : X.heap[w.heap.size]? = some (.cells [.slice ka kn kc].toArray 24 (0, 0)) := by
    rw [hX, Below.heap_alloc _ _ _ (by simp; omega), Below.heap_alloc _ _ _ (by simp)]; exact one_heap _ _ _
  have hX2 : X.heap[w.heap.size + 1]? = some (.cells [.int .i64 p, .int .i64 h, .int .i64 k, .int .i64 n, .slice a m c].toArray 39 (0, 0)) := by
    rw [hX, Below.heap_alloc _ _ _ (by simp)]
    have := five_heap (w.alloc (.cells #[.slice ka kn kc] 24)) (.int .i64 p) (.int .i64 h) (.int .i64 k) (.int .i64 n) (.slice a m c) 39
    rw [show (w.alloc (.cells #[.slice ka kn kc] 24)).heap.size = w.heap.size + 1 by simp] at this
    exact this
  have hX3 : X.heap[w.heap.size + 2]? = some (.cells [.slice none 0 0].toArray 24 (0, 0)) := by
    rw [hX]
    have := one_heap ((w.alloc (.cells #[.slice ka kn kc] 24)).alloc (.cells #[.int .i64 p, .int .i64 h, .int .i64 k, .int .i64 n, .slice a m c] 39)) (.slice none 0 0) 24
    rw [show ((w.alloc (.cells #[.slice ka kn kc] 24)).alloc (.cells #[.int .i64 p, .int .i64 h, .int .i64 k, .int .i64 n, .slice a m c] 39)).heap.size = w.heap.size + 2 by simp] at this
    exact this
  have C1 := hide (blkPrint_some p h k n a m c T X (hE.later hbX) (hT.later hbX) hx)
  have HX1 := hide hX1
  have HX2 := hide hX2
  have HX3 := hide hX3
  have HBX := hide hbX
  have HE := hide hE
  obtain ⟨b, off, rfl, _, hcell⟩ := hT.2 (by omega)
  have PT := hide (fun W (hb : Below w.heap.size w W) => (show Calls Tryz.prog 87 #[.slice (some ⟨b, off, none⟩) m c] W fun e w' => ∃ (B : Nat) (xs : List Value), e = .returned (.slice (some ⟨B, 0, none⟩) m m) ∧ w'.ownsRow B 9 1 (.slice (some ⟨B, 0, none⟩) m m) m xs ∧ xs.length = m ∧ (∀ j, j < m → xs[j]? = some (txV T j)) ∧ B < w'.heap.size ∧ W.heap.size ≤ B ∧ Below W.heap.size W w' from
    (printTxs_is b off m c T W ((unhide HE).later hb) hz (by omega) f5 (fun i hi => TxAt.kept _ _ _ _ _ hb (hcell i hi))).mono fun e w' ⟨h1, h2⟩ => by
      obtain ⟨xs, ho, hx⟩ := h2.ex
      exact ⟨W.heap.size, xs, h1, ho, by simpa using ho.1, hx, h2.lt, Nat.le_refl _, h2.bel⟩))
  have hm4 : m ≤ 4 := by omega
  have HZ := hide hz
  obtain ⟨t, ht⟩ : ∃ t, blkText (p, h, k, n, T) = t := ⟨_, rfl⟩
  have hA' : Bk.allR L (T.map txText ++ [t]) = (M, N, x) := by rw [← ht]; exact hA
  rw [ht] at C1
  have AL := hide (fun W al cl (hb : Below w.heap.size w W) (hl : Bk.TextsAt W al (m + 1) (T.map txText ++ [t])) => Bk.all_is ka al kn kc (m + 1) cl L (T.map txText ++ [t]) M N x W (hL.later hb) hl (by omega) hA')
  have HN := hide hN
  have HR := hide hR
  clear hE hL hT hx hA hN hR hX1 hX2 hX3 hbX hcell f1 f2 f3 f5 hz hA' ht
  go_enter Tryz.func27, Tryz.ntmps27
  go_wp2_with fail
  rw [← hX]
  clear hX
  refine (unhide C1).mono ?_
  rintro e w1 ⟨rfl, hb1⟩
  have h1 := (hb1.block _ (lt_of_block (unhide HX1))).trans (unhide HX1)
  have h2 := (hb1.block _ (lt_of_block (unhide HX2))).trans (unhide HX2)
  have h3 := (hb1.block _ (lt_of_block (unhide HX3))).trans (unhide HX3)
  have k0 := cell_of h1 0 _ rfl
  have b4 := cell_of h2 4 _ rfl
  have z0 := cell_of h3 0 _ rfl
  have zf := frozen_of h3 0
  have l1 := lt_of_block h1
  have l2 := lt_of_block h2
  have l3 := lt_of_block h3
  have HB1 := hide hb1
  have l12 : X.heap.size ≤ w1.heap.size := hb1.size
  have hw3 : w.heap.size + 3 ≤ X.heap.size := by have := lt_of_block (unhide HX3); omega
  have GB : Hid (∀ W, Gr w1 W (fun q => q = w.heap.size + 2) → Below w.heap.size w W) := fun W g => g.below (bel_on (unhide HBX) hb1) (by omega) (fun k e => by rw [e]; omega)
  have KS : Hid (∀ W, Gr w1 W (fun q => q = w.heap.size + 2) → OutOk 24 (w.heap.size + 2) W → NmS 24 w1 (w.heap.size) (.slice ka kn kc) (.slice (some ⟨b, off, none⟩) m c) W) :=
    fun W g o => ⟨g, cell_of (g.heap h1 (by omega)) 0 _ rfl, cell_of (g.heap h2 (by omega)) 4 _ rfl, o⟩
  have O1 : Hid (OutOk 24 (w.heap.size + 2) w1) := ⟨_, _, _, h3⟩
  have PT1 := hide (fun W (g : Gr w1 W (fun q => q = w.heap.size + 2)) => (show Calls Tryz.prog 87 #[.slice (some ⟨b, off, none⟩) m c] W fun e w' => ∃ (B : Nat) (xs : List Value), e = .returned (.slice (some ⟨B, 0, none⟩) m m) ∧ w'.ownsRow B 9 1 (.slice (some ⟨B, 0, none⟩) m m) m xs ∧ xs.length = m ∧ (∀ j, j < m → xs[j]? = some (txV T j)) ∧ B < w'.heap.size ∧ w1.heap.size ≤ B ∧ Below W.heap.size W w' from
    ((unhide PT) W ((unhide GB) W g)).mono fun e w' ⟨B, xs, q1, q2, q3, q4, q5, q6, q7⟩ => ⟨B, xs, q1, q2, q3, q4, q5, Nat.le_trans g.size q6, q7⟩))
  have AL1 := hide (fun W al cl (g : Gr w1 W (fun q => q = w.heap.size + 2)) hl => (unhide AL) W al cl ((unhide GB) W g) hl)
  have l0 : w.heap.size + 2 < w1.heap.size := l3
  clear hb1 h1 h2 h3 C1 PT AL z0 zf
  go_wp2_with fail
  go_region_held3 (fun W => Gr w1 W (fun q => q = w.heap.size + 2) ∧ W.cell? ⟨w.heap.size, 0, none⟩ = some (.slice ka kn kc) ∧ W.cell? ⟨w.heap.size + 1, 4, none⟩ = some (.slice (some ⟨b, off, none⟩) m c) ∧ OutOk 24 (w.heap.size + 2) W)
    (first
    | exact (unhide KS) _ (Gr.refl _ _).draw (unhide O1)
    | (go_split_ands; exact (unhide KS) _ (Gr.new (by assumption) _) (OutOk.later (by assumption) (bel_new _ _)))
    | (go_split_ands; exact (unhide KS) _ (Gr.on (by assumption) hbc) (OutOk.later (by assumption) hbc))
    | (go_split_ands; exact (unhide KS) _ (Gr.grow2 (by assumption) hg5 hB1) (OutOk.grown (by assumption) hg5 hne5))
    | exact (unhide KS) _ ((unhide HG6).one (w.heap.size + 1 + 1) 0 (.inl rfl) _) (OutOk.put (unhide HO6) (w.heap.size + 1 + 1) rfl _ _ _))
    (first
    | (refine step_append_lies _ (by rfl) _ _ _ (by rfl) B4 9 i0 _ 1 16 Tryz.underlying22 ii iz0 iz1 iz2 rfl (by omega) (.slice (some ⟨B4, 0, none⟩) m m) m xs4 (by rfl) (ho4.alloc _) ⟨w4.heap.size, 0, none⟩ 1 1 [.string t] (by rfl) (by rfl) (World.news_of_block (cs := #[.string t]) (t := 9) (fr := (0, 0)) (heap_alloc_new w4 _)) (by simp [Value.oneCell']) (by omega) (by unfold maxLen; omega) (by omega) (by simp; omega) (w4.heap.size + 1) (by simp) ?_
       intro gg cap w5 hown5 hgrow5 hat5 hlt5
       have TX := hide (txts_at hown5 (unhide HZ) hl4 hx4)
       have hg5 := hgrow5
       change World.grownBy _ _ (some B4) at hg5
       have hne5 : w.heap.size + 2 ≠ B4 := by omega
       clear hown5 hat5 hgrow5)
    | (refine step_append_lies _ (by rfl) _ _ _ (by rfl) B4 9 i0 _ 1 16 Tryz.underlying22 ii iz0 iz1 iz2 rfl (by omega) (.slice (some ⟨B4, 0, none⟩) m m) m xs4 (by rfl) ho4 ⟨w1.heap.size, 0, none⟩ 1 1 [.string t] (by rfl) (by rfl) (World.news_of_block (cs := #[.string t]) (t := 9) (fr := (0, 0)) hnb4) (by simp [Value.oneCell']) (by omega) (by unfold maxLen; omega) (by omega) (by omega) w4.heap.size (by rfl) ?_
       intro gg cap w5 hown5 hgrow5 hat5 hlt5
       have TX := hide (txts_at hown5 (unhide HZ) hl4 hx4)
       have hg5 := hgrow5
       change World.grownBy _ _ (some B4) at hg5
       have hne5 : w.heap.size + 2 ≠ B4 := by omega
       clear hown5 hat5 hgrow5)
    | (go_at_call 87
       refine ((unhide PT1) _ ?_).mono ?_
       · go_split_ands
         assumption
       rintro e w4 ⟨B4, xs4, rfl, ho4, hl4, hx4, hB4, hB1, hbc⟩
       try have hnb4 := (hbc.block w1.heap.size (by simp)).trans (heap_alloc_new w1 (.cells #[.string t] 9)))
    | (go_at_call 86
       refine ((unhide AL1) _ _ _ ?_ (unhide TX)).mono ?_
       · go_split_ands
         assumption
       rintro e w6 ⟨⟨a6, n6, c6, a7, n7, c7, rfl, hT6, sT6, hI6, hn6, hc6⟩, hbc⟩
       have HT6 := hide hT6
       have HS6 := hide sT6
       have HI6 := hide hI6
       have HC6 := hide hc6
       have HO6 := hide (OutOk.later (by go_split_ands; assumption) hbc)
       have HG6 := hide (Gr.on (by go_split_ands; assumption) hbc)
       obtain ⟨zz, z6⟩ := (unhide HO6).cell
       have zf6 := (unhide HO6).free
       clear hT6 sT6 hI6 hc6 hg5 hn6))
  all_goals
    rename_i hH
    obtain ⟨hGQ, -, hQ4, hQo⟩ := hH
    have hT7 : Bk.TextsAt (w6.setCell ⟨w.heap.size + 1 + 1, 0, none⟩ (.slice a6 n6 c6)) a6 n6 M := texts_put (unhide HT6) (unhide HO6)
    have hI7 : Bk.IntsAt (w6.setCell ⟨w.heap.size + 1 + 1, 0, none⟩ (.slice a6 n6 c6)) a7 n7 N := ints_put (unhide HI6) (unhide HO6)
    have hz7 : (w6.setCell ⟨w.heap.size + 1 + 1, 0, none⟩ (.slice a6 n6 c6)).cell? ⟨w.heap.size + 2, 0, none⟩ = some (.slice a6 n6 c6) := by
      obtain ⟨q1, q2, q3, q⟩ := unhide HO6
      have := box_set (u := .slice a6 n6 c6) q
      simp [World.cell?, this]
    have hf7 := hQo.free
    obtain ⟨Q, hQ⟩ : ∃ Q, Q = w6.setCell ⟨w.heap.size + 1 + 1, 0, none⟩ (.slice a6 n6 c6) := ⟨_, rfl⟩
    rw [← hQ] at hGQ hQ4 hQo hT7 hI7 hz7 hf7 ⊢
    have hlQ : w.heap.size + 2 < Q.heap.size := Nat.lt_of_lt_of_le l0 hGQ.size
    have HGQ := hide hGQ
    have HQO := hide hQo
    have HT7 := hide hT7
    have HI7 := hide hI7
    clear hQ hGQ hQo hT7 hI7 HT6 HI6 HO6 HG6 z6 zf6 TX
    by_cases hx0 : x = 0
    · subst hx0
      have hNl := (unhide HN) rfl
      have hn7 : m + 1 = n7 := by rw [← hNl]; exact (unhide HI7).1
      have hc7 : n7 ≤ c7 := unhide HC6
      obtain ⟨b7, o7, rfl, hcs7⟩ := (unhide HI7).2 (by omega)
      have hcm := hcs7 m (by omega)
      have HG : Hid (N.getD m 0 = N[m]) := by show _ = _; simp [hNl]
      have hr := unhide HR
      rw [if_pos rfl] at hr
      injection hr with r1 r2
      injection r2 with r2 r3
      rw [unhide HG] at r2
      rw [r2] at hcm
      subst r1 r3
      have l7 := World.block_lt_of_cell? _ _ hcm
      have hcm2 : (Q.setCell ⟨w.heap.size + 1 + 1, 0, none⟩ (.slice a6 n6 c6)).cell? ⟨b7, o7 + m, none⟩ = some (.int .i64 nm) := (unhide HQO).other hcm (fun _ _ _ q => by cases q)
      have hi1 : (0 : Int) ≤ (m : Int) := by omega
      have hi2 : (m : Int) < (n7 : Int) := by omega
      have hi3 : (m : Int) ≤ (c7 : Int) := by omega
      have HF : Hid (NmR w (Q.setCell ⟨w.heap.size + 2, 0, none⟩ (.slice a6 n6 c6)) M nm (N.take m) 0 (.returned (.tuple #[.agg #[.slice a6 n6 c6], .int .i64 nm, .slice (some ⟨b7, o7, none⟩) m c7, .int .i64 0]))) :=
        ⟨a6, n6, c6, some ⟨b7, o7, none⟩, m, c7, rfl, texts_put (unhide HT7) (unhide HQO), unhide HS6, ints_put ⟨by rw [List.length_take]; omega, fun _ => ⟨b7, o7, rfl, fun i hi => by
          have := hcs7 i (by rw [List.length_take] at hi; omega)
          rw [List.getElem_take]; exact this⟩⟩ (unhide HQO), by omega, (unhide GB) _ ((unhide HGQ).one (w.heap.size + 2) 0 (.inl rfl) _)⟩
      clear hcs7 hNl r2 HI7 HT7 HQO HG HN HR
      go_wp2_with fail
      go_region
      all_goals
        go_wp2
        (try simp only [Exit.inBlock, Exit.then])
        refine bodyPost_ret (v := .tuple #[.agg #[.slice a6 n6 c6], .int .i64 nm, .slice (some ⟨b7, o7, none⟩) m c7, .int .i64 0]) ?_ rfl ?_
        · rw [results_cttt rfl]
          go_simp
        · exact (unhide HF).drew
    · have gx : (x != 0) = true := by simp [hx0]
      have hr := unhide HR
      rw [if_neg hx0] at hr
      injection hr with r1 r2
      injection r2 with r2 r3
      subst r1 r2 r3
      have HF : Hid (Below w.heap.size w (Q.setCell ⟨w.heap.size + 1 + 1, 0, none⟩ (.slice none 0 0))) := (unhide GB) _ ((unhide HGQ).one (w.heap.size + 1 + 1) 0 (.inl rfl) _)
      clear hx0 HN HT7 HI7 HQO HGQ HR
      go_wp2
      (try simp only [Exit.inBlock, Exit.then])
      refine bodyPost_ret (v := .tuple #[.agg #[.slice none 0 0], .int .i64 0, .slice none 0 0, .int .i64 x]) ?_ rfl ⟨_, _, _, _, _, _, rfl, Bk.TextsAt.nil _ _, Bk.SlOk.nil, Bk.IntsAt.nil _ _, Nat.le_refl _, ?_⟩
      · rw [results_cttt rfl]
        go_simp
      · exact unhide HF

end Go.Proofs.YtmomfkikogbdeaaGreatDoor

/- Contracts of block.Names, whatever comes in, of namesFor and of turns. -/
namespace Go.Proofs.YtmomfkikogbdeaaGreatDoor
open Go.RowKit

theorem nmGo_len : ∀ (l : List ByteArray) (L : List ByteArray) (N : List Int) (M : List ByteArray) (N' : List Int), Bk.nmGo L N l = (M, N', 0) → N'.length = N.length + l.length
  | [], L, N, M, N', h => by
    unfold Bk.nmGo at h
    injection h with _ h
    injection h with h _
    subst h
    rfl
  | s :: r, L, N, M, N', h => by
    unfold Bk.nmGo at h
    split at h
    · have := nmGo_len r _ _ M N' h
      rw [this, List.length_append, List.length_cons, List.length_cons, List.length_nil]
      omega
    · rename_i q
      injection h with _ h
      injection h with _ h
      exact absurd h q
theorem allR_len {L l M : List ByteArray} {N : List Int} (h : Bk.allR L l = (M, N, 0)) : N.length = l.length := by
  unfold Bk.allR at h
  split at h
  · have := nmGo_len l L [] M N h
    rw [this]
    simp
  · rename_i q
    injection h with _ h
    injection h with _ h
    exact absurd h q

theorem names_any (ka : Option Addr) (kn kc : Nat) (L : List ByteArray) (p h k n : Int) (a : Option Addr) (m c : Nat) (T : List TxD) (M : List ByteArray) (nm : Int) (N : List Int) (x : Int) (w : World) (hE : Env w) (hL : Bk.TextsAt w ka kn L) (hT : TxsAt w a m T) (hx : nmsB L (p, h, k, n, T) = (M, nm, N, x)) :
    Calls Tryz.prog 27 #[.agg #[.slice ka kn kc], .agg #[.int .i64 p, .int .i64 h, .int .i64 k, .int .i64 n, .slice a m c]] w fun e w' => NmR w w' M nm N x e := by
  have hz : T.length = m := hT.1
  unfold nmsB at hx
  by_cases h0 : chkB (p, h, k, n, T) = 0
  · rw [if_neg (by rw [h0]; decide)] at hx
    obtain ⟨⟨M', N', x'⟩, hr⟩ : ∃ r, Bk.allR L (txtsOf (p, h, k, n, T)) = r := ⟨_, rfl⟩
    rw [hr] at hx
    simp only [hz] at hx
    have hlen : x' = 0 → N'.length = m + 1 := fun e => by
      subst e
      rw [allR_len hr]
      unfold txtsOf
      simp [hz]
    by_cases hx0 : x' = 0
    · subst hx0
      rw [if_neg (by decide)] at hx
      injection hx with e1 e2
      injection e2 with e2 e3
      injection e3 with e3 e4
      subst e1 e2 e3 e4
      exact names_some ka kn kc L p h k n a m c T M' N' 0 w hE hL hT h0 hr hlen _ _ _ (if_pos rfl)
    · rw [if_pos hx0] at hx
      injection hx with e1 e2
      injection e2 with e2 e3
      injection e3 with e3 e4
      subst e1 e2 e3 e4
      exact names_some ka kn kc L p h k n a m c T M' N' x' w hE hL hT h0 hr hlen _ _ _ (if_neg hx0)
  · rw [if_pos h0] at hx
    injection hx with e1 e2
    injection e2 with e2 e3
    injection e3 with e3 e4
    subst e1 e2 e3
    exact names_bad ka kn kc p h k n a m c T x w hT e4 (by rw [← e4]; exact h0)

/-- What namesFor answers. -/
def nfD (K : List ByteArray) (C : List CoinD) (b : BlkD) : List Int × Int := if ckCoins C ≠ 0 then ([], ckCoins C) else ((nmsB K b).2.2.1, (nmsB K b).2.2.2)
def NfR (w w' : World) (N : List Int) (x : Int) (e : Ending) : Prop := ∃ a n c, e = .returned (.tuple #[.slice a n c, .int .i64 x]) ∧ Bk.IntsAt w' a n N ∧ n ≤ c ∧ Below w.heap.size w w'

set_option maxRecDepth 10000 in
set_option maxHeartbeats 1600000 in
theorem namesFor_is (ka : Option Addr) (kn kc : Nat) (L : List ByteArray) (la : Option Addr) (ln lc : Nat) (C : List CoinD) (p h k n : Int) (a : Option Addr) (m c : Nat) (T : List TxD) (N : List Int) (x : Int) (w : World) (hE : Env w) (hL : Bk.TextsAt w ka kn L) (hC : CoinsAt w la ln C) (hT : TxsAt w a m T) (hx : nfD L C (p, h, k, n, T) = (N, x)) :
    Calls Tryz.prog 73 #[.agg #[.slice ka kn kc], .slice la ln lc, .agg #[.int .i64 p, .int .i64 h, .int .i64 k, .int .i64 n, .slice a m c]] w fun e w' => NfR w w' N x e := by
  obtain ⟨X, hX⟩ : ∃ X, X = (w.alloc (.cells #[.slice ka kn kc] 24)).alloc (.cells #[.int .i64 p, .int .i64 h, .int .i64 k, .int .i64 n, .slice a m c] 39) := ⟨_, rfl⟩
  have hbX : Below w.heap.size w X := by rw [hX]; exact bel_on (bel_new _ _) (bel_new _ _)
  have hX1 : X.heap[w.heap.size]? = some (.cells [.slice ka kn kc].toArray 24 (0, 0)) := by
    rw [hX, Below.heap_alloc _ _ _ (by simp)]; exact one_heap _ _ _
  have hX2 : X.heap[w.heap.size + 1]? = some (.cells [.int .i64 p, .int .i64 h, .int .i64 k, .int .i64 n, .slice a m c].toArray 39 (0, 0)) := by
    rw [hX]
    have := five_heap (w.alloc (.cells #[.slice ka kn kc] 24)) (.int .i64 p) (.int .i64 h) (.int .i64 k) (.int .i64 n) (.slice a m c) 39
    rw [show (w.alloc (.cells #[.slice ka kn kc] 24)).heap.size = w.heap.size + 1 by simp] at this
    exact this
  obtain ⟨y, hy⟩ : ∃ y, ckCoins C = y := ⟨_, rfl⟩
  have CK := hide (uCheck_any la ln lc C y X (hC.later hbX) hy)
  have HX1 := hide hX1
  have HX2 := hide hX2
  have HBX := hide hbX
  unfold nfD at hx
  rw [hy] at hx
  by_cases hy0 : y = 0
  · subst hy0
    rw [if_neg (by decide)] at hx
    obtain ⟨⟨M, nm, N', x'⟩, hr⟩ : ∃ r, nmsB L (p, h, k, n, T) = r := ⟨_, rfl⟩
    rw [hr] at hx
    injection hx with e1 e2
    simp only at e1 e2
    subst e1 e2
    have NA := hide (fun W (hb : Below X.heap.size X W) => names_any ka kn kc L p h k n a m c T M nm N' x' W ((hE.later hbX).later hb) ((hL.later hbX).later hb) ((hT.later hbX).later hb) hr)
    clear hE hL hC hT hy hr hX1 hX2 hbX
    go_enter Tryz.func73, Tryz.ntmps73
    go_wp2_with fail
    rw [← hX]
    clear hX
    refine (unhide CK).mono ?_
    rintro e w1 ⟨rfl, hb1⟩
    have h1 := (hb1.block _ (lt_of_block (unhide HX1))).trans (unhide HX1)
    have h2 := (hb1.block _ (lt_of_block (unhide HX2))).trans (unhide HX2)
    have k0 := cell_of h1 0 _ rfl
    have b0 := cell_of h2 0 _ rfl
    have b1 := cell_of h2 1 _ rfl
    have b2 := cell_of h2 2 _ rfl
    have b3 := cell_of h2 3 _ rfl
    have b4 := cell_of h2 4 _ rfl
    have l1 := lt_of_block h1
    have l2 := lt_of_block h2
    have N1 := hide ((unhide NA) w1 hb1)
    have HB1 := hide (bel_on (unhide HBX) hb1)
    clear hb1 h1 h2 CK NA
    go_wp2_with fail
    refine (unhide N1).mono ?_
    rintro e w2 ⟨a', n', c', a2, n2, c2, rfl, _, _, hI, hc, hb2⟩
    have HF : Hid (NfR w (w2.alloc (.cells #[.slice a' n' c'] 24)) N' x' (.returned (.tuple #[.slice a2 n2 c2, .int .i64 x']))) := ⟨a2, n2, c2, rfl, hI.later (bel_new _ _), hc, bel_on (bel_on (unhide HB1) hb2) (bel_new _ _)⟩
    clear hI hc hb2
    go_wp2
    go_ret2
    exact unhide HF
  · rw [if_pos hy0] at hx
    injection hx with e1 e2
    subst e1 e2
    have gy : (y != 0) = true := by simp [hy0]
    clear hE hL hC hT hy hX1 hX2 hbX hy0
    go_enter Tryz.func73, Tryz.ntmps73
    go_wp2_with fail
    rw [← hX]
    clear hX
    refine (unhide CK).mono ?_
    rintro e w1 ⟨rfl, hb1⟩
    have HF : Hid (NfR w w1 [] y (.returned (.tuple #[.slice none 0 0, .int .i64 y]))) := ⟨none, 0, 0, rfl, Bk.IntsAt.nil _ _, Nat.le_refl _, bel_on (unhide HBX) hb1⟩
    clear hb1
    go_wp2
    go_ret2
    exact unhide HF

end Go.Proofs.YtmomfkikogbdeaaGreatDoor

/- The contract of turns. -/
namespace Go.Proofs.YtmomfkikogbdeaaGreatDoor
open Go.RowKit

def turnV (m i : Nat) : Value := .int .i64 (((i + 1) % m : Nat) : Int)

set_option maxRecDepth 10000 in
set_option maxHeartbeats 3200000 in
theorem turns_is (m : Nat) (w : World) (h0 : 0 < m) (hm : m ≤ 4) :
    Calls Tryz.prog 74 #[.int .i64 m] w fun e w' => e = .returned (.slice (some ⟨w.heap.size, 0, none⟩) m m) ∧ FillV w.heap.size 3 m (turnV m) w w' m := by
  obtain ⟨i0, hi, hz0, hz1, hz2⟩ := info_parts Tryz.infoInt
  go_enter Tryz.func74, Tryz.ntmps74
  go_wp2_with (at_make; refine wpList_make_full _ rfl _ _ 25 rfl w.heap.size 3 i0 (.int .i64 0) 1 Tryz.underlying25 hi hz0 hz1 .i64 .i64 _ _ m rfl rfl rfl rfl (by rw [hz2]; omega) (by unfold maxLen; omega) (Nat.le_refl _) ?_; intro w2 hown2 hgrow2)
  have hst : FillV w.heap.size 3 m (turnV m) w w2 0 := ⟨⟨_, hown2, fun j hj => absurd hj (by omega)⟩, (Below.refl _ _).grown hgrow2 (Nat.le_refl _) (fun k h => by cases h)⟩
  have HST := hide hst
  clear hst hown2 hgrow2
  go_loopw [8] (fun i wr => ∃ k : Nat, k ≤ m ∧ i = .int .i64 k ∧ FillV w.heap.size 3 m (turnV m) w wr k) (fun i _ => m - (intOf i).toNat)
  case atStart => exact ⟨0, Nat.zero_le _, rfl, unhide HST⟩
  case round =>
    obtain ⟨k, hk, rfl, hfl⟩ := hrel
    have HF := hide hfl
    by_cases hlt : k < m
    · obtain ⟨v, hold⟩ := hfl.old hlt
      have hfree := hfl.free k
      have hl3 := hfl.lt
      have hne : (m : Int) ≠ 0 := by omega
      have hmod : ((k : Int) + 1).tmod (m : Int) = (((k + 1) % m : Nat) : Int) := by
        rw [show ((k : Int) + 1) = ((k + 1 : Nat) : Int) by omega]
        rfl
      have hlm : (k + 1) % m < m := Nat.mod_lt _ h0
      obtain ⟨q, hq⟩ : ∃ q, (k + 1) % m = q := ⟨_, rfl⟩
      rw [hq] at hmod hlm
      have HQ := hide hq
      clear hfl hq
      go_wp2
      go_roundw
      case rel =>
        refine ⟨k + 1, by omega, by go_num, (unhide HF).step hlt ?_⟩
        unfold turnV
        rw [unhide HQ]
      case measure => simp [intOf]; omega
    · clear hfl
      have e : k = m := by omega
      subst e
      clear hk hlt
      go_wp2
      go_ret
      exact ⟨rfl, unhide HF⟩

end Go.Proofs.YtmomfkikogbdeaaGreatDoor

/- The contract of coin.Reward. -/
namespace Go.Proofs.YtmomfkikogbdeaaGreatDoor
open Go.RowKit

/-- What is made behind so many halvings. -/
def rwN : Nat → Nat
  | 0 => 64
  | n + 1 => rwN n / 2
theorem rwN_le : ∀ n, rwN n ≤ 64
  | 0 => Nat.le_refl _
  | n + 1 => by
    have := rwN_le n
    unfold rwN
    omega
/-- What Reward answers. -/
def rwD (h : Int) : Int × Int := if (decide (1 ≤ h) && decide (h ≤ 1000)) = true then ((rwN ((h - 1).toNat / 8) : Nat), 0) else (0, 3)

set_option maxRecDepth 10000 in
set_option maxHeartbeats 3200000 in
theorem reward_is (h r x : Int) (w : World) (hx : rwD h = (r, x)) :
    Calls Tryz.prog 83 #[.int .i64 h] w fun e w' => e = .returned (.tuple #[.int .i64 r, .int .i64 x]) ∧ Below w.heap.size w w' := by
  unfold rwD at hx
  cases q : (decide ((1 : Int) ≤ h) && decide (h ≤ 1000)) with
  | false =>
    rw [q, if_neg (by decide)] at hx
    injection hx with e1 e2
    subst e1 e2
    have CC := hide (within_bel h 1 1000 false w q)
    clear q
    go_enter Tryz.func83, Tryz.ntmps83
    go_wp2_with fail
    refine (unhide CC).mono ?_
    rintro e w1 ⟨rfl, hb1⟩
    have HB := hide hb1
    clear hb1
    go_wp2
    go_ret2
    exact ⟨rfl, unhide HB⟩
  | true =>
    rw [q, if_pos rfl] at hx
    injection hx with e1 e2
    subst e2
    have CC := hide (within_bel h 1 1000 true w q)
    rw [Bool.and_eq_true, decide_eq_true_eq, decide_eq_true_eq] at q
    obtain ⟨k, rfl⟩ : ∃ k : Nat, h = (k : Int) + 1 := ⟨(h - 1).toNat, by omega⟩
    have hk : k < 1000 := by omega
    rw [show (((k : Int) + 1 - 1).toNat) = k by omega] at e1
    obtain ⟨n, hn⟩ : ∃ n, k / 8 = n := ⟨_, rfl⟩
    have hq : ((k : Int)).tdiv 8 = (n : Int) := by rw [← hn]; rfl
    have hn2 : n ≤ 125 := by omega
    rw [hn] at e1
    have HR := hide e1
    clear q e1 hn
    go_enter Tryz.func83, Tryz.ntmps83
    go_wp2_with fail
    refine (unhide CC).mono ?_
    rintro e w1 ⟨rfl, hb1⟩
    have HB := hide hb1
    clear hb1
    go_wp2
    go_loopw [4, 11] (fun v i wr => ∃ j : Nat, j ≤ n ∧ v = .int .i64 (rwN j : Nat) ∧ i = .int .i64 j ∧ Hid (Below w.heap.size w wr)) (fun _ i _ => n - (intOf i).toNat)
    case atStart => exact ⟨0, Nat.zero_le _, rfl, rfl, HB⟩
    case round =>
      obtain ⟨j, hj, rfl, rfl, HBr⟩ := hrel
      have hle := rwN_le j
      by_cases hlt : j < n
      · have hd : ((rwN j : Nat) : Int).tdiv 2 = ((rwN (j + 1) : Nat) : Int) := rfl
        have hle2 := rwN_le (j + 1)
        obtain ⟨a, ha⟩ : ∃ a, rwN j = a := ⟨_, rfl⟩
        obtain ⟨b, hb⟩ : ∃ b, rwN (j + 1) = b := ⟨_, rfl⟩
        rw [ha, hb] at hd
        rw [ha] at hle
        rw [hb] at hle2
        rw [ha]
        have HBB := hide hb
        clear ha hb
        go_wp2
        go_roundw
        case rel => exact ⟨j + 1, by omega, by rw [unhide HBB], by go_num, HBr⟩
        case measure => simp [intOf]; omega
      · have e : j = n := by omega
        subst e
        go_wp2
        go_ret2
        exact ⟨by rw [unhide HR]; rfl, unhide HBr⟩

end Go.Proofs.YtmomfkikogbdeaaGreatDoor
