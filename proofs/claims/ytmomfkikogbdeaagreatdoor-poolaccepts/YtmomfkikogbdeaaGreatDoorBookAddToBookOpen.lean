/- The writer of a book: its texts, their names; add. -/
import Derived.Test.YtmomfkikogbdeaaGreatDoorTxPrintBToBookBase
import Derived.Deep.AppendLies
namespace Go.Proofs.YtmomfkikogbdeaaGreatDoor.Bk
open Go.RowKit Go.Maps

abbrev keyS (s : ByteArray) : Lit := .string s.data.toList
abbrev litN (n : Int) : DataW Unit := .lit (.int .i64 n)

structure Wr (base p bm : Nat) (wr : World) (v : Value) (D : DataW Unit) (L : List ByteArray) : Prop where
  box : wr.heap[p]? = some (.cells #[v, .map (some bm)] 243 (0, 0))
  pge : base ≤ p
  mge : base ≤ bm
  own : wr.ownsRow base 9 1 v L.length (L.map Value.string)
  map : wr.ownsMap Tryz.prog 9 (plainElem (H := Unit) Tryz.prog 3) bm L.length D
  ism : IsMap D
  names : ∀ s : ByteArray, D.atKey (keyS s) (litN 0) = litN (place s L : Nat)

/-- Other rows than those of texts, and other boxes than the writer's, stay. -/
def Far (w w' : World) : Prop := ∀ (k : Nat) (cs : Array Value) (t : TypeId), w.heap[k]? = some (.cells cs t (0, 0)) → t ≠ 9 → t ≠ 243 → w'.heap[k]? = w.heap[k]?
theorem Far.refl (w : World) : Far w w := fun _ _ _ _ _ _ => rfl
theorem Far.trans {a b c : World} (h : Far a b) (g : Far b c) : Far a c := fun k cs t hk h1 h2 => (g k cs t ((h k cs t hk h1 h2).trans hk) h1 h2).trans (h k cs t hk h1 h2)
theorem far_bel {w w' : World} (h : Below w.heap.size w w') : Far w w' := fun k _ _ hk _ _ => h.block k (lt_of_block hk)

theorem Wr.keep {base p bm : Nat} {w w' : World} {v : Value} {D : DataW Unit} {L : List ByteArray} (h : Wr base p bm w v D L) (hb : Below w.heap.size w w') : Wr base p bm w' v D L := by
  refine ⟨(hb.block p (lt_of_block h.box)).trans h.box, h.pge, h.mge, own_type h.own (fun k cs _ hk => hb.block k (lt_of_block hk)), ?_, h.ism, h.names⟩
  obtain ⟨es, clock, h1, r⟩ := h.map
  exact ⟨es, clock, (hb.block bm (lt_of_block h1)).trans h1, r⟩
theorem Wr.cell0 {base p bm : Nat} {w : World} {v : Value} {D : DataW Unit} {L : List ByteArray} (h : Wr base p bm w v D L) : w.cell? ⟨p, 0, none⟩ = some v ∧ w.cell? ⟨p, 1, none⟩ = some (.map (some bm)) ∧ w.frozen? ⟨p, 0, none⟩ = false := by
  refine ⟨?_, ?_, ?_⟩
  · simp [World.cell?, h.box]
  · simp [World.cell?, h.box]
  · simp [World.frozen?, h.box]

theorem names_put {D : DataW Unit} {L : List ByteArray} {s : ByteArray} (hm : IsMap D) (h : ∀ s : ByteArray, D.atKey (keyS s) (litN 0) = litN (place s L : Nat)) (hs : s ∉ L) :
    ∀ x : ByteArray, (D.put (keyS s) (litN ((L.length : Int) + 1))).atKey (keyS x) (litN 0) = litN (place x (L ++ [s]) : Nat) := by
  intro x
  by_cases e : x = s
  · subst e
    rw [atKey_put_same hm (by simp [WideAt.IsKeyLit]), place_snoc hs]; simp
  · have hne : keyS x ≠ keyS s := by
      intro h2
      apply e
      have h3 : x.data.toList = s.data.toList := by injection h2
      have h4 : x.data = s.data := by rw [← Array.toList_inj]; exact h3
      cases x; cases s; simp_all
    rw [atKey_put_other hne, h x, place_other L e]

theorem block_setCell (w : World) (p : Nat) (x y v : Value) (t : TypeId) (h : w.heap[p]? = some (.cells #[x, y] t (0, 0))) : (w.setCell ⟨p, 0, none⟩ v).heap[p]? = some (.cells #[v, y] t (0, 0)) := by
  rw [heap_setCell_same w p 0 #[x, y] t v h]; rfl

/-- The row has grown and is laid into the box; the map is as it was. -/
structure Mid (base p bm : Nat) (X Y : World) (v : Value) (D : DataW Unit) (L : List ByteArray) (s : ByteArray) : Prop where
  box : Y.heap[p]? = some (.cells #[v, .map (some bm)] 243 (0, 0))
  own : Y.ownsRow base 9 1 v (L.length + 1) ((L ++ [s]).map Value.string)
  map : Y.ownsMap Tryz.prog 9 (plainElem (H := Unit) Tryz.prog 3) bm L.length D
  bel : Below base X Y
  far : Far X Y

theorem Wr.mid {base p bm : Nat} {X w3 : World} {v v3 : Value} {D : DataW Unit} {L : List ByteArray} {s : ByteArray} (h : Wr base p bm X v D L)
    (hown : w3.ownsRow base 9 1 v3 (L.length + 1) (L.map Value.string ++ [.string s])) (hg : X.grownBy w3 v.ownBlock) : Mid base p bm X (w3.setCell ⟨p, 0, none⟩ v3) v3 D L s := by
  have hpl := lt_of_block h.box
  have hbase : base ≤ X.heap.size := Nat.le_trans h.pge (Nat.le_of_lt hpl)
  have far : ∀ (k : Nat) (cs : Array Value) (t : TypeId), X.heap[k]? = some (.cells cs t (0, 0)) → t ≠ 9 → w3.heap[k]? = X.heap[k]? := fun k cs t hk ht => grow_type h.own hg k cs t hk ht
  have box3 : w3.heap[p]? = some (.cells #[v, .map (some bm)] 243 (0, 0)) := (far _ _ _ h.box (by decide)).trans h.box
  have far3 : ∀ (k : Nat), k ≠ p → (w3.setCell ⟨p, 0, none⟩ v3).heap[k]? = w3.heap[k]? := fun k hk => heap_setCell_other w3 ⟨p, 0, none⟩ k v3 hk
  refine ⟨block_setCell w3 p v _ v3 _ box3, ?_, ?_, ?_, ?_⟩
  · rw [List.map_append]
    refine own_type hown (fun k cs _ hk => far3 k (fun e => ?_))
    subst e
    rw [box3] at hk
    injection hk with hk
    injection hk with _ hk
    exact absurd hk (by decide)
  · obtain ⟨es, clock, h1, r⟩ := h.map
    have hne : some bm ≠ v.ownBlock := by
      intro e
      obtain ⟨_, ⟨rfl, _⟩ | ⟨g, cap, cur, rfl, _, hh, _⟩⟩ := h.own
      · cases e
      · have e2 : bm = g := by injection e
        subst e2
        rw [h1] at hh
        cases hh
    have h3 : w3.heap[bm]? = X.heap[bm]? := hg.block bm (lt_of_block h1) hne
    have hp : bm ≠ p := by
      intro e
      subst e
      rw [h.box] at h1
      cases h1
    exact ⟨es, clock, (far3 bm hp).trans (h3.trans h1), r⟩
  · exact ((Below.refl base X).grown hg hbase (fun k hk => own_ge h.own k hk)).setCell h.pge _
  · intro k cs t hk h9 h50
    have hp : k ≠ p := by
      intro e
      subst e
      rw [h.box] at hk
      injection hk with hk
      injection hk with _ hk
      exact h50 hk.symm
    exact (far3 k hp).trans (far k cs t hk h9)

theorem Mid.wr {base p bm : Nat} {X Y w4 : World} {v : Value} {D : DataW Unit} {L : List ByteArray} {s : ByteArray} (h : Mid base p bm X Y v D L s) (hm : IsMap D) (hp : base ≤ p) (hb : base ≤ bm) (hs : s ∉ L)
    (names : ∀ s : ByteArray, D.atKey (keyS s) (litN 0) = litN (place s L : Nat))
    (hown : w4.ownsMap Tryz.prog 9 (plainElem (H := Unit) Tryz.prog 3) bm (L.length + 1) (D.put (keyS s) (litN ((L.length : Int) + 1)))) (hg : Y.grownBy w4 (some bm)) :
    Wr base p bm w4 v (D.put (keyS s) (litN ((L.length : Int) + 1))) (L ++ [s]) ∧ Below base X w4 ∧ Far X w4 := by
  have kept : ∀ (k : Nat) (cs : Array Value) (t : TypeId), Y.heap[k]? = some (.cells cs t (0, 0)) → w4.heap[k]? = Y.heap[k]? := fun k cs t hk => hg.block k (lt_of_block hk) (fun e => by
    have e2 : k = bm := by injection e
    subst e2
    obtain ⟨es, clock, h1, _⟩ := h.map
    rw [h1] at hk
    cases hk)
  have hl : (L ++ [s]).length = L.length + 1 := by simp
  have hYs : base ≤ Y.heap.size := Nat.le_trans hp (Nat.le_of_lt (lt_of_block h.box))
  refine ⟨⟨(kept _ _ _ h.box).trans h.box, hp, hb, ?_, ?_, ?_, names_put hm names hs⟩, ?_, ?_⟩
  · rw [hl]; exact own_type h.own (fun k cs _ hk => kept k cs _ hk)
  · rw [hl]; exact hown
  · obtain ⟨es, rfl⟩ := hm
    exact ⟨_, rfl⟩
  · exact h.bel.trans ((Below.refl base Y).grown hg hYs (fun k hk => by injection hk with hk; omega))
  · exact fun k cs t hk h9 h50 => (kept k cs t ((h.far k cs t hk h9 h50).trans hk)).trans (h.far k cs t hk h9 h50)

end Go.Proofs.YtmomfkikogbdeaaGreatDoor.Bk

/- The contract of add. -/
namespace Go.Proofs.YtmomfkikogbdeaaGreatDoor.Bk
open Go.RowKit Go.Maps

set_option maxRecDepth 10000 in
set_option maxHeartbeats 1600000 in
theorem add_is (base p bm : Nat) (v : Value) (D : DataW Unit) (L : List ByteArray) (s : ByteArray) (w : World) (hW : Wr base p bm w v D L) (hL : L.length ≤ 120) (hs : s ∉ L) (hz : s.size ≤ 4000) :
    Calls Tryz.prog 195 #[.pointer (some ⟨p, 0, none⟩), .string s] w fun e w' => e = .returned (.int .i64 ((L.length : Int) + 1)) ∧ (∃ v' D', Wr base p bm w' v' D' (L ++ [s])) ∧ Below base w w' ∧ Far w w' := by
  obtain ⟨i0, hi, hz0, hz1, hz2⟩ := info_parts Tryz.info9
  have hpl := lt_of_block hW.box
  have hbase : base ≤ w.heap.size := Nat.le_trans hW.pge (Nat.le_of_lt hpl)
  obtain ⟨X, hX⟩ : ∃ X, X = w.alloc (.cells #[.string s] 9) := ⟨_, rfl⟩
  have hbX : Below w.heap.size w X := by rw [hX]; exact bel_new _ _
  have hXs : X.heap.size = w.heap.size + 1 := by rw [hX]; simp
  have hnew : X.heap[w.heap.size]? = some (.cells #[.string s] 9 (0, 0)) := by rw [hX]; exact heap_alloc_new _ _
  have WX := hW.keep hbX
  obtain ⟨c0, c1, cf⟩ := hW.cell0
  have NEWS := hide (World.news_of_block hnew)
  obtain ⟨a, cap, rfl, -, -, -, -⟩ := texts_of_own hW.own
  have OWN := hide WX.own
  have HW := hide WX
  have HL := hide hL
  have HS := hide hs
  have HZ := hide hz
  have HBX := hide hbX
  have HB := hide hbase
  have HXS := hide hXs
  clear WX hbX hnew hL hs hz hW hbase
  subst hX
  go_enter Tryz.func195, Tryz.ntmps195
  go_wp2_with (at_builtin; refine wpList_append_lies _ rfl _ _ 22 rfl base 9 i0 (.string ⟨#[]⟩) 1 16 Tryz.underlying22 hi hz0 hz1 hz2 rfl (by decide) _ _ _ rfl (unhide OWN) ⟨w.heap.size, 0, none⟩ 1 1 [.string s] rfl rfl (unhide NEWS) (fun u hu => by simp at hu; subst hu; rfl) (by decide) (by have := unhide HL; unfold maxLen; omega) (by have := unhide HL; omega) (by have := unhide HB; have := unhide HXS; omega) (w.heap.size + 1) (unhide HXS) ?_; intro g cap2 w3 hown3 hgrow3 hor3 hlt3; have M := (unhide HW).mid hown3 hgrow3; have hbox3 := (grow_type (unhide HW).own hgrow3 p _ _ (unhide HW).box (by decide)).trans (unhide HW).box; have d0 : w3.cell? ⟨p, 0, none⟩ = some (.slice a L.length cap) := (by simp [World.cell?, hbox3]); have df : w3.frozen? ⟨p, 0, none⟩ = false := (by simp [World.frozen?, hbox3]); have HM := hide M; clear M hbox3 hown3 hgrow3 hor3)
  obtain ⟨Y, hY⟩ : ∃ Y, Y = w3.setCell ⟨p, 0, none⟩ (.slice (some ⟨g, 0, none⟩) (L.length + 1) cap2) := ⟨_, rfl⟩
  rw [← hY] at HM ⊢
  have M := unhide HM
  have e0 : Y.cell? ⟨p, 0, none⟩ = some (.slice (some ⟨g, 0, none⟩) (L.length + 1) cap2) := by simp [World.cell?, M.box]
  have e1 : Y.cell? ⟨p, 1, none⟩ = some (.map (some bm)) := by simp [World.cell?, M.box]
  have hD : Y.drew.ownsMap Tryz.prog 9 (plainElem (H := Unit) Tryz.prog 3) bm L.length D := M.map.drew
  obtain ⟨w4, hrun, hown4, hg4⟩ := hD.update key9 Tryz.underlying241 (by have := unhide HL; unfold maxLen; omega) (Go.WideMaps.keyOf_string_mk Tryz.underlying9 (s := s) (by have := unhide HZ; unfold maxLen; omega)) (plainElem_int (H := Unit) Tryz.underlying3 (q := .i64) (a := (L.length : Int) + 1) (by have := unhide HL; simp [Lit.wf, IntKind.min, IntKind.max, IntKind.signed, IntKind.bits]; omega))
  have hg5 : Y.grownBy w4 (some bm) := ⟨hg4.1, hg4.2, hg4.3, hg4.4, hg4.5⟩
  have R := hide (M.wr (unhide HW).ism (unhide HW).pge (unhide HW).mge (unhide HS) (unhide HW).names hown4 hg5)
  obtain ⟨f0, f1, f2⟩ := (unhide R).1.cell0
  clear hY M hD hown4 hg4 hg5 d0 df
  go_region
  go_wp2
  go_ret
  exact ⟨rfl, ⟨_, _, (unhide R).1⟩, ((unhide HBX).mono (unhide HB)).trans (unhide R).2.1, (far_bel (unhide HBX)).trans (unhide R).2.2⟩

theorem lit_inj {a b : Int} (h : litN a = litN b) : a = b := by
  injection h with h
  injection h

/-- What the map tells of a text. -/
theorem Wr.look {base p bm : Nat} {w : World} {v : Value} {D : DataW Unit} {L : List ByteArray} (h : Wr base p bm w v D L) (s : ByteArray) (hs : s.size ≤ 4000) :
    Sem.run Tryz.prog (Instr.lookup 241 (.map (some bm)) (.string s) false) w = .ok (.int .i64 (place s L : Nat)) w := by
  obtain ⟨c, hrun, hat, _⟩ := h.map.lookup_int key9 Tryz.underlying241 Tryz.underlying3 (zero3 w) (Go.WideMaps.keyOf_string_mk Tryz.underlying9 (s := s) (by unfold maxLen; omega))
  have e : c = (place s L : Nat) := by
    have h2 := h.names s
    rw [h2] at hat
    exact (lit_inj hat).symm
  subst e
  exact hrun

set_option maxRecDepth 10000 in
set_option maxHeartbeats 1600000 in
theorem name_is (base p bm : Nat) (v : Value) (D : DataW Unit) (L M : List ByteArray) (s : ByteArray) (n e : Int) (w : World) (hW : Wr base p bm w v D L) (hL : L.length ≤ 120) (hn : nm L s = (M, n, e)) :
    Calls Tryz.prog 154 #[.pointer (some ⟨p, 0, none⟩), .string s] w fun x w' => x = .returned (.tuple #[.int .i64 n, .int .i64 e]) ∧ (e = 0 → ∃ v' D', Wr base p bm w' v' D' M) ∧ Below base w w' ∧ Far w w' := by
  obtain ⟨c0, c1, cf⟩ := hW.cell0
  have hW2 := hW
  obtain ⟨a, cap, rfl, -, -, -, -⟩ := texts_of_own hW.own
  have HW := hide hW2
  clear hW hW2
  by_cases h1 : 4000 < s.size
  · have e1 : nm L s = ([], 0, 2) := by unfold nm; rw [if_pos h1]
    rw [e1] at hn
    obtain ⟨rfl, hn2⟩ := Prod.mk.injEq .. ▸ hn
    obtain ⟨rfl, rfl⟩ := Prod.mk.injEq .. ▸ hn2
    have g : (4000 : Int) < (s.size : Int) := by omega
    clear hn hn2 e1 h1
    go_enter Tryz.func154, Tryz.ntmps154
    go_wp2
    go_ret2
    exact ⟨rfl, fun h => absurd h (by decide), Below.refl _ _, Far.refl _⟩
  · have hz : s.size ≤ 4000 := by omega
    have g : ¬ (4000 : Int) < (s.size : Int) := by omega
    have hrun := (unhide HW).look s hz
    by_cases h2 : place s L ≠ 0
    · have e1 : nm L s = (L, (place s L : Int), 0) := by unfold nm; rw [if_neg h1, if_pos h2]
      rw [e1] at hn
      obtain ⟨rfl, hn2⟩ := Prod.mk.injEq .. ▸ hn
      obtain ⟨rfl, rfl⟩ := Prod.mk.injEq .. ▸ hn2
      obtain ⟨q, hq⟩ : ∃ q, place s L = q := ⟨_, rfl⟩
      rw [hq] at hrun h2 ⊢
      have g2 : ((q : Int) != 0) = true := by simp; omega
      clear hn hn2 e1 h1 h2 hq
      go_enter Tryz.func154, Tryz.ntmps154
      go_wp2
      go_ret2
      first | exact ⟨rfl, fun _ => ⟨_, _, unhide HW⟩, Below.refl _ _, Far.refl _⟩ | exact ⟨rfl, ⟨_, _, unhide HW⟩, Below.refl _ _, Far.refl _⟩
    · have h3 : place s L = 0 := by omega
      rw [h3] at hrun
      by_cases h4 : 120 ≤ L.length
      · have e1 : nm L s = ([], 0, 12) := by unfold nm; rw [if_neg h1, if_neg h2, if_pos h4]
        rw [e1] at hn
        obtain ⟨rfl, hn2⟩ := Prod.mk.injEq .. ▸ hn
        obtain ⟨rfl, rfl⟩ := Prod.mk.injEq .. ▸ hn2
        have g2 : ((L.length : Int) == 120) = true := by simp; omega
        clear hn hn2 e1 h1 h2 h3 h4
        go_enter Tryz.func154, Tryz.ntmps154
        go_wp2
        go_ret2
        first | exact ⟨rfl, fun h => absurd h (by decide), Below.refl _ _, Far.refl _⟩ | exact ⟨rfl, Below.refl _ _, Far.refl _⟩
      · have e1 : nm L s = (L ++ [s], (L.length : Int) + 1, 0) := by unfold nm; rw [if_neg h1, if_neg h2, if_neg h4]
        rw [e1] at hn
        obtain ⟨rfl, hn2⟩ := Prod.mk.injEq .. ▸ hn
        obtain ⟨rfl, rfl⟩ := Prod.mk.injEq .. ▸ hn2
        have g2 : ((L.length : Int) == 120) = false := by simp; omega
        have A := hide (add_is base p bm _ D L s w (unhide HW) hL (place_zero.1 h3) hz)
        clear hn hn2 e1 h1 h2 h3 h4
        go_enter Tryz.func154, Tryz.ntmps154
        go_wp2_with fail
        refine (unhide A).mono ?_
        rintro x w2 ⟨rfl, hw2, hb2, hf2⟩
        have H2 := hide hw2
        have HB2 := hide hb2
        have HF2 := hide hf2
        clear hw2 hb2 hf2
        go_wp2
        go_ret2
        first | exact ⟨rfl, fun _ => unhide H2, unhide HB2, unhide HF2⟩ | exact ⟨rfl, unhide H2, unhide HB2, unhide HF2⟩

end Go.Proofs.YtmomfkikogbdeaaGreatDoor.Bk

/- The contract of open. -/
namespace Go.Proofs.YtmomfkikogbdeaaGreatDoor.Bk
open Go.RowKit Go.Maps

theorem make_sized (n : Int) (w : World) : (Instr.makeMap 241 (some (.int .i64 n))).run Tryz.prog w = .ok (.map (some w.heap.size)) (w.alloc (.map #[] 0)) := by kernel_rfl

/-- The writer of no texts. -/
theorem wr_new (w : World) (base : Nat) (hb : base ≤ w.heap.size) : Wr base (w.heap.size + 1) w.heap.size ((w.alloc (.map #[] 0)).alloc (.cells #[.slice none 0 0, .map (some w.heap.size)] 243)) (.slice none 0 0) (.map []) [] := by
  have e : (w.alloc (.map #[] 0)).heap.size = w.heap.size + 1 := by simp
  refine ⟨?_, by omega, hb, ⟨rfl, Or.inl ⟨rfl, rfl⟩⟩, ?_, ⟨[], rfl⟩, fun s => rfl⟩
  · have := heap_alloc_new (w.alloc (.map #[] 0)) (.cells #[.slice none 0 0, .map (some w.heap.size)] 243)
    rw [e] at this
    exact this
  · exact (World.ownsMap_made w Tryz.prog 9 (plainElem (H := Unit) Tryz.prog 3)).alloc _

set_option maxRecDepth 10000 in
set_option maxHeartbeats 3200000 in
theorem open_some (b off n c : Nat) (L : List ByteArray) (w : World) (hz : L.length = n) (h0 : 0 < n) (h1 : n ≤ 120) (hb : b < w.heap.size) (hc : ∀ i (h : i < L.length), w.cell? ⟨b, off + i, none⟩ = some (.string L[i])) (x : Int) (hx : bkGo [] L = x) :
    Calls Tryz.prog 133 #[.agg #[.slice (some ⟨b, off, none⟩) n c]] w fun e w' => ∃ v, e = .returned (.tuple #[v, .int .i64 x]) ∧ (x = 0 → ∃ p bm v' D', v = .pointer (some ⟨p, 0, none⟩) ∧ Wr w.heap.size p bm w' v' D' L) ∧ Below w.heap.size w w' := by
  have hb1 := bel_new w (.cells #[.slice (some ⟨b, off, none⟩) n c] 24)
  have hs1 : (w.alloc (.cells #[.slice (some ⟨b, off, none⟩) n c] 24)).heap.size = w.heap.size + 1 := by simp
  have W0 := wr_new (w.alloc (.cells #[.slice (some ⟨b, off, none⟩) n c] 24)) w.heap.size (by omega)
  rw [hs1] at W0
  obtain ⟨X, hX⟩ : ∃ X, X = ((w.alloc (.cells #[.slice (some ⟨b, off, none⟩) n c] 24)).alloc (.map #[] 0)).alloc (.cells #[.slice none 0 0, .map (some (w.heap.size + 1))] 243) := ⟨_, rfl⟩
  have hbX : Below w.heap.size w X := by
    rw [hX]
    exact bel_on (bel_on hb1 (bel_new _ _)) (bel_new _ _)
  have cX : X.cell? ⟨w.heap.size, 0, none⟩ = some (.slice (some ⟨b, off, none⟩) n c) := by
    rw [hX]
    exact cell_later (bel_on (bel_new _ _) (bel_new _ _)) (one_new w (.slice (some ⟨b, off, none⟩) n c) 24)
  rw [← hX] at W0
  have HW0 := hide W0
  have HBX := hide hbX
  have HC := hide hc
  have HZ := hide hz
  have HX := hide hx
  have hmm := make_sized
  have g : ¬ (120 : Int) < (n : Int) := by omega
  clear W0 hbX hc hz hx hb1 hs1
  go_enter Tryz.func133, Tryz.ntmps133
  go_wp2
  rw [← hX]
  clear hX
  go_loopw [20] (fun i wr => ∃ j : Nat, j ≤ n ∧ i = .int .i64 j ∧ Below w.heap.size w wr ∧ (∃ v D, Hid (Wr w.heap.size (w.heap.size + 2) (w.heap.size + 1) wr v D (L.take j))) ∧ Hid (bkGo (L.take j) (L.drop j) = x)) (fun i _ => n - (intOf i).toNat)
  case atStart => exact ⟨0, Nat.zero_le _, rfl, unhide HBX, ⟨_, _, HW0⟩, unhide HX⟩
  case round =>
    obtain ⟨j, hk, rfl, hbw, ⟨v, D, HW⟩, A⟩ := hrel
    have HB := hide hbw
    by_cases hlt : j < n
    · have hlj : j < L.length := by rw [unhide HZ]; exact hlt
      have f := (World.cell?_of_block (hbw.block b hb)).trans ((unhide HC) j hlj)
      have hlb : b < wr.heap.size := Nat.lt_of_lt_of_le hb hbw.size
      obtain ⟨c0, c1, cf⟩ := (unhide HW).cell0
      have S := bk_at hlj
      rw [unhide A] at S
      have hl1 : (L.take j).length = j := by rw [List.length_take]; omega
      have TK := hide (List.take_succ_eq_append_getElem hlj)
      obtain ⟨s, hs⟩ : ∃ s, L[j] = s := ⟨_, rfl⟩
      rw [hs] at f S TK
      clear hs hbw A
      by_cases h2 : 4000 < s.size
      · rw [if_pos h2] at S
        subst S
        have g2 : (4000 : Int) < (s.size : Int) := by omega
        clear h2
        go_wp2
        go_ret2
        first | exact ⟨_, rfl, fun h => absurd h (by decide), unhide HB⟩ | exact ⟨⟨_, rfl⟩, unhide HB⟩
      · rw [if_neg h2] at S
        have g2 : ¬ (4000 : Int) < (s.size : Int) := by omega
        have hz : s.size ≤ 4000 := by omega
        have hrun := (unhide HW).look s hz
        by_cases h3 : place s (L.take j) ≠ 0
        · rw [if_pos h3] at S
          subst S
          obtain ⟨q, hq⟩ : ∃ q, place s (L.take j) = q := ⟨_, rfl⟩
          rw [hq] at hrun h3
          have g3 : ((q : Int) != 0) = true := by simp; omega
          clear h2 h3 hq
          go_wp2
          go_ret2
          first | exact ⟨_, rfl, fun h => absurd h (by decide), unhide HB⟩ | exact ⟨⟨_, rfl⟩, unhide HB⟩
        · rw [if_neg h3] at S
          have h4 : place s (L.take j) = 0 := by omega
          rw [h4] at hrun
          have AD := hide (add_is w.heap.size (w.heap.size + 2) (w.heap.size + 1) v D (L.take j) s wr (unhide HW) (by omega) (place_zero.1 h4) hz)
          have HS : Hid (bkGo (L.take (j + 1)) (L.drop (j + 1)) = x) := S.symm
          clear h2 h3 h4 S
          go_wp2_with fail
          refine (unhide AD).mono ?_
          rintro e w2 ⟨rfl, hw2, hb2, hf2⟩
          have H2 := hide hw2
          have HB2 := hide ((unhide HB).trans hb2)
          clear hw2 hb2 hf2
          go_wp2
          go_roundw
          case rel =>
            obtain ⟨v', D', hw'⟩ := unhide H2
            exact ⟨j + 1, by omega, by go_num, unhide HB2, ⟨v', D', by rw [unhide TK]; exact hw'⟩, HS⟩
          case measure => simp [intOf]; omega
    · have R : Hid (x = 0) := by show _ = _; rw [← unhide A]; exact bk_end (by rw [unhide HZ]; omega)
      have HW2 : Hid (∃ v' D', Wr w.heap.size (w.heap.size + 2) (w.heap.size + 1) wr v' D' L) := ⟨v, D, by have := unhide HW; rw [List.take_of_length_le (by rw [unhide HZ]; omega)] at this; exact this⟩
      clear A hbw HW
      go_wp2
      go_ret2
      refine ⟨.pointer (some ⟨w.heap.size + 2, 0, none⟩), ?_, fun _ => ?_, unhide HB⟩
      · rw [unhide R]; rfl
      · obtain ⟨v', D', hw'⟩ := unhide HW2
        exact ⟨_, _, v', D', rfl, hw'⟩

set_option maxRecDepth 10000 in
set_option maxHeartbeats 1600000 in
theorem open_is (a : Option Addr) (n c : Nat) (L : List ByteArray) (w : World) (h : TextsAt w a n L) (x : Int) (hx : bkChk L = x) :
    Calls Tryz.prog 133 #[.agg #[.slice a n c]] w fun e w' => ∃ v, e = .returned (.tuple #[v, .int .i64 x]) ∧ (x = 0 → ∃ p bm v' D', v = .pointer (some ⟨p, 0, none⟩) ∧ Wr w.heap.size p bm w' v' D' L) ∧ Below w.heap.size w w' := by
  have hz := h.1
  by_cases h1 : 120 < n
  · have e : x = 2 := by rw [← hx]; unfold bkChk; rw [if_pos (by omega)]
    subst e
    have g : (120 : Int) < (n : Int) := by omega
    have HB := hide (bel_new w (.cells #[.slice a n c] 24))
    clear h hx h1 hz
    go_enter Tryz.func133, Tryz.ntmps133
    go_wp2
    go_ret2
    first | exact ⟨_, rfl, fun h => absurd h (by decide), unhide HB⟩ | exact ⟨⟨_, rfl⟩, unhide HB⟩
  · have hx2 : bkGo [] L = x := by rw [← hx]; unfold bkChk; rw [if_neg (by omega)]
    by_cases h0 : n = 0
    · subst h0
      have e : L = [] := List.length_eq_zero_iff.1 hz
      subst e
      have e : x = 0 := by rw [← hx2]; rfl
      subst e
      have hs1 : (w.alloc (.cells #[.slice a 0 c] 24)).heap.size = w.heap.size + 1 := by simp
      have W0 := wr_new (w.alloc (.cells #[.slice a 0 c] 24)) w.heap.size (by omega)
      rw [hs1] at W0
      have HW0 := hide W0
      have HB := hide (bel_on (bel_on (bel_new w (.cells #[.slice a 0 c] 24)) (bel_new _ (.map #[] 0))) (bel_new _ (.cells #[.slice none 0 0, .map (some (w.heap.size + 1))] 243)))
      have hmm := make_sized
      clear h hx h1 hz hx2 hs1 W0
      go_enter Tryz.func133, Tryz.ntmps133
      go_wp2
      refine wp_loop_rounds 1 ?_
      rw [rounds_succ]
      go_wp2
      go_ret2
      refine ⟨_, rfl, fun _ => ⟨_, _, _, _, rfl, unhide HW0⟩, unhide HB⟩
    · obtain ⟨b, off, rfl, hc⟩ := h.2 (by omega)
      exact open_some b off n c L w hz (by omega) (by omega) (World.block_lt_of_cell? _ _ (hc 0 (by omega))) hc x hx2

end Go.Proofs.YtmomfkikogbdeaaGreatDoor.Bk
