/- The contract of add. -/
import Derived.Test.YtepmnpapdknocaaGreatDoorBookAdd
import Derived.Deep.AppendLies
namespace Go.Proofs.YtepmnpapdknocaaGreatDoor.Bk
open Go.RowKit Go.Maps

set_option maxRecDepth 10000 in
set_option maxHeartbeats 1600000 in
theorem add_is (base p bm : Nat) (v : Value) (D : DataW Unit) (L : List ByteArray) (s : ByteArray) (w : World) (hW : Wr base p bm w v D L) (hL : L.length ≤ 120) (hs : s ∉ L) (hz : s.size ≤ 4000) :
    Calls Tryz.prog 106 #[.pointer (some ⟨p, 0, none⟩), .string s] w fun e w' => e = .returned (.int .i64 ((L.length : Int) + 1)) ∧ (∃ v' D', Wr base p bm w' v' D' (L ++ [s])) ∧ Below base w w' ∧ Far w w' := by
  obtain ⟨i0, hi, hz0, hz1, hz2⟩ := info_parts Tryz.info9
  have hpl := lt_of_block hW.box
  have hbase : base ≤ w.heap.size := Nat.le_trans hW.pge (Nat.le_of_lt hpl)
  obtain ⟨X, hX⟩ : ∃ X, X = w.alloc (.cells #[.string s] 9) := ⟨_, rfl⟩
  have hbX : Below w.heap.size w X := by rw [hX]; exact bel_new _ _
  have hXs : X.heap.size = w.heap.size + 1 := by rw [hX]; simp
  have hnew : X.heap[w.heap.size]? = some (.cells #[.string s] 9 (0, 0)) := by rw [hX]; exact heap_alloc_new _ _
  have WX := hW.keep hbX
  obtain ⟨c0, c1, cf⟩ := hW.cell0
  have NEWS := hide (World.news_of_block hnew)
  obtain ⟨a, cap, rfl, -, -, -, -⟩ := texts_of_own hW.own
  have OWN := hide WX.own
  have HW := hide WX
  have HL := hide hL
  have HS := hide hs
  have HZ := hide hz
  have HBX := hide hbX
  have HB := hide hbase
  have HXS := hide hXs
  clear WX hbX hnew hL hs hz hW hbase
  subst hX
  go_enter Tryz.func106, Tryz.ntmps106
  go_wp2_with (at_builtin; refine wpList_append_lies _ rfl _ _ 22 rfl base 9 i0 (.string ⟨#[]⟩) 1 16 Tryz.underlying22 hi hz0 hz1 hz2 rfl (by decide) _ _ _ rfl (unhide OWN) ⟨w.heap.size, 0, none⟩ 1 1 [.string s] rfl rfl (unhide NEWS) (fun u hu => by simp at hu; subst hu; rfl) (by decide) (by have := unhide HL; unfold maxLen; omega) (by have := unhide HL; omega) (by have := unhide HB; have := unhide HXS; omega) (w.heap.size + 1) (unhide HXS) ?_; intro g cap2 w3 hown3 hgrow3 hor3 hlt3; have M := (unhide HW).mid hown3 hgrow3; have hbox3 := (grow_type (unhide HW).own hgrow3 p _ _ (unhide HW).box (by decide)).trans (unhide HW).box; have d0 : w3.cell? ⟨p, 0, none⟩ = some (.slice a L.length cap) := (by simp [World.cell?, hbox3]); have df : w3.frozen? ⟨p, 0, none⟩ = false := (by simp [World.frozen?, hbox3]); have HM := hide M; clear M hbox3 hown3 hgrow3 hor3)
  obtain ⟨Y, hY⟩ : ∃ Y, Y = w3.setCell ⟨p, 0, none⟩ (.slice (some ⟨g, 0, none⟩) (L.length + 1) cap2) := ⟨_, rfl⟩
  rw [← hY] at HM ⊢
  have M := unhide HM
  have e0 : Y.cell? ⟨p, 0, none⟩ = some (.slice (some ⟨g, 0, none⟩) (L.length + 1) cap2) := by simp [World.cell?, M.box]
  have e1 : Y.cell? ⟨p, 1, none⟩ = some (.map (some bm)) := by simp [World.cell?, M.box]
  have hD : Y.drew.ownsMap Tryz.prog 9 (plainElem (H := Unit) Tryz.prog 3) bm L.length D := M.map.drew
  obtain ⟨w4, hrun, hown4, hg4⟩ := hD.update key9 Tryz.underlying122 (by have := unhide HL; unfold maxLen; omega) (Go.WideMaps.keyOf_string_mk Tryz.underlying9 (s := s) (by have := unhide HZ; unfold maxLen; omega)) (plainElem_int (H := Unit) Tryz.underlying3 (q := .i64) (a := (L.length : Int) + 1) (by have := unhide HL; simp [Lit.wf, IntKind.min, IntKind.max, IntKind.signed, IntKind.bits]; omega))
  have hg5 : Y.grownBy w4 (some bm) := ⟨hg4.1, hg4.2, hg4.3, hg4.4, hg4.5⟩
  have R := hide (M.wr (unhide HW).ism (unhide HW).pge (unhide HW).mge (unhide HS) (unhide HW).names hown4 hg5)
  obtain ⟨f0, f1, f2⟩ := (unhide R).1.cell0
  clear hY M hD hown4 hg4 hg5 d0 df
  go_region
  go_wp2
  go_ret
  exact ⟨rfl, ⟨_, _, (unhide R).1⟩, ((unhide HBX).mono (unhide HB)).trans (unhide R).2.1, (far_bel (unhide HBX)).trans (unhide R).2.2⟩

theorem lit_inj {a b : Int} (h : litN a = litN b) : a = b := by
  injection h with h
  injection h

/-- What the map tells of a text. -/
theorem Wr.look {base p bm : Nat} {w : World} {v : Value} {D : DataW Unit} {L : List ByteArray} (h : Wr base p bm w v D L) (s : ByteArray) (hs : s.size ≤ 4000) :
    Sem.run Tryz.prog (Instr.lookup 122 (.map (some bm)) (.string s) false) w = .ok (.int .i64 (place s L : Nat)) w := by
  obtain ⟨c, hrun, hat, _⟩ := h.map.lookup_int key9 Tryz.underlying122 Tryz.underlying3 (zero3 w) (Go.WideMaps.keyOf_string_mk Tryz.underlying9 (s := s) (by unfold maxLen; omega))
  have e : c = (place s L : Nat) := by
    have h2 := h.names s
    rw [h2] at hat
    exact (lit_inj hat).symm
  subst e
  exact hrun

set_option maxRecDepth 10000 in
set_option maxHeartbeats 1600000 in
theorem name_is (base p bm : Nat) (v : Value) (D : DataW Unit) (L M : List ByteArray) (s : ByteArray) (n e : Int) (w : World) (hW : Wr base p bm w v D L) (hL : L.length ≤ 120) (hn : nm L s = (M, n, e)) :
    Calls Tryz.prog 65 #[.pointer (some ⟨p, 0, none⟩), .string s] w fun x w' => x = .returned (.tuple #[.int .i64 n, .int .i64 e]) ∧ (e = 0 → ∃ v' D', Wr base p bm w' v' D' M) ∧ Below base w w' ∧ Far w w' := by
  obtain ⟨c0, c1, cf⟩ := hW.cell0
  have hW2 := hW
  obtain ⟨a, cap, rfl, -, -, -, -⟩ := texts_of_own hW.own
  have HW := hide hW2
  clear hW hW2
  by_cases h1 : 4000 < s.size
  · have e1 : nm L s = ([], 0, 2) := by unfold nm; rw [if_pos h1]
    rw [e1] at hn
    obtain ⟨rfl, hn2⟩ := Prod.mk.injEq .. ▸ hn
    obtain ⟨rfl, rfl⟩ := Prod.mk.injEq .. ▸ hn2
    have g : (4000 : Int) < (s.size : Int) := by omega
    clear hn hn2 e1 h1
    go_enter Tryz.func65, Tryz.ntmps65
    go_wp2
    go_ret2
    exact ⟨rfl, fun h => absurd h (by decide), Below.refl _ _, Far.refl _⟩
  · have hz : s.size ≤ 4000 := by omega
    have g : ¬ (4000 : Int) < (s.size : Int) := by omega
    have hrun := (unhide HW).look s hz
    by_cases h2 : place s L ≠ 0
    · have e1 : nm L s = (L, (place s L : Int), 0) := by unfold nm; rw [if_neg h1, if_pos h2]
      rw [e1] at hn
      obtain ⟨rfl, hn2⟩ := Prod.mk.injEq .. ▸ hn
      obtain ⟨rfl, rfl⟩ := Prod.mk.injEq .. ▸ hn2
      obtain ⟨q, hq⟩ : ∃ q, place s L = q := ⟨_, rfl⟩
      rw [hq] at hrun h2 ⊢
      have g2 : ((q : Int) != 0) = true := by simp; omega
      clear hn hn2 e1 h1 h2 hq
      go_enter Tryz.func65, Tryz.ntmps65
      go_wp2
      go_ret2
      first | exact ⟨rfl, fun _ => ⟨_, _, unhide HW⟩, Below.refl _ _, Far.refl _⟩ | exact ⟨rfl, ⟨_, _, unhide HW⟩, Below.refl _ _, Far.refl _⟩
    · have h3 : place s L = 0 := by omega
      rw [h3] at hrun
      by_cases h4 : 120 ≤ L.length
      · have e1 : nm L s = ([], 0, 12) := by unfold nm; rw [if_neg h1, if_neg h2, if_pos h4]
        rw [e1] at hn
        obtain ⟨rfl, hn2⟩ := Prod.mk.injEq .. ▸ hn
        obtain ⟨rfl, rfl⟩ := Prod.mk.injEq .. ▸ hn2
        have g2 : ((L.length : Int) == 120) = true := by simp; omega
        clear hn hn2 e1 h1 h2 h3 h4
        go_enter Tryz.func65, Tryz.ntmps65
        go_wp2
        go_ret2
        first | exact ⟨rfl, fun h => absurd h (by decide), Below.refl _ _, Far.refl _⟩ | exact ⟨rfl, Below.refl _ _, Far.refl _⟩
      · have e1 : nm L s = (L ++ [s], (L.length : Int) + 1, 0) := by unfold nm; rw [if_neg h1, if_neg h2, if_neg h4]
        rw [e1] at hn
        obtain ⟨rfl, hn2⟩ := Prod.mk.injEq .. ▸ hn
        obtain ⟨rfl, rfl⟩ := Prod.mk.injEq .. ▸ hn2
        have g2 : ((L.length : Int) == 120) = false := by simp; omega
        have A := hide (add_is base p bm _ D L s w (unhide HW) hL (place_zero.1 h3) hz)
        clear hn hn2 e1 h1 h2 h3 h4
        go_enter Tryz.func65, Tryz.ntmps65
        go_wp2_with fail
        refine (unhide A).mono ?_
        rintro x w2 ⟨rfl, hw2, hb2, hf2⟩
        have H2 := hide hw2
        have HB2 := hide hb2
        have HF2 := hide hf2
        clear hw2 hb2 hf2
        go_wp2
        go_ret2
        first | exact ⟨rfl, fun _ => unhide H2, unhide HB2, unhide HF2⟩ | exact ⟨rfl, unhide H2, unhide HB2, unhide HF2⟩

end Go.Proofs.YtepmnpapdknocaaGreatDoor.Bk
