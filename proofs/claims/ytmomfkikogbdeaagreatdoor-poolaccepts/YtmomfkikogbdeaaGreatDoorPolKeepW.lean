/- The functions that keep what stays: Sweep's, Accept's, Make's (written by a program of ours: mkkeep.py). -/
import Derived.Test.YtmomfkikogbdeaaGreatDoorPolSwToPolKeep
namespace Go.Proofs.YtmomfkikogbdeaaGreatDoor
open Go.RowKit

def FeI (w : World) (b : Nat) (F : Int) : Prop := w.heap[b]? = some (.cells #[.int .i64 F] 3 (0, 0))

set_option maxRecDepth 10000 in
set_option maxHeartbeats 3200000 in
theorem sweep1_is (b b2 p : Nat) (va : Option Addr) (vc : Nat) (K : List (List Value)) (L : List TxD) (fee : Int) (u0 u1 u2 : Value) (t : TxD) (wA w : World) (h : St b p wA (.slice va L.length vc) K L) (F : Int) (h2 : FeI wA b2 F) (hne : b ≠ b2) (hb2 : b2 < p) (f1 : 0 ≤ F) (f2 : F ≤ 1000000000) (f3 : 0 ≤ fee) (f4 : fee ≤ 1000000000) (hb : Below wA.heap.size wA w) (hF : Fresh wA.heap.size w (fun w2 => Tr.txR.C w2 [u0, u1, u2] t)) (hl : L.length < 8) :
    Calls Tryz.prog 79 (#[.agg #[u0, u1, u2], .int .i64 fee] ++ #[.pointer (some ⟨b, 0, none⟩), .pointer (some ⟨b2, 0, none⟩)]) w fun e w' => e = .returned (.tuple #[]) ∧ (∃ v', ∃ K', St b p w' v' K' (L ++ [t]) ∧ FeI w' b2 (F + fee)) ∧ Gr w w' (fun q => (q = b ∨ q = b2) ∨ (Value.slice va L.length vc).ownBlock = some q) := by
  obtain ⟨i0, hi, hz0, hz1, hz2⟩ := info_parts Tryz.infoTx9
  obtain ⟨ai, ni, ci, ao, no, co, e, _⟩ := hF w (Gr.refl _ _)
  simp only [List.cons.injEq, and_true] at e
  obtain ⟨rfl, rfl, rfl⟩ := e
  obtain ⟨U, hU⟩ : ∃ U, U = (w.alloc (.cells #[.int .i64 t.1, .slice ai ni ci, .slice ao no co] 59)).alloc (.cells #[.int .i64 t.1, .slice ai ni ci, .slice ao no co] 59) := ⟨_, rfl⟩
  have hbU : Below w.heap.size w U := by rw [hU]; exact bel_on (bel_new _ _) (bel_new _ _)
  have hU1 : U.heap[w.heap.size + 1]? = some (.cells #[.int .i64 t.1, .slice ai ni ci, .slice ao no co] 59 (0, 0)) := by
    rw [hU]
    have := three_heap (w.alloc (.cells #[.int .i64 t.1, .slice ai ni ci, .slice ao no co] 59)) (.int .i64 t.1) (.slice ai ni ci) (.slice ao no co) 59
    rw [show (w.alloc (.cells #[.int .i64 t.1, .slice ai ni ci, .slice ao no co] 59)).heap.size = w.heap.size + 1 by simp] at this
    exact this
  have hUs : U.heap.size = w.heap.size + 2 := by rw [hU]; simp
  have hbp := h.bp
  have hpl := h.pl
  have hsz := hb.size
  have hAU := bel_on hb hbU
  have OWNU : U.ownsRow (p + 1) 59 3 (.slice va L.length vc) L.length K.flatten := (Gr.of (S := fun _ => False) hAU).own h.own (fun _ _ q => q)
  have bxw := (hb.block b (by omega)).trans h.box
  have bxU := (hAU.block b (by omega)).trans h.box
  have b0 := cell_of bxw 0 _ rfl
  have bl : b < w.heap.size := lt_of_block bxw
  have fxU := (hAU.block b2 (by omega)).trans h2
  have NEWR : Hid (∀ j u, [Value.int .i64 t.1, .slice ai ni ci, .slice ao no co][j]? = some u → World.cell? ((w.alloc (.cells #[.int .i64 t.1, .slice ai ni ci, .slice ao no co] 59)).alloc (.cells #[.int .i64 t.1, .slice ai ni ci, .slice ao no co] 59)) ((⟨w.heap.size + 1, 0, none⟩ : Addr).add j) = some u) := by rw [← hU]; exact World.news_of_block hU1
  have OWNR : Hid (World.ownsRow ((w.alloc (.cells #[.int .i64 t.1, .slice ai ni ci, .slice ao no co] 59)).alloc (.cells #[.int .i64 t.1, .slice ai ni ci, .slice ao no co] 59)) (p + 1) 59 3 (.slice va L.length vc) L.length K.flatten) := by rw [← hU]; exact OWNU
  have SZR : p + 1 ≤ ((w.alloc (.cells #[.int .i64 t.1, .slice ai ni ci, .slice ao no co] 59)).alloc (.cells #[.int .i64 t.1, .slice ai ni ci, .slice ao no co] 59)).heap.size := by rw [← hU]; omega
  have HNB : Hid (∀ q, q ≤ p → (Value.slice va L.length vc).ownBlock ≠ some q) := fun q hq e => by have := (h.own.lt q e).1; omega
  have HH := hide h
  have HBW := hide hb
  have HFF := hide hF
  have HBU := hide hbU
  have BXU := hide bxU
  have HLL := hide hl
  obtain ⟨n, hn⟩ : ∃ n, L.length = n := ⟨_, rfl⟩
  have FXU := hide fxU
  have fw : w.cell? ⟨b2, 0, none⟩ = some (.int .i64 F) := cell_of ((hb.block b2 (by omega)).trans h2) 0 _ rfl
  have HN := hide hn
  rw [hn] at OWNR HLL b0 HNB BXU HH bxU
  simp only [hn]
  clear h hb hF hbU hU1 OWNU bxw hAU hpl hsz hn hl h2 fxU
  go_enter Tryz.func79, Tryz.ntmps79
  go_wp2_with (at_builtin; refine wpList_append_lies _ rfl _ _ 37 rfl (p + 1) 59 i0 (.agg #[.int .i64 0, .slice none 0 0, .slice none 0 0]) 3 56 Tryz.underlying37 hi hz0 hz1 hz2 rfl (by decide) _ _ _ rfl (unhide OWNR) ⟨w.heap.size + 1, 0, none⟩ 1 1 [.int .i64 t.1, .slice ai ni ci, .slice ao no co] rfl rfl (unhide NEWR) (fun u hu => by simp at hu; rcases hu with rfl | rfl | rfl <;> rfl) (by decide) (by have := unhide HLL; unfold maxLen; omega) (by have := unhide HLL; omega) SZR _ rfl ?_; intro g7 cap7 w7 hown7 hgrow7 hor7 _; rw [← hU] at hgrow7 hor7; have hx7 := (hgrow7.block b (lt_of_block (unhide BXU)) (fun e => (unhide HNB) b (by omega) e.symm)).trans (unhide BXU); have HX7 := hide hx7; have HO7 := hide hown7; have HG7 := hide hgrow7; have HOR7 := hide hor7; have yy0 := cell_of hx7 0 _ rfl; have yyl := lt_of_block hx7; have yyf := frozen_of hx7 0; have hf7 := (hgrow7.block b2 (lt_of_block (unhide FXU)) (fun e => (unhide HNB) b2 (by omega) e.symm)).trans (unhide FXU); have HF7 := hide hf7; have ff0 := cell_of hf7 0 _ rfl; have ffl := lt_of_block hf7; have fff := frozen_of hf7 0; clear hf7; clear hx7 hown7 hgrow7 hor7)
  have PU := St.push (v' := .slice (some ⟨g7, 0, none⟩) (n + 1) cap7) (unhide HH) (unhide HBW) (unhide HFF) (unhide HBU) (unhide HG7) (by rw [unhide HN]; exact unhide HO7) (by
    rcases unhide HOR7 with q | q
    · exact .inl q
    · exact .inr ⟨g7, rfl, by omega⟩)
  have g9 : Gr (w7.setCell ⟨b, 0, none⟩ (.slice (some ⟨g7, 0, none⟩) (n + 1) cap7)) ((w7.setCell ⟨b, 0, none⟩ (.slice (some ⟨g7, 0, none⟩) (n + 1) cap7)).setCell ⟨b2, 0, none⟩ (.int .i64 (F + fee))) (fun q => q = b2) := (Gr.refl _ (fun q => q = b2)).one b2 0 (.inl rfl) _
  have R1 := hide (PU.1.on g9 (fun q e => by subst e; exact ⟨by omega, fun q => hne q.symm⟩))
  have R2 : Hid (FeI ((w7.setCell ⟨b, 0, none⟩ (.slice (some ⟨g7, 0, none⟩) (n + 1) cap7)).setCell ⟨b2, 0, none⟩ (.int .i64 (F + fee))) b2 (F + fee)) := box_set ((heap_setCell_other w7 ⟨b, 0, none⟩ b2 _ (fun e => hne e.symm)).trans (unhide HF7))
  have R3 : Hid (Gr w ((w7.setCell ⟨b, 0, none⟩ (.slice (some ⟨g7, 0, none⟩) (n + 1) cap7)).setCell ⟨b2, 0, none⟩ (.int .i64 (F + fee))) (fun q => (q = b ∨ q = b2) ∨ (Value.slice va n vc).ownBlock = some q)) := (PU.2.mono (fun q _ e => e.elim (fun e => .inl (.inl e)) .inr)).trans (g9.mono (fun q _ e => .inl (.inr e)))
  clear PU g9
  (try go_wp2)
  ((try simp only [Exit.inBlock, Exit.then]); first | refine bodyPost_end (results_none rfl _ _ _) rfl ?_ | refine bodyPost_ret (results_none rfl _ _ _) rfl ?_)
  exact ⟨rfl, ⟨_, _, unhide R1, unhide R2⟩, unhide R3⟩

set_option maxRecDepth 10000 in
set_option maxHeartbeats 3200000 in
theorem accept1_is (b p : Nat) (va : Option Addr) (vc : Nat) (K : List (List Value)) (L : List TxD) (fee : Int) (u0 u1 u2 : Value) (t : TxD) (wA w : World) (h : St b p wA (.slice va L.length vc) K L) (hb : Below wA.heap.size wA w) (hF : Fresh wA.heap.size w (fun w2 => Tr.txR.C w2 [u0, u1, u2] t)) (hl : L.length < 8) :
    Calls Tryz.prog 88 (#[.agg #[u0, u1, u2], .int .i64 fee] ++ #[.pointer (some ⟨b, 0, none⟩)]) w fun e w' => e = .returned (.tuple #[]) ∧ (∃ v', ∃ K', St b p w' v' K' (L ++ [t])) ∧ Gr w w' (fun q => q = b ∨ (Value.slice va L.length vc).ownBlock = some q) := by
  obtain ⟨i0, hi, hz0, hz1, hz2⟩ := info_parts Tryz.infoTx9
  obtain ⟨ai, ni, ci, ao, no, co, e, _⟩ := hF w (Gr.refl _ _)
  simp only [List.cons.injEq, and_true] at e
  obtain ⟨rfl, rfl, rfl⟩ := e
  obtain ⟨U, hU⟩ : ∃ U, U = (w.alloc (.cells #[.int .i64 t.1, .slice ai ni ci, .slice ao no co] 59)).alloc (.cells #[.int .i64 t.1, .slice ai ni ci, .slice ao no co] 59) := ⟨_, rfl⟩
  have hbU : Below w.heap.size w U := by rw [hU]; exact bel_on (bel_new _ _) (bel_new _ _)
  have hU1 : U.heap[w.heap.size + 1]? = some (.cells #[.int .i64 t.1, .slice ai ni ci, .slice ao no co] 59 (0, 0)) := by
    rw [hU]
    have := three_heap (w.alloc (.cells #[.int .i64 t.1, .slice ai ni ci, .slice ao no co] 59)) (.int .i64 t.1) (.slice ai ni ci) (.slice ao no co) 59
    rw [show (w.alloc (.cells #[.int .i64 t.1, .slice ai ni ci, .slice ao no co] 59)).heap.size = w.heap.size + 1 by simp] at this
    exact this
  have hUs : U.heap.size = w.heap.size + 2 := by rw [hU]; simp
  have hbp := h.bp
  have hpl := h.pl
  have hsz := hb.size
  have hAU := bel_on hb hbU
  have OWNU : U.ownsRow (p + 1) 59 3 (.slice va L.length vc) L.length K.flatten := (Gr.of (S := fun _ => False) hAU).own h.own (fun _ _ q => q)
  have bxw := (hb.block b (by omega)).trans h.box
  have bxU := (hAU.block b (by omega)).trans h.box
  have b0 := cell_of bxw 0 _ rfl
  have bl : b < w.heap.size := lt_of_block bxw
  have NEWR : Hid (∀ j u, [Value.int .i64 t.1, .slice ai ni ci, .slice ao no co][j]? = some u → World.cell? ((w.alloc (.cells #[.int .i64 t.1, .slice ai ni ci, .slice ao no co] 59)).alloc (.cells #[.int .i64 t.1, .slice ai ni ci, .slice ao no co] 59)) ((⟨w.heap.size + 1, 0, none⟩ : Addr).add j) = some u) := by rw [← hU]; exact World.news_of_block hU1
  have OWNR : Hid (World.ownsRow ((w.alloc (.cells #[.int .i64 t.1, .slice ai ni ci, .slice ao no co] 59)).alloc (.cells #[.int .i64 t.1, .slice ai ni ci, .slice ao no co] 59)) (p + 1) 59 3 (.slice va L.length vc) L.length K.flatten) := by rw [← hU]; exact OWNU
  have SZR : p + 1 ≤ ((w.alloc (.cells #[.int .i64 t.1, .slice ai ni ci, .slice ao no co] 59)).alloc (.cells #[.int .i64 t.1, .slice ai ni ci, .slice ao no co] 59)).heap.size := by rw [← hU]; omega
  have HNB : Hid (∀ q, q ≤ p → (Value.slice va L.length vc).ownBlock ≠ some q) := fun q hq e => by have := (h.own.lt q e).1; omega
  have HH := hide h
  have HBW := hide hb
  have HFF := hide hF
  have HBU := hide hbU
  have BXU := hide bxU
  have HLL := hide hl
  obtain ⟨n, hn⟩ : ∃ n, L.length = n := ⟨_, rfl⟩
  have HN := hide hn
  rw [hn] at OWNR HLL b0 HNB BXU HH bxU
  simp only [hn]
  clear h hb hF hbU hU1 OWNU bxw hAU hpl hsz hn hl
  go_enter Tryz.func88, Tryz.ntmps88
  go_wp2_with (at_builtin; refine wpList_append_lies _ rfl _ _ 37 rfl (p + 1) 59 i0 (.agg #[.int .i64 0, .slice none 0 0, .slice none 0 0]) 3 56 Tryz.underlying37 hi hz0 hz1 hz2 rfl (by decide) _ _ _ rfl (unhide OWNR) ⟨w.heap.size + 1, 0, none⟩ 1 1 [.int .i64 t.1, .slice ai ni ci, .slice ao no co] rfl rfl (unhide NEWR) (fun u hu => by simp at hu; rcases hu with rfl | rfl | rfl <;> rfl) (by decide) (by have := unhide HLL; unfold maxLen; omega) (by have := unhide HLL; omega) SZR _ rfl ?_; intro g7 cap7 w7 hown7 hgrow7 hor7 _; rw [← hU] at hgrow7 hor7; have hx7 := (hgrow7.block b (lt_of_block (unhide BXU)) (fun e => (unhide HNB) b (by omega) e.symm)).trans (unhide BXU); have HX7 := hide hx7; have HO7 := hide hown7; have HG7 := hide hgrow7; have HOR7 := hide hor7; have yy0 := cell_of hx7 0 _ rfl; have yyl := lt_of_block hx7; have yyf := frozen_of hx7 0; clear hx7 hown7 hgrow7 hor7)
  have PU := St.push (v' := .slice (some ⟨g7, 0, none⟩) (n + 1) cap7) (unhide HH) (unhide HBW) (unhide HFF) (unhide HBU) (unhide HG7) (by rw [unhide HN]; exact unhide HO7) (by
    rcases unhide HOR7 with q | q
    · exact .inl q
    · exact .inr ⟨g7, rfl, by omega⟩)
  have HPU := hide PU
  clear PU
  (try go_wp2)
  ((try simp only [Exit.inBlock, Exit.then]); first | refine bodyPost_end (results_none rfl _ _ _) rfl ?_ | refine bodyPost_ret (results_none rfl _ _ _) rfl ?_)
  exact ⟨rfl, ⟨_, _, (unhide HPU).1⟩, (unhide HPU).2⟩

set_option maxRecDepth 10000 in
set_option maxHeartbeats 3200000 in
theorem make1_is (b b2 p : Nat) (va : Option Addr) (vc : Nat) (K : List (List Value)) (L : List TxD) (fee : Int) (u0 u1 u2 : Value) (t : TxD) (wA w : World) (h : St b p wA (.slice va L.length vc) K L) (F : Int) (h2 : FeI wA b2 F) (hne : b ≠ b2) (hb2 : b2 < p) (f1 : 0 ≤ F) (f2 : F ≤ 1000000000) (f3 : 0 ≤ fee) (f4 : fee ≤ 1000000000) (hb : Below wA.heap.size wA w) (hF : Fresh wA.heap.size w (fun w2 => Tr.txR.C w2 [u0, u1, u2] t)) (hl : L.length < 3) :
    Calls Tryz.prog 82 (#[.agg #[u0, u1, u2], .int .i64 fee] ++ #[.pointer (some ⟨b, 0, none⟩), .pointer (some ⟨b2, 0, none⟩)]) w fun e w' => e = .returned (.tuple #[]) ∧ (∃ v', ∃ K', St b p w' v' K' (L ++ [t]) ∧ FeI w' b2 (F + fee)) ∧ Gr w w' (fun q => (q = b ∨ q = b2) ∨ (Value.slice va L.length vc).ownBlock = some q) := by
  obtain ⟨i0, hi, hz0, hz1, hz2⟩ := info_parts Tryz.infoTx9
  obtain ⟨ai, ni, ci, ao, no, co, e, _⟩ := hF w (Gr.refl _ _)
  simp only [List.cons.injEq, and_true] at e
  obtain ⟨rfl, rfl, rfl⟩ := e
  obtain ⟨U, hU⟩ : ∃ U, U = (w.alloc (.cells #[.int .i64 t.1, .slice ai ni ci, .slice ao no co] 59)).alloc (.cells #[.int .i64 t.1, .slice ai ni ci, .slice ao no co] 59) := ⟨_, rfl⟩
  have hbU : Below w.heap.size w U := by rw [hU]; exact bel_on (bel_new _ _) (bel_new _ _)
  have hU1 : U.heap[w.heap.size + 1]? = some (.cells #[.int .i64 t.1, .slice ai ni ci, .slice ao no co] 59 (0, 0)) := by
    rw [hU]
    have := three_heap (w.alloc (.cells #[.int .i64 t.1, .slice ai ni ci, .slice ao no co] 59)) (.int .i64 t.1) (.slice ai ni ci) (.slice ao no co) 59
    rw [show (w.alloc (.cells #[.int .i64 t.1, .slice ai ni ci, .slice ao no co] 59)).heap.size = w.heap.size + 1 by simp] at this
    exact this
  have hUs : U.heap.size = w.heap.size + 2 := by rw [hU]; simp
  have hbp := h.bp
  have hpl := h.pl
  have hsz := hb.size
  have hAU := bel_on hb hbU
  have OWNU : U.ownsRow (p + 1) 59 3 (.slice va L.length vc) L.length K.flatten := (Gr.of (S := fun _ => False) hAU).own h.own (fun _ _ q => q)
  have bxw := (hb.block b (by omega)).trans h.box
  have bxU := (hAU.block b (by omega)).trans h.box
  have b0 := cell_of bxw 0 _ rfl
  have bl : b < w.heap.size := lt_of_block bxw
  have fxU := (hAU.block b2 (by omega)).trans h2
  have NEWR : Hid (∀ j u, [Value.int .i64 t.1, .slice ai ni ci, .slice ao no co][j]? = some u → World.cell? ((w.alloc (.cells #[.int .i64 t.1, .slice ai ni ci, .slice ao no co] 59)).alloc (.cells #[.int .i64 t.1, .slice ai ni ci, .slice ao no co] 59)) ((⟨w.heap.size + 1, 0, none⟩ : Addr).add j) = some u) := by rw [← hU]; exact World.news_of_block hU1
  have OWNR : Hid (World.ownsRow ((w.alloc (.cells #[.int .i64 t.1, .slice ai ni ci, .slice ao no co] 59)).alloc (.cells #[.int .i64 t.1, .slice ai ni ci, .slice ao no co] 59)) (p + 1) 59 3 (.slice va L.length vc) L.length K.flatten) := by rw [← hU]; exact OWNU
  have SZR : p + 1 ≤ ((w.alloc (.cells #[.int .i64 t.1, .slice ai ni ci, .slice ao no co] 59)).alloc (.cells #[.int .i64 t.1, .slice ai ni ci, .slice ao no co] 59)).heap.size := by rw [← hU]; omega
  have HNB : Hid (∀ q, q ≤ p → (Value.slice va L.length vc).ownBlock ≠ some q) := fun q hq e => by have := (h.own.lt q e).1; omega
  have HH := hide h
  have HBW := hide hb
  have HFF := hide hF
  have HBU := hide hbU
  have BXU := hide bxU
  have HLL := hide hl
  obtain ⟨n, hn⟩ : ∃ n, L.length = n := ⟨_, rfl⟩
  have FXU := hide fxU
  have fw : w.cell? ⟨b2, 0, none⟩ = some (.int .i64 F) := cell_of ((hb.block b2 (by omega)).trans h2) 0 _ rfl
  have HN := hide hn
  rw [hn] at OWNR HLL b0 HNB BXU HH bxU
  simp only [hn]
  clear h hb hF hbU hU1 OWNU bxw hAU hpl hsz hn hl h2 fxU
  go_enter Tryz.func82, Tryz.ntmps82
  have gl : (n : Int) < 3 := by have := unhide HLL; omega
  go_wp2_with (at_builtin; refine wpList_append_lies _ rfl _ _ 37 rfl (p + 1) 59 i0 (.agg #[.int .i64 0, .slice none 0 0, .slice none 0 0]) 3 56 Tryz.underlying37 hi hz0 hz1 hz2 rfl (by decide) _ _ _ rfl (unhide OWNR) ⟨w.heap.size + 1, 0, none⟩ 1 1 [.int .i64 t.1, .slice ai ni ci, .slice ao no co] rfl rfl (unhide NEWR) (fun u hu => by simp at hu; rcases hu with rfl | rfl | rfl <;> rfl) (by decide) (by have := unhide HLL; unfold maxLen; omega) (by have := unhide HLL; omega) SZR _ rfl ?_; intro g7 cap7 w7 hown7 hgrow7 hor7 _; rw [← hU] at hgrow7 hor7; have hx7 := (hgrow7.block b (lt_of_block (unhide BXU)) (fun e => (unhide HNB) b (by omega) e.symm)).trans (unhide BXU); have HX7 := hide hx7; have HO7 := hide hown7; have HG7 := hide hgrow7; have HOR7 := hide hor7; have yy0 := cell_of hx7 0 _ rfl; have yyl := lt_of_block hx7; have yyf := frozen_of hx7 0; have hf7 := (hgrow7.block b2 (lt_of_block (unhide FXU)) (fun e => (unhide HNB) b2 (by omega) e.symm)).trans (unhide FXU); have HF7 := hide hf7; have ff0 := cell_of hf7 0 _ rfl; have ffl := lt_of_block hf7; have fff := frozen_of hf7 0; clear hf7; clear hx7 hown7 hgrow7 hor7)
  have PU := St.push (v' := .slice (some ⟨g7, 0, none⟩) (n + 1) cap7) (unhide HH) (unhide HBW) (unhide HFF) (unhide HBU) (unhide HG7) (by rw [unhide HN]; exact unhide HO7) (by
    rcases unhide HOR7 with q | q
    · exact .inl q
    · exact .inr ⟨g7, rfl, by omega⟩)
  have g9 : Gr (w7.setCell ⟨b, 0, none⟩ (.slice (some ⟨g7, 0, none⟩) (n + 1) cap7)) ((w7.setCell ⟨b, 0, none⟩ (.slice (some ⟨g7, 0, none⟩) (n + 1) cap7)).setCell ⟨b2, 0, none⟩ (.int .i64 (F + fee))) (fun q => q = b2) := (Gr.refl _ (fun q => q = b2)).one b2 0 (.inl rfl) _
  have R1 := hide (PU.1.on g9 (fun q e => by subst e; exact ⟨by omega, fun q => hne q.symm⟩))
  have R2 : Hid (FeI ((w7.setCell ⟨b, 0, none⟩ (.slice (some ⟨g7, 0, none⟩) (n + 1) cap7)).setCell ⟨b2, 0, none⟩ (.int .i64 (F + fee))) b2 (F + fee)) := box_set ((heap_setCell_other w7 ⟨b, 0, none⟩ b2 _ (fun e => hne e.symm)).trans (unhide HF7))
  have R3 : Hid (Gr w ((w7.setCell ⟨b, 0, none⟩ (.slice (some ⟨g7, 0, none⟩) (n + 1) cap7)).setCell ⟨b2, 0, none⟩ (.int .i64 (F + fee))) (fun q => (q = b ∨ q = b2) ∨ (Value.slice va n vc).ownBlock = some q)) := (PU.2.mono (fun q _ e => e.elim (fun e => .inl (.inl e)) .inr)).trans (g9.mono (fun q _ e => .inl (.inr e)))
  clear PU g9
  (try go_wp2)
  ((try simp only [Exit.inBlock, Exit.then]); first | refine bodyPost_end (results_none rfl _ _ _) rfl ?_ | refine bodyPost_ret (results_none rfl _ _ _) rfl ?_)
  exact ⟨rfl, ⟨_, _, unhide R1, unhide R2⟩, unhide R3⟩

set_option maxHeartbeats 1600000 in
theorem make1_full (b b2 p : Nat) (va : Option Addr) (vc : Nat) (K : List (List Value)) (L : List TxD) (fee : Int) (u0 u1 u2 : Value) (t : TxD) (wA w : World) (h : St b p wA (.slice va L.length vc) K L) (hb : Below wA.heap.size wA w) (hF : Fresh wA.heap.size w (fun w2 => Tr.txR.C w2 [u0, u1, u2] t)) (hl : 3 ≤ L.length) :
    Calls Tryz.prog 82 (#[.agg #[u0, u1, u2], .int .i64 fee] ++ #[.pointer (some ⟨b, 0, none⟩), .pointer (some ⟨b2, 0, none⟩)]) w fun e w' => e = .returned (.tuple #[]) ∧ Below w.heap.size w w' := by
  obtain ⟨ai, ni, ci, ao, no, co, e, _⟩ := hF w (Gr.refl _ _)
  simp only [List.cons.injEq, and_true] at e
  obtain ⟨rfl, rfl, rfl⟩ := e
  have HB := hide (bel_new w (.cells #[.int .i64 t.1, .slice ai ni ci, .slice ao no co] 59))
  have hbp := h.bp
  have hpl := h.pl
  have bxw := (hb.block b (by omega)).trans h.box
  have b0 := cell_of bxw 0 _ rfl
  have bl : b < w.heap.size := lt_of_block bxw
  have gl : ¬ ((L.length : Int) < 3) := by omega
  obtain ⟨n, hn⟩ : ∃ n, L.length = n := ⟨_, rfl⟩
  rw [hn] at b0 gl
  clear h hb hF hbp hpl bxw hl hn
  go_enter Tryz.func82, Tryz.ntmps82
  go_wp2
  ((try simp only [Exit.inBlock, Exit.then]); first | refine bodyPost_end (results_none rfl _ _ _) rfl ?_ | refine bodyPost_ret (results_none rfl _ _ _) rfl ?_)
  exact ⟨rfl, unhide HB⟩

end Go.Proofs.YtmomfkikogbdeaaGreatDoor
