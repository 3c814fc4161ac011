/- The functions that keep what stays: Sweep's, Accept's, Make's (written by a program of ours: mkkeep.py). -/
import Derived.Test.YtmomfkikogbdeaaGreatDoorPolSwToPolKeep
namespace Go.Proofs.YtmomfkikogbdeaaGreatDoor
open Go.RowKit

def FeI (w : World) (b : Nat) (F : Int) : Prop := w.heap[b]? = some (.cells #[.int .i64 F] 3 (0, 0))

set_option maxRecDepth 10000 in
set_option maxHeartbeats 3200000 in
theorem sweep1_is (b b2 p : Nat) (va : Option Addr) (vc : Nat) (K : List (List Value)) (L : List TxD) (fee : Int) (u0 u1 u2 : Value) (t : TxD) (wA w : World) (h : St b p wA (.slice va L.length vc) K L) (F : Int) (h2 : FeI wA b2 F) (hne : b ≠ b2) (hb2 : b2 < p) (f1 : 0 ≤ F) (f2 : F ≤ 1000000000) (f3 : 0 ≤ fee) (f4 : fee ≤ 1000000000) (hb : Below wA.heap.size wA w) (hF : Fresh wA.heap.size w (fun w2 => Tr.txR.C w2 [u0, u1, u2] t)) (hl : L.length < 8) :
    Calls Tryz.prog 79 (#[.agg #[u0, u1, u2], .int .i64 fee] ++ #[.pointer (some ⟨b, 0, none⟩), .pointer (some ⟨b2, 0, none⟩)]) w fun e w' => e = .returned (.tuple #[]) ∧ (∃ v', ∃ K', St b p w' v' K' (L ++ [t]) ∧ FeI w' b2 (F + fee)) ∧ Gr w w' (fun q => (q = b ∨ q = b2) ∨ (Value.slice va L.length vc).ownBlock = some q) := by
  obtain ⟨i0, hi, hz0, hz1, hz2⟩ := info_parts Tryz.infoTx9
  obtain ⟨ai, ni, ci, ao, no, co, e, _⟩ := hF w (Gr.refl _ _)
  simp only [List.cons.injEq, and_true] at e
  obtain ⟨rfl, rfl, rfl⟩ := e
  obtain ⟨U, hU⟩ : ∃ U, U = (w.alloc (.cells #[.int .i64 t.1, .slice ai ni ci, .slice ao no co] 59)).alloc (.cells #[.int .i64 t.1, .slice ai ni ci, .slice ao no co] 59) := ⟨_, rfl⟩
  have hbU : Below w.heap.size w U := by rw [hU]; exact bel_on (bel_new _ _) (bel_new _ _)
  have hU1 : U.heap[w.heap.size + 1]? = some (.cells #[.int .i64 t.1, .slice ai ni ci, .slice ao no co] 59 (0, 0)) := by
    rw [hU]
    have := three_heap (w.alloc (.cells #[.int .i64 t.1, .slice ai ni ci, .slice ao no co] 59)) (.int .i64 t.1) (.slice ai ni ci) (.slice ao no co) 59
    rw [show (w.alloc (.cells #[.int .i64 t.1, .slice ai ni ci, .slice ao no co] 59)).heap.size = w.heap.size + 1 by simp] at this
    exact this
  have hUs : U.heap.size = w.heap.size + 2 := by rw [hU]; simp
  have hbp := h.bp
  have hpl := h.pl
  have hsz := hb.size
  have hAU := bel_on hb hbU
  have OWNU : U.ownsRow (p + 1) 59 3 (.slice va L.length vc) L.length K.flatten := (Gr.of (S := fun _ => False) hAU).own h.own (fun _ _ q => q)
  have bxw := (hb.block b (by omega)).trans h.box
  have bxU := (hAU.block b (by omega)).trans h.box
  have b0 := cell_of bxw 0 _ rfl
  have bl : b < w.heap.size := lt_of_block bxw
  have fxU := (hAU.block b2 (by omega)).trans h2
  have NEWR : Hid (∀ j u, [Value.int .i64 t.1, .slice ai ni ci, .slice ao no co][j]? = some u → World.cell? ((w.alloc (.cells #[.int .i64 t.1, .slice ai ni ci, .slice ao no co] 59)).alloc (.cells #[.int .i64 t.1, .slice ai ni ci, .slice ao no co] 59)) ((⟨w.heap.size + 1, 0, none⟩ : Addr).add j) = some u) := by rw [← hU]; exact World.news_of_block hU1
  have OWNR : Hid (World.ownsRow ((w.alloc (.cells #[.int .i64 t.1, .slice ai ni ci, .slice ao no co] 59)).alloc (.cells #[.int .i64 t.1, .slice ai ni ci, .slice ao no co] 59)) (p + 1) 59 3 (.slice va L.length vc) L.length K.flatten) := by rw [← hU]; exact OWNU
  have SZR : p + 1 ≤ ((w.alloc (.cells #[.int .i64 t.1, .slice ai ni ci, .slice ao no co] 59)).alloc (.cells #[.int .i64 t.1, .slice ai ni ci, .slice ao no co] 59)).heap.size := by rw [← hU]; omega
  have HNB : Hid (∀ q, q ≤ p → (Value.slice va L.length vc).ownBlock ≠ some q) := fun q hq e => by have := (h.own.lt q e).1; omega
  have HH := hide h
  have HBW := hide hb
  have HFF := hide hF
  have HBU := hide hbU
  have BXU := hide bxU
  have HLL := hide hl
  obtain ⟨n, hn⟩ : ∃ n, L.length = n := ⟨_, rfl⟩
  have FXU := hide fxU
  have fw : w.cell? ⟨b2, 0, none⟩ = some (.int .i64 F) := cell_of ((hb.block b2 (by omega)).trans h2) 0 _ rfl
  have HN := hide hn
  rw [hn] at OWNR HLL b0 HNB BXU HH bxU
  simp only [hn]
  clear h hb hF hbU hU1 OWNU bxw hAU hpl hsz hn hl h2 fxU
  go_enter Tryz.func79, Tryz.ntmps79
  go_wp2_with (at_builtin; refine wpList_append_lies _ rfl _ _ 37 rfl (p + 1) 59 i0 (.agg #[.int .i64 0, .slice none 0 0, .slice none 0 0]) 3 56 Tryz.underlying37 hi hz0 hz1 hz2 rfl (by decide) _ _ _ rfl (unhide OWNR) ⟨w.heap.size + 1, 0, none⟩ 1 1 [.int .i64 t.1, .slice ai ni ci, .slice ao no co] rfl rfl (unhide NEWR) (fun u hu => by simp at hu; rcases hu with rfl | rfl | rfl <;> rfl) (by decide) (by have := unhide HLL; unfold maxLen; omega) (by have := unhide HLL; omega) SZR _ rfl ?_; intro g7 cap7 w7 hown7 hgrow7 hor7 _; rw [← hU] at hgrow7 hor7; have hx7 := (hgrow7.block b (lt_of_block (unhide BXU)) (fun e => (unhide HNB) b (by omega) e.symm)).trans (unhide BXU); have HX7 := hide hx7; have HO7 := hide hown7; have HG7 := hide hgrow7; have HOR7 := hide hor7; have yy0 := cell_of hx7 0 _ rfl; have yyl := lt_of_block hx7; have yyf := frozen_of hx7 0; have hf7 := (hgrow7.block b2 (lt_of_block (unhide FXU)) (fun e => (unhide HNB) b2 (by omega) e.symm)).trans (unhide FXU); have HF7 := hide hf7; have ff0 := cell_of hf7 0 _ rfl; have ffl := lt_of_block hf7; have fff := frozen_of hf7 0; clear hf7; clear hx7 hown7 hgrow7 hor7)
  have PU := St.push (v' := .slice (some ⟨g7, 0, none⟩) (n + 1) cap7) (unhide HH) (unhide HBW) (unhide HFF) (unhide HBU) (unhide HG7) (by rw [unhide HN]; exact unhide HO7) (by
    rcases unhide HOR7 with q | q
    · exact .inl q
    · exact .inr ⟨g7, rfl, by omega⟩)
  have g9 : Gr (w7.setCell ⟨b, 0, none⟩ (.slice (some ⟨g7, 0, none⟩) (n + 1) cap7)) ((w7.setCell ⟨b, 0, none⟩ (.slice (some ⟨g7, 0, none⟩) (n + 1) cap7)).setCell ⟨b2, 0, none⟩ (.int .i64 (F + fee))) (fun q => q = b2) := (Gr.refl _ (fun q => q = b2)).one b2 0 (.inl rfl) _
  have R1 := hide (PU.1.on g9 (fun q e => by subst e; exact ⟨by omega, fun q => hne q.symm⟩))
  have R2 : Hid (FeI ((w7.setCell ⟨b, 0, none⟩ (.slice (some ⟨g7, 0, none⟩) (n + 1) cap7)).setCell ⟨b2, 0, none⟩ (.int .i64 (F + fee))) b2 (F + fee)) := box_set ((heap_setCell_other w7 ⟨b, 0, none⟩ b2 _ (fun e => hne e.symm)).trans (unhide HF7))
  have R3 : Hid (Gr w ((w7.setCell ⟨b, 0, none⟩ (.slice (some ⟨g7, 0, none⟩) (n + 1) cap7)).setCell ⟨b2, 0, none⟩ (.int .i64 (F + fee))) (fun q => (q = b ∨ q = b2) ∨ (Value.slice va n vc).ownBlock = some q)) := (PU.2.mono (fun q _ e => e.elim (fun e => .inl (.inl e)) .inr)).trans (g9.mono (fun q _ e => .inl (.inr e)))
  clear PU g9
  (try go_wp2)
  ((try simp only [Exit.inBlock, Exit.then]); first | refine bodyPost_end (results_none rfl _ _ _) rfl ?_ | refine bodyPost_ret (results_none rfl _ _ _) rfl ?_)
  exact ⟨rfl, ⟨_, _, unhide R1, unhide R2⟩, unhide R3⟩

set_option maxRecDepth 10000 in
set_option maxHeartbeats 3200000 in
theorem accept1_is (b p : Nat) (va : Option Addr) (vc : Nat) (K : List (List Value)) (L : List TxD) (fee : Int) (u0 u1 u2 : Value) (t : TxD) (wA w : World) (h : St b p wA (.slice va L.length vc) K L) (hb : Below wA.heap.size wA w) (hF : Fresh wA.heap.size w (fun w2 => Tr.txR.C w2 [u0, u1, u2] t)) (hl : L.length < 8) :
    Calls Tryz.prog 88 (#[.agg #[u0, u1, u2], .int .i64 fee] ++ #[.pointer (some ⟨b, 0, none⟩)]) w fun e w' => e = .returned (.tuple #[]) ∧ (∃ v', ∃ K', St b p w' v' K' (L ++ [t])) ∧ Gr w w' (fun q => q = b ∨ (Value.slice va L.length vc).ownBlock = some q) := by
  obtain ⟨i0, hi, hz0, hz1, hz2⟩ := info_parts Tryz.infoTx9
  obtain ⟨ai, ni, ci, ao, no, co, e, _⟩ := hF w (Gr.refl _ _)
  simp only [List.cons.injEq, and_true] at e
  obtain ⟨rfl, rfl, rfl⟩ := e
  obtain ⟨U, hU⟩ : ∃ U, U = (w.alloc (.cells #[.int .i64 t.1, .slice ai ni ci, .slice ao no co] 59)).alloc (.cells #[.int .i64 t.1, .slice ai ni ci, .slice ao no co] 59) := ⟨_, rfl⟩
  have hbU : Below w.heap.size w U := by rw [hU]; exact bel_on (bel_new _ _) (bel_new _ _)
  have hU1 : U.heap[w.heap.size + 1]? = some (.cells #[.int .i64 t.1, .slice ai ni ci, .slice ao no co] 59 (0, 0)) := by
    rw [hU]
    have := three_heap (w.alloc (.cells #[.int .i64 t.1, .slice ai ni ci, .slice ao no co] 59)) (.int .i64 t.1) (.slice ai ni ci) (.slice ao no co) 59
    rw [show (w.alloc (.cells #[.int .i64 t.1, .slice ai ni ci, .slice ao no co] 59)).heap.size = w.heap.size + 1 by simp] at this
    exact this
  have hUs : U.heap.size = w.heap.size + 2 := by rw [hU]; simp
  have hbp := h.bp
  have hpl := h.pl
  have hsz := hb.size
  have hAU := bel_on hb hbU
  have OWNU : U.ownsRow (p + 1) 59 3 (.slice va L.length vc) L.length K.flatten := (Gr.of (S := fun _ => False) hAU).own h.own (fun _ _ q => q)
  have bxw := (hb.block b (by omega)).trans h.box
  have bxU := (hAU.block b (by omega)).trans h.box
  have b0 := cell_of bxw 0 _ rfl
  have bl : b < w.heap.size := lt_of_block bxw
  have NEWR : Hid (∀ j u, [Value.int .i64 t.1, .slice ai ni ci, .slice ao no co][j]? = some u → World.cell? ((w.alloc (.cells #[.int .i64 t.1, .slice ai ni ci, .slice ao no co] 59)).alloc (.cells #[.int .i64 t.1, .slice ai ni ci, .slice ao no co] 59)) ((⟨w.heap.size + 1, 0, none⟩ : Addr).add j) = some u) := by rw [← hU]; exact World.news_of_block hU1
  have OWNR : Hid (World.ownsRow ((w.alloc (.cells #[.int .i64 t.1, .slice ai ni ci, .slice ao no co] 59)).alloc (.cells #[.int .i64 t.1, .slice ai ni ci, .slice ao no co] 59)) (p + 1) 59 3 (.slice va L.length vc) L.length K.flatten) := by rw [← hU]; exact OWNU
  have SZR : p + 1 ≤ ((w.alloc (.cells #[.int .i64 t.1, .slice ai ni ci, .slice ao no co] 59)).alloc (.cells #[.int .i64 t.1, .slice ai ni ci, .slice ao no co] 59)).heap.size := by rw [← hU]; omega
  have HNB : Hid (∀ q, q ≤ p → (Value.slice va L.length vc).ownBlock ≠ some q) := fun q hq e => by have := (h.own.lt q e).1; omega
  have HH := hide h
  have HBW := hide hb
  have HFF := hide hF
  have HBU := hide hbU
  have BXU := hide bxU
  have HLL := hide hl
  obtain ⟨n, hn⟩ : ∃ n, L.length = n := ⟨_, rfl⟩
  have HN := hide hn
  rw [hn] at OWNR HLL b0 HNB BXU HH bxU
  simp only [hn]
  clear h hb hF hbU hU1 OWNU bxw hAU hpl hsz hn hl
  go_enter Tryz.func88, Tryz.ntmps88
  go_wp2_with (at_builtin; refine wpList_append_lies _ rfl _ _ 37 rfl (p + 1) 59 i0 (.agg #[.int .i64 0, .slice none 0 0, .slice none 0 0]) 3 56 Tryz.underlying37 hi hz0 hz1 hz2 rfl (by decide) _ _ _ rfl (unhide OWNR) ⟨w.heap.size + 1, 0, none⟩ 1 1 [.int .i64 t.1, .slice ai ni ci, .slice ao no co] rfl rfl (unhide NEWR) (fun u hu => by simp at hu; rcases hu with rfl | rfl | rfl <;> rfl) (by decide) (by have := unhide HLL; unfold maxLen; omega) (by have := unhide HLL; omega) SZR _ rfl ?_; intro g7 cap7 w7 hown7 hgrow7 hor7 _; rw [← hU] at hgrow7 hor7; have hx7 := (hgrow7.block b (lt_of_block (unhide BXU)) (fun e => (unhide HNB) b (by omega) e.symm)).trans (unhide BXU); have HX7 := hide hx7; have HO7 := hide hown7; have HG7 := hide hgrow7; have HOR7 := hide hor7; have yy0 := cell_of hx7 0 _ rfl; have yyl := lt_of_block hx7; have yyf := frozen_of hx7 0; clear hx7 hown7 hgrow7 hor7)
  have PU := St.push (v' := .slice (some ⟨g7, 0, none⟩) (n + 1) cap7) (unhide HH) (unhide HBW) (unhide HFF) (unhide HBU) (unhide HG7) (by rw [unhide HN]; exact unhide HO7) (by
    rcases unhide HOR7 with q | q
    · exact .inl q
    · exact .inr ⟨g7, rfl, by omega⟩)
  have HPU := hide PU
  clear PU
  (try go_wp2)
  ((try simp only [Exit.inBlock, Exit.then]); first | refine bodyPost_end (results_none rfl _ _ _) rfl ?_ | refine bodyPost_ret (results_none rfl _ _ _) rfl ?_)
  exact ⟨rfl, ⟨_, _, (unhide HPU).1⟩, (unhide HPU).2⟩

set_option maxRecDepth 10000 in
set_option maxHeartbeats 3200000 in
theorem make1_is (b b2 p : Nat) (va : Option Addr) (vc : Nat) (K : List (List Value)) (L : List TxD) (fee : Int) (u0 u1 u2 : Value) (t : TxD) (wA w : World) (h : St b p wA (.slice va L.length vc) K L) (F : Int) (h2 : FeI wA b2 F) (hne : b ≠ b2) (hb2 : b2 < p) (f1 : 0 ≤ F) (f2 : F ≤ 1000000000) (f3 : 0 ≤ fee) (f4 : fee ≤ 1000000000) (hb : Below wA.heap.size wA w) (hF : Fresh wA.heap.size w (fun w2 => Tr.txR.C w2 [u0, u1, u2] t)) (hl : L.length < 3) :
    Calls Tryz.prog 82 (#[.agg #[u0, u1, u2], .int .i64 fee] ++ #[.pointer (some ⟨b, 0, none⟩), .pointer (some ⟨b2, 0, none⟩)]) w fun e w' => e = .returned (.tuple #[]) ∧ (∃ v', ∃ K', St b p w' v' K' (L ++ [t]) ∧ FeI w' b2 (F + fee)) ∧ Gr w w' (fun q => (q = b ∨ q = b2) ∨ (Value.slice va L.length vc).ownBlock = some q) := by
  obtain ⟨i0, hi, hz0, hz1, hz2⟩ := info_parts Tryz.infoTx9
  obtain ⟨ai, ni, ci, ao, no, co, e, _⟩ := hF w (Gr.refl _ _)
  simp only [List.cons.injEq, and_true] at e
  obtain ⟨rfl, rfl, rfl⟩ := e
  obtain ⟨U, hU⟩ : ∃ U, U = (w.alloc (.cells #[.int .i64 t.1, .slice ai ni ci, .slice ao no co] 59)).alloc (.cells #[.int .i64 t.1, .slice ai ni ci, .slice ao no co] 59) := ⟨_, rfl⟩
  have hbU : Below w.heap.size w U := by rw [hU]; exact bel_on (bel_new _ _) (bel_new _ _)
  have hU1 : U.heap[w.heap.size + 1]? = some (.cells #[.int .i64 t.1, .slice ai ni ci, .slice ao no co] 59 (0, 0)) := by
    rw [hU]
    have := three_heap (w.alloc (.cells #[.int .i64 t.1, .slice ai ni ci, .slice ao no co] 59)) (.int .i64 t.1) (.slice ai ni ci) (.slice ao no co) 59
    rw [show (w.alloc (.cells #[.int .i64 t.1, .slice ai ni ci, .slice ao no co] 59)).heap.size = w.heap.size + 1 by simp] at this
    exact this
  have hUs : U.heap.size = w.heap.size + 2 := by rw [hU]; simp
  have hbp := h.bp
  have hpl := h.pl
  have hsz := hb.size
  have hAU := bel_on hb hbU
  have OWNU : U.ownsRow (p + 1) 59 3 (.slice va L.length vc) L.length K.flatten := (Gr.of (S := fun _ => False) hAU).own h.own (fun _ _ q => q)
  have bxw := (hb.block b (by omega)).trans h.box
  have bxU := (hAU.block b (by omega)).trans h.box
  have b0 := cell_of bxw 0 _ rfl
  have bl : b < w.heap.size := lt_of_block bxw
  have fxU := (hAU.block b2 (by omega)).trans h2
  have NEWR : Hid (∀ j u, [Value.int .i64 t.1, .slice ai ni ci, .slice ao no co][j]? = some u → World.cell? ((w.alloc (.cells #[.int .i64 t.1, .slice ai ni ci, .slice ao no co] 59)).alloc (.cells #[.int .i64 t.1, .slice ai ni ci, .slice ao no co] 59)) ((⟨w.heap.size + 1, 0, none⟩ : Addr).add j) = some u) := by rw [← hU]; exact World.news_of_block hU1
  have OWNR : Hid (World.ownsRow ((w.alloc (.cells #[.int .i64 t.1, .slice ai ni ci, .slice ao no co] 59)).alloc (.cells #[.int .i64 t.1, .slice ai ni ci, .slice ao no co] 59)) (p + 1) 59 3 (.slice va L.length vc) L.length K.flatten) := by rw [← hU]; exact OWNU
  have SZR : p + 1 ≤ ((w.alloc (.cells #[.int .i64 t.1, .slice ai ni ci, .slice ao no co] 59)).alloc (.cells #[.int .i64 t.1, .slice ai ni ci, .slice ao no co] 59)).heap.size := by rw [← hU]; omega
  have HNB : Hid (∀ q, q ≤ p → (Value.slice va L.length vc).ownBlock ≠ some q) := fun q hq e => by have := (h.own.lt q e).1; omega
  have HH := hide h
  have HBW := hide hb
  have HFF := hide hF
  have HBU := hide hbU
  have BXU := hide bxU
  have HLL := hide hl
  obtain ⟨n, hn⟩ : ∃ n, L.length = n := ⟨_, rfl⟩
  have FXU := hide fxU
  have fw : w.cell? ⟨b2, 0, none⟩ = some (.int .i64 F) := cell_of ((hb.block b2 (by omega)).trans h2) 0 _ rfl
  have HN := hide hn
  rw [hn] at OWNR HLL b0 HNB BXU HH bxU
  simp only [hn]
  clear h hb hF hbU hU1 OWNU bxw hAU hpl hsz hn hl h2 fxU
  go_enter Tryz.func82, Tryz.ntmps82
  have gl : (n : Int) < 3 := by have := unhide HLL; omega
  go_wp2_with (at_builtin; refine wpList_append_lies _ rfl _ _ 37 rfl (p + 1) 59 i0 (.agg #[.int .i64 0, .slice none 0 0, .slice none 0 0]) 3 56 Tryz.underlying37 hi hz0 hz1 hz2 rfl (by decide) _ _ _ rfl (unhide OWNR) ⟨w.heap.size + 1, 0, none⟩ 1 1 [.int .i64 t.1, .slice ai ni ci, .slice ao no co] rfl rfl (unhide NEWR) (fun u hu => by simp at hu; rcases hu with rfl | rfl | rfl <;> rfl) (by decide) (by have := unhide HLL; unfold maxLen; omega) (by have := unhide HLL; omega) SZR _ rfl ?_; intro g7 cap7 w7 hown7 hgrow7 hor7 _; rw [← hU] at hgrow7 hor7; have hx7 := (hgrow7.block b (lt_of_block (unhide BXU)) (fun e => (unhide HNB) b (by omega) e.symm)).trans (unhide BXU); have HX7 := hide hx7; have HO7 := hide hown7; have HG7 := hide hgrow7; have HOR7 := hide hor7; have yy0 := cell_of hx7 0 _ rfl; have yyl := lt_of_block hx7; have yyf := frozen_of hx7 0; have hf7 := (hgrow7.block b2 (lt_of_block (unhide FXU)) (fun e => (unhide HNB) b2 (by omega) e.symm)).trans (unhide FXU); have HF7 := hide hf7; have ff0 := cell_of hf7 0 _ rfl; have ffl := lt_of_block hf7; have fff := frozen_of hf7 0; clear hf7; clear hx7 hown7 hgrow7 hor7)
  have PU := St.push (v' := .slice (some ⟨g7, 0, none⟩) (n + 1) cap7) (unhide HH) (unhide HBW) (unhide HFF) (unhide HBU) (unhide HG7) (by rw [unhide HN]; exact unhide HO7) (by
    rcases unhide HOR7 with q | q
    · exact .inl q
    · exact .inr ⟨g7, rfl, by omega⟩)
  have g9 : Gr (w7.setCell ⟨b, 0, none⟩ (.slice (some ⟨g7, 0, none⟩) (n + 1) cap7)) ((w7.setCell ⟨b, 0, none⟩ (.slice (some ⟨g7, 0, none⟩) (n + 1) cap7)).setCell ⟨b2, 0, none⟩ (.int .i64 (F + fee))) (fun q => q = b2) := (Gr.refl _ (fun q => q = b2)).one b2 0 (.inl rfl) _
  have R1 := hide (PU.1.on g9 (fun q e => by subst e; exact ⟨by omega, fun q => hne q.symm⟩))
  have R2 : Hid (FeI ((w7.setCell ⟨b, 0, none⟩ (.slice (some ⟨g7, 0, none⟩) (n + 1) cap7)).setCell ⟨b2, 0, none⟩ (.int .i64 (F + fee))) b2 (F + fee)) := box_set ((heap_setCell_other w7 ⟨b, 0, none⟩ b2 _ (fun e => hne e.symm)).trans (unhide HF7))
  have R3 : Hid (Gr w ((w7.setCell ⟨b, 0, none⟩ (.slice (some ⟨g7, 0, none⟩) (n + 1) cap7)).setCell ⟨b2, 0, none⟩ (.int .i64 (F + fee))) (fun q => (q = b ∨ q = b2) ∨ (Value.slice va n vc).ownBlock = some q)) := (PU.2.mono (fun q _ e => e.elim (fun e => .inl (.inl e)) .inr)).trans (g9.mono (fun q _ e => .inl (.inr e)))
  clear PU g9
  (try go_wp2)
  ((try simp only [Exit.inBlock, Exit.then]); first | refine bodyPost_end (results_none rfl _ _ _) rfl ?_ | refine bodyPost_ret (results_none rfl _ _ _) rfl ?_)
  exact ⟨rfl, ⟨_, _, unhide R1, unhide R2⟩, unhide R3⟩

set_option maxHeartbeats 1600000 in
theorem make1_full (b b2 p : Nat) (va : Option Addr) (vc : Nat) (K : List (List Value)) (L : List TxD) (fee : Int) (u0 u1 u2 : Value) (t : TxD) (wA w : World) (h : St b p wA (.slice va L.length vc) K L) (hb : Below wA.heap.size wA w) (hF : Fresh wA.heap.size w (fun w2 => Tr.txR.C w2 [u0, u1, u2] t)) (hl : 3 ≤ L.length) :
    Calls Tryz.prog 82 (#[.agg #[u0, u1, u2], .int .i64 fee] ++ #[.pointer (some ⟨b, 0, none⟩), .pointer (some ⟨b2, 0, none⟩)]) w fun e w' => e = .returned (.tuple #[]) ∧ Below w.heap.size w w' := by
  obtain ⟨ai, ni, ci, ao, no, co, e, _⟩ := hF w (Gr.refl _ _)
  simp only [List.cons.injEq, and_true] at e
  obtain ⟨rfl, rfl, rfl⟩ := e
  have HB := hide (bel_new w (.cells #[.int .i64 t.1, .slice ai ni ci, .slice ao no co] 59))
  have hbp := h.bp
  have hpl := h.pl
  have bxw := (hb.block b (by omega)).trans h.box
  have b0 := cell_of bxw 0 _ rfl
  have bl : b < w.heap.size := lt_of_block bxw
  have gl : ¬ ((L.length : Int) < 3) := by omega
  obtain ⟨n, hn⟩ : ∃ n, L.length = n := ⟨_, rfl⟩
  rw [hn] at b0 gl
  clear h hb hF hbp hpl bxw hl hn
  go_enter Tryz.func82, Tryz.ntmps82
  go_wp2
  ((try simp only [Exit.inBlock, Exit.then]); first | refine bodyPost_end (results_none rfl _ _ _) rfl ?_ | refine bodyPost_ret (results_none rfl _ _ _) rfl ?_)
  exact ⟨rfl, unhide HB⟩

end Go.Proofs.YtmomfkikogbdeaaGreatDoor

/- The contract of Sweep. -/
namespace Go.Proofs.YtmomfkikogbdeaaGreatDoor
open Go.RowKit

/-- The boxes that may turn. -/
def D0 (lo hi : Nat) : Nat → Prop := fun q => (lo ≤ q ∧ q < hi) ∨ (Value.slice none 0 0).ownBlock = some q
theorem D0.ge {lo hi q : Nat} (h : D0 lo hi q) : lo ≤ q ∧ q < hi := by
  rcases h with h | h
  · exact h
  · cases h
def DV (lo hi : Nat) (v : Value) : Nat → Prop := fun q => (lo ≤ q ∧ q < hi) ∨ v.ownBlock = some q
theorem DV.dirty {lo hi b p : Nat} {w : World} {v : Value} {K : List (List Value)} {L : List TxD} {N0 : Nat} (h : St b p w v K L) (hh : hi ≤ N0) (hp : N0 ≤ p) (q : Nat) (hq : DV lo hi v q) : q ≠ p ∧ q < w.heap.size ∧ (D0 lo hi q ∨ N0 ≤ q) := by
  have := h.pl
  rcases hq with e | e
  · exact ⟨by omega, by omega, .inl (.inl e)⟩
  · have := h.own.lt q e
    exact ⟨by omega, this.2, .inr (by omega)⟩

def SwI (b b2 lo hi N0 : Nat) (C0 : List CoinD) (p : Nat) (D : Nat → Prop) (w : World) (X : List (TxD × List CoinD)) : Prop :=
  ∃ va vc K, St b p w (.slice va (X.map (·.1)).length vc) K (X.map (·.1)) ∧ FeI w b2 (sumC C0 - sumC (lastC C0 X)) ∧ N0 ≤ p ∧ D = DV lo hi (.slice va (X.map (·.1)).length vc) ∧ 0 ≤ sumC C0 - sumC (lastC C0 X) ∧ (X = [] ∨ (sumC C0 ≤ 1000000000 ∧ RightC (lastC C0 X)))

theorem sum_nn {C : List CoinD} (h : RightC C) : 0 ≤ sumC C := sumC_nonneg C (fun c hc => by have := ck1_zero (h.one c hc); omega)

theorem keepSw (b b2 lo hi : Nat) (w0 : World) (C0 : List CoinD) (hb : w0.heap[b]? = some (.cells #[.slice none 0 0] 37 (0, 0))) (hb2 : FeI w0 b2 0) (h1 : lo ≤ b ∧ b < hi) (h2 : lo ≤ b2 ∧ b2 < hi) (hne : b ≠ b2) (hhi : hi ≤ w0.heap.size) :
    Keep 79 #[.pointer (some ⟨b, 0, none⟩), .pointer (some ⟨b2, 0, none⟩)] w0 C0 (D0 lo hi) (SwI b b2 lo hi w0.heap.size C0) where
  enters := enters_of (fn := Tryz.f79) (by kernel_rfl) (by kernel_rfl) rfl
  start p w hw hp pl := ⟨none, 0, [], St.start ((hw.block b (by omega)).trans hb) (by omega) pl, by
    have : sumC C0 - sumC (lastC C0 []) = 0 := by rw [lastC_nil]; omega
    unfold FeI; rw [this]; exact (hw.block b2 (by omega)).trans hb2, hp, rfl, by rw [lastC_nil]; omega, .inl rfl⟩
  dirty p D w X := by
    rintro ⟨va, vc, K, h, _, hp, rfl, _⟩ q hq
    exact DV.dirty h hhi hp q hq
  on p D w w' X := by
    rintro ⟨va, vc, K, h, hf, hp, hD, r⟩ g
    exact ⟨va, vc, K, h.on g (fun q e => by subst e; exact ⟨Nat.le_refl _, by omega⟩), (g.block b2 (lt_of_block hf) (fun e => by have e : b2 = p := e; omega)).trans hf, hp, hD, r⟩
  call p D wA w X t C' u0 u1 u2 := by
    rintro ⟨va, vc, K, h, hf, hp, rfl, h0, hr⟩ hbw hF r1 r2 r3 hl
    have hs : sumC C0 ≤ 1000000000 := by
      rcases hr with rfl | hr
      · rw [lastC_nil] at r1; exact r1.sum
      · exact hr.1
    have n1 := sum_nn r1
    have n2 := sum_nn r2
    have n3 := r1.sum
    refine (sweep1_is b b2 p va vc K (X.map (·.1)) _ u0 u1 u2 t wA w h _ hf hne (by omega) h0 (by omega) (by omega) (by omega) hbw hF (by rw [List.length_map]; exact hl)).mono ?_
    rintro e w' ⟨rfl, ⟨v', K', hS, hf'⟩, hg⟩
    obtain ⟨a, c, rfl, _, _⟩ := hS.txs
    have e1 : (X ++ [(t, C')]).map (·.1) = X.map (·.1) ++ [t] := by simp
    refine ⟨rfl, hg.mono (fun q _ e => ?_), DV lo hi (.slice a ((X ++ [(t, C')]).map (·.1)).length c), a, c, K', ?_, ?_, hp, rfl, ?_, .inr ⟨hs, ?_⟩⟩
    · rcases e with (e | e) | e
      · subst e; exact .inl h1
      · subst e; exact .inl h2
      · exact .inr e
    · rw [e1]; exact hS
    · rw [lastC_snoc]
      have : sumC C0 - sumC (lastC C0 X) + (sumC (lastC C0 X) - sumC C') = sumC C0 - sumC C' := by omega
      rw [← this]; exact hf'
    · rw [lastC_snoc]; omega
    · rw [lastC_snoc]; exact r2

theorem St.reads {b p : Nat} {w w2 : World} {va : Option Addr} {vc : Nat} {K : List (List Value)} {L : List TxD} {S : Nat → Prop} (h : St b p w (.slice va L.length vc) K L) (g : Gr w w2 S) (hS : ∀ q, S q → q ≤ p) : TxsAt w2 va L.length L ∧ SlOk va L.length vc := by
  have o := g.own h.own (fun k hk e => by have := (h.own.lt k hk).1; have := hS k e; omega)
  obtain ⟨a, c, e, h1, h2⟩ := Tr.rows_of_own Tr.txR o (h.kept w2 (g.mono (fun q _ e => .inl (hS q e)))) rfl
  injection e with e1 _ e3
  subst e1 e3
  exact ⟨h1, h2⟩
/-- What Sweep answers. -/
def SweepR (w w' : World) (x : Int) (K : List ByteArray) (L : List TxD) (C : List CoinD) (f : Int) (e : Ending) : Prop :=
  ∃ ka kn kc sa sn sc ca cn cc, e = .returned (.tuple #[.agg #[.slice ka kn kc], .slice sa sn sc, .slice ca cn cc, .int .i64 f, .int .i64 x]) ∧
    Fresh w.heap.size w' (fun w2 => Bk.TextsAt w2 ka kn K ∧ TxsAt w2 sa sn L ∧ CoinsAt w2 ca cn C) ∧ SlOk ka kn kc ∧ SlOk sa sn sc ∧ SlOk ca cn cc ∧ Below w.heap.size w w'
def swF (K : List ByteArray) (C : List CoinD) (l : List TxD) (h x : Int) : List ByteArray × List TxD × List CoinD × Int :=
  if x = 0 then ((swGo h l (K, C)).2.1, (swGo h l (K, C)).1, (swGo h l (K, C)).2.2, sumC C - sumC (swGo h l (K, C)).2.2) else ([], [], [], 0)

/-! Blocks laid one behind the other. -/
def allocs (w : World) : List Obj → World
  | [] => w
  | o :: r => allocs (w.alloc o) r
theorem allocs_size : ∀ (os : List Obj) (w : World), (allocs w os).heap.size = w.heap.size + os.length
  | [], _ => rfl
  | o :: r, w => by rw [allocs, allocs_size r, List.length_cons]; simp; omega
theorem allocs_bel : ∀ (os : List Obj) (w : World), Below w.heap.size w (allocs w os)
  | [], _ => Below.refl _ _
  | o :: r, w => bel_on (bel_new w o) (allocs_bel r (w.alloc o))
theorem allocs_at : ∀ (os : List Obj) (w : World) (i : Nat) (o : Obj), os[i]? = some o → (allocs w os).heap[w.heap.size + i]? = some o
  | [], _, _, _, h => by simp at h
  | o :: r, w, 0, x, h => by
    simp at h; subst h
    have h1 : (w.alloc o).heap[w.heap.size]? = some o := heap_alloc_new w o
    exact ((allocs_bel r (w.alloc o)).block _ (lt_of_block h1)).trans h1
  | o :: r, w, i + 1, x, h => by
    have := allocs_at r (w.alloc o) i x (by simpa using h)
    rw [show (w.alloc o).heap.size + i = w.heap.size + (i + 1) by simp; omega] at this
    exact this

theorem results_cctct {fn : Func} {p q u v z : Tmp} {ty ty2 ty3 : TypeId} (h : fn.results = #[.cell p ty, .cell q ty2, .tmp u, .cell v ty3, .tmp z]) (tmps : Array Value) (P : Program) (w : World) :
    (results fn tmps).run P w =
      ((asAddr (tmps.getD p undef)).run P w).andThen fun a w₁ => ((loadVar ty a).run P w₁).andThen fun x w₂ => ((asAddr (tmps.getD q undef)).run P w₂).andThen fun a2 w₃ => ((loadVar ty2 a2).run P w₃).andThen fun y w₄ => ((asAddr (tmps.getD v undef)).run P w₄).andThen fun a3 w₅ => ((loadVar ty3 a3).run P w₅).andThen fun z3 w₆ => .ok (.tuple #[x, y, tmps.getD u undef, z3, tmps.getD z undef]) w₆ := by
  simp only [results, h]
  simp [Sem.run_bind, Result.andThen]

set_option maxRecDepth 10000 in
set_option maxHeartbeats 6400000 in
theorem pSweep_is (ka : Option Addr) (kn kc : Nat) (K : List ByteArray) (la : Option Addr) (ln lc : Nat) (C : List CoinD) (a : Option Addr) (m c : Nat) (L : List TxD) (h x : Int) (K' : List ByteArray) (L' : List TxD) (C' : List CoinD) (f : Int) (w : World)
    (hE : Env w) (hK : Bk.TextsAt w ka kn K) (hC : CoinsAt w la ln C) (sC : SlOk la ln lc) (hL : TxsAt w a m L) (hx : swE K C L h = x) (hr : swF K C L h x = (K', L', C', f)) :
    Calls Tryz.prog 23 #[.agg #[.slice ka kn kc], .slice la ln lc, .slice a m c, .int .i64 h] w fun e w' => SweepR w w' x K' L' C' f e := by
  obtain ⟨X, hX⟩ : ∃ X, X = allocs w [.cells #[.slice ka kn kc] 24, .cells #[.slice none 0 0] 24, .cells #[.slice none 0 0] 37, .cells #[.int .i64 0] 3] := ⟨_, rfl⟩
  have hbX : Below w.heap.size w X := by rw [hX]; exact allocs_bel _ _
  have hXs : X.heap.size = w.heap.size + 4 := by rw [hX]; exact allocs_size _ _
  have x0 : X.heap[w.heap.size]? = some (.cells #[.slice ka kn kc] 24 (0, 0)) := by rw [hX]; exact allocs_at _ w 0 _ rfl
  have x1 : X.heap[w.heap.size + 1]? = some (.cells #[.slice none 0 0] 24 (0, 0)) := by rw [hX]; exact allocs_at _ w 1 _ rfl
  have x2 : X.heap[w.heap.size + 2]? = some (.cells #[.slice none 0 0] 37 (0, 0)) := by rw [hX]; exact allocs_at _ w 2 _ rfl
  have x3 : X.heap[w.heap.size + 3]? = some (.cells #[.int .i64 0] 3 (0, 0)) := by rw [hX]; exact allocs_at _ w 3 _ rfl
  have hX' : X = (((w.alloc (.cells #[.slice ka kn kc] 24)).alloc (.cells #[.slice none 0 0] 24)).alloc (.cells #[.slice none 0 0] 37)).alloc (.cells #[.int .i64 0] 3) := hX
  have hKp := keepSw (w.heap.size + 2) (w.heap.size + 3) (w.heap.size + 2) (w.heap.size + 4) X C x2 x3 (by omega) (by omega) (by omega) (by omega)
  have hin : ∀ V, Gr X V (D0 (w.heap.size + 2) (w.heap.size + 4)) → Below w.heap.size w V := fun V g => g.below hbX hbX.size (fun q e => by have := e.ge; omega)
  have C1 := hide (psweep_is _ _ _ _ ka kn kc K la ln lc C a m c L h x X hKp w hin hE hK hC sC hL hx)
  have HBX := hide hbX
  have HXs := hide hXs
  have HR := hide hr
  have HIN := hide hin
  have HX1 := hide x1
  have HX2 := hide x2
  have HX3 := hide x3
  have t0 := cell_of (X := [.slice ka kn kc]) x0 0 _ rfl
  have tl := lt_of_block x0
  clear hE hK hC sC hL hx hr hbX hXs x0 x1 x2 x3 hX hKp hin
  go_enter Tryz.func23, Tryz.ntmps23
  go_wp2_with fail
  rw [← hX']
  clear hX'
  (try go_wp2_with fail)
  refine (unhide C1).mono ?_
  rintro e w1 hres
  rcases hres with ⟨h0, rfl, hb1⟩ | ⟨h0, p, D, rfl, hp, hg1, hd, hI⟩
  · have gx : (x != 0) = true := by simp [h0]
    have y1 := (hb1.block _ (lt_of_block (unhide HX1))).trans (unhide HX1)
    have y2 := (hb1.block _ (lt_of_block (unhide HX2))).trans (unhide HX2)
    have y3 := (hb1.block _ (lt_of_block (unhide HX3))).trans (unhide HX3)
    have y10 := cell_of (X := [.slice none 0 0]) y1 0 _ rfl
    have y20 := cell_of (X := [.slice none 0 0]) y2 0 _ rfl
    have y30 := cell_of (X := [.int .i64 0]) y3 0 _ rfl
    have y1f := frozen_of y1 0
    have y2f := frozen_of y2 0
    have y3f := frozen_of y3 0
    have y1l := lt_of_block y1
    have y2l := lt_of_block y2
    have y3l := lt_of_block y3
    have HRE : Hid (K' = [] ∧ L' = [] ∧ C' = [] ∧ f = 0) := by
      have := unhide HR
      unfold swF at this
      rw [if_neg h0] at this
      simp only [Prod.mk.injEq] at this
      exact ⟨this.1.symm, this.2.1.symm, this.2.2.1.symm, this.2.2.2.symm⟩
    have HB := hide (bel_on (unhide HBX) hb1)
    clear hb1 y1 y2 y3 C1 HR
    go_wp2
    (try simp only [Exit.inBlock, Exit.then])
    refine bodyPost_ret (v := .tuple #[.agg #[.slice none 0 0], .slice none 0 0, .slice none 0 0, .int .i64 0, .int .i64 x]) ?_ rfl ?_
    · rw [results_cctct rfl]
      go_simp
    · obtain ⟨rfl, rfl, rfl, rfl⟩ := unhide HRE
      exact ⟨_, _, _, _, _, _, _, _, _, rfl, fun _ _ => ⟨Bk.TextsAt.nil _ _, RowsAt.nil _ _, RowsAt.nil _ _⟩, slok_nil, slok_nil, slok_nil, ((((unhide HB).setCell (p := ⟨w.heap.size + 1, 0, none⟩) (by simp) _).setCell (p := ⟨w.heap.size + 2, 0, none⟩) (by simp) _).setCell (p := ⟨w.heap.size + 3, 0, none⟩) (by simp) _)⟩
  · obtain ⟨va, vc, Kl, hS, hf, _, _, _, _⟩ := hI
    obtain ⟨ka', kn', kc', la', ln', lc', hpb, hFr, sK', sC'⟩ := hd
    have y1 := (hg1.block _ (lt_of_block (unhide HX1)) (fun e => by have := e.ge; omega)).trans (unhide HX1)
    have y10 := cell_of (X := [.slice none 0 0]) y1 0 _ rfl
    have y20 := cell_of (X := [_]) hS.box 0 _ rfl
    have y30 := cell_of (X := [_]) hf 0 _ rfl
    have p0 := cell_of hpb 0 _ rfl
    have p1 := cell_of hpb 1 _ rfl
    have pl := lt_of_block hpb
    have y1f := frozen_of y1 0
    have y2f := frozen_of hS.box 0
    have y3f := frozen_of hf 0
    have y1l := lt_of_block y1
    have y2l := lt_of_block hS.box
    have y3l := lt_of_block hf
    subst h0
    have hRE : swGo h L (K, C) = (L', K', C') ∧ f = sumC C - sumC C' := by
      have := unhide HR
      unfold swF at this
      rw [if_pos rfl] at this
      simp only [Prod.mk.injEq] at this
      obtain ⟨r1, r2, r3, r4⟩ := this
      exact ⟨Prod.ext r2 (Prod.ext r1 r3), by rw [← r4, r3]⟩
    obtain ⟨hsw, hfe⟩ := hRE
    have e1 : (swT h L (K, C)).map (·.1) = L' := by rw [swT_map, hsw]
    have e2 : lastC C (swT h L (K, C)) = C' := by have := swT_last h L (K, C); rw [hsw] at this; exact this
    rw [hsw] at hFr
    rw [e1] at hS y20
    rw [e2, ← hfe] at hf y30
    obtain ⟨n, hn⟩ : ∃ n, L'.length = n := ⟨_, rfl⟩
    have FIN : Hid (∀ W, Gr w1 W (fun q => w.heap.size + 1 ≤ q ∧ q < w.heap.size + 4) → SweepR w W 0 K' L' C' f (.returned (.tuple #[.agg #[.slice ka' kn' kc'], .slice va n vc, .slice la' ln' lc', .int .i64 f, .int .i64 0]))) := fun W g => by
      have hxs := unhide HXs
      have hb1 := (unhide HIN) w1 hg1
      have hsz := hg1.size
      subst hn
      refine ⟨ka', kn', kc', va, L'.length, vc, la', ln', lc', rfl, fun W2 g2 => ?_, sK', (hS.reads (Gr.refl w1 (fun _ => False)) (fun _ q => q.elim)).2, sC', g.below hb1 hb1.size (fun q e => by omega)⟩
      have r1 := hFr W2 ((g.mono (fun q _ e => by omega)).trans (g2.mono (fun q _ e => by omega)))
      have r2 := (hS.reads ((g.mono (T := fun q => q < w.heap.size + 4) (fun q _ e => e.2)).trans (g2.mono (fun q _ e => by omega))) (fun q e => by omega)).1
      exact ⟨r1.1, r2, r1.2⟩
    rw [hn] at y20
    clear hS hf hFr hpb hg1 hsw hfe e1 e2 y1 HR C1 sK' sC' HX1 HX2 HX3 hn
    go_wp2_with fail
    go_region
    go_wp2
    (try simp only [Exit.inBlock, Exit.then])
    refine bodyPost_ret (v := .tuple #[.agg #[.slice ka' kn' kc'], .slice va n vc, .slice la' ln' lc', .int .i64 f, .int .i64 0]) ?_ rfl ?_
    · rw [results_cctct rfl]
      go_simp
    · exact (unhide FIN) _ ((((Gr.refl w1 (fun q => w.heap.size + 1 ≤ q ∧ q < w.heap.size + 4)).one (w.heap.size + 1) 0 (.inl (by omega)) _).one (w.heap.size + 1 + 1) 0 (.inl (by omega)) _).one (w.heap.size + 1 + 1 + 1) 0 (.inl (by omega)) _).draw

end Go.Proofs.YtmomfkikogbdeaaGreatDoor
