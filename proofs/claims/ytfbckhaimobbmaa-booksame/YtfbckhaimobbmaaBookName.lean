/- The contract of Name. -/
import Derived.Test.YtfbckhaimobbmaaBookAllW
namespace Go.Proofs.Ytfbckhaimobbmaa
open Go.RowKit Go.Maps

/-- What Name answers: the book then, the name, the error. -/
def nameR (L : List ByteArray) (s : ByteArray) : List ByteArray × Int × Int := if bkChk L = 0 then nm L s else ([], 0, bkChk L)

theorem one_text (w : World) (s : ByteArray) : TextsAt (w.alloc (.cells #[.string s] 9)) (some ⟨w.heap.size, 0, none⟩) 1 [s] :=
  ⟨rfl, fun _ => ⟨w.heap.size, 0, rfl, fun i hi => by
    have e : i = 0 := by simp at hi; omega
    subst e
    exact one_new w (.string s) 9⟩⟩

/-- What All answers, in one contract. -/
theorem all_is (a al : Option Addr) (n c nl cl : Nat) (L l M : List ByteArray) (N : List Int) (x : Int) (w : World) (h : TextsAt w a n L) (hl : TextsAt w al nl l) (hnl : nl ≤ 17592186044416) (hx : allR L l = (M, N, x)) :
    Calls Try.prog 6 #[.agg #[.slice a n c], .slice al nl cl] w fun e w' => (∃ a' n' c' a2 n2 c2, e = .returned (.tuple #[.agg #[.slice a' n' c'], .slice a2 n2 c2, .int .i64 x]) ∧ TextsAt w' a' n' M ∧ SlOk a' n' c' ∧ IntsAt w' a2 n2 N ∧ n2 ≤ nl) ∧ Below w.heap.size w w' := by
  unfold allR at hx
  by_cases h0 : bkChk L = 0
  · rw [if_pos h0] at hx
    exact all_right a al n c nl cl L l M N x w h hl hnl ((right_iff L).1 h0) hx
  · rw [if_neg h0] at hx
    have e1 : M = [] := by injection hx with hx _; exact hx.symm
    have e2 : N = [] := by injection hx with _ hx; injection hx with hx _; exact hx.symm
    have e3 : bkChk L = x := by injection hx with _ hx; injection hx with _ hx
    subst e1 e2
    refine (all_bad a al n c nl cl L w h x e3 (by rw [← e3]; exact h0)).mono ?_
    rintro e w' ⟨rfl, hb⟩
    exact ⟨⟨_, _, _, _, _, _, rfl, TextsAt.nil _ _, SlOk.nil, IntsAt.nil _ _, Nat.zero_le _⟩, hb⟩

/-- All of one text. -/
theorem all_one (L : List ByteArray) (s : ByteArray) : allR L [s] = ((nameR L s).1, (if (nameR L s).2.2 = 0 then [(nameR L s).2.1] else []), (nameR L s).2.2) := by
  unfold allR nameR
  by_cases h0 : bkChk L = 0
  · rw [if_pos h0, if_pos h0]
    simp only [nmGo, List.nil_append]
    by_cases h1 : (nm L s).2.2 = 0
    · rw [if_pos h1, if_pos h1]; rw [h1]
    · rw [if_neg h1, if_neg h1]
      have : (nm L s).1 = [] := by
        unfold nm at *
        by_cases h2 : 4000 < s.size
        · rw [if_pos h2]
        · rw [if_neg h2] at *
          by_cases h3 : place s L ≠ 0
          · rw [if_pos h3] at h1; exact absurd rfl h1
          · rw [if_neg h3] at *
            by_cases h4 : 120 ≤ L.length
            · rw [if_pos h4]
            · rw [if_neg h4] at h1; exact absurd rfl h1
      rw [this]
  · rw [if_neg h0, if_neg h0]
    simp [h0]
theorem name_err {L : List ByteArray} {s : ByteArray} (h : (nameR L s).2.2 ≠ 0) : (nameR L s).1 = [] ∧ (nameR L s).2.1 = 0 := by
  unfold nameR at *
  by_cases h0 : bkChk L = 0
  · rw [if_pos h0] at *
    unfold nm at *
    by_cases h2 : 4000 < s.size
    · rw [if_pos h2]; exact ⟨rfl, rfl⟩
    · rw [if_neg h2] at *
      by_cases h3 : place s L ≠ 0
      · rw [if_pos h3] at h; exact absurd rfl h
      · rw [if_neg h3] at *
        by_cases h4 : 120 ≤ L.length
        · rw [if_pos h4]; exact ⟨rfl, rfl⟩
        · rw [if_neg h4] at h; exact absurd rfl h
  · rw [if_neg h0]; exact ⟨rfl, rfl⟩

set_option maxRecDepth 10000 in
set_option maxHeartbeats 3200000 in
theorem name_any (a : Option Addr) (n c : Nat) (L M : List ByteArray) (s : ByteArray) (k x : Int) (w : World) (h : TextsAt w a n L) (hx : nameR L s = (M, k, x)) :
    Calls Try.prog 5 #[.agg #[.slice a n c], .string s] w fun e w' => (∃ a' n' c', e = .returned (.tuple #[.agg #[.slice a' n' c'], .int .i64 k, .int .i64 x]) ∧ TextsAt w' a' n' M ∧ SlOk a' n' c') ∧ Below w.heap.size w w' := by
  have hb1 := bel_new w (.cells #[.slice a n c] 24)
  have hb2 := bel_new (w.alloc (.cells #[.slice a n c] 24)) (.cells #[.slice none 0 0] 24)
  have hs1 : (w.alloc (.cells #[.slice a n c] 24)).heap.size = w.heap.size + 1 := by simp
  have hs2 : ((w.alloc (.cells #[.slice a n c] 24)).alloc (.cells #[.slice none 0 0] 24)).heap.size = w.heap.size + 1 + 1 := by simp
  have c1 := heap_alloc_new (w.alloc (.cells #[.slice a n c] 24)) (.cells #[.slice none 0 0] 24)
  rw [hs1] at c1
  have hb3 := bel_new ((w.alloc (.cells #[.slice a n c] 24)).alloc (.cells #[.slice none 0 0] 24)) (.cells #[.string s] 9)
  have ht := one_text ((w.alloc (.cells #[.slice a n c] 24)).alloc (.cells #[.slice none 0 0] 24)) s
  rw [hs2] at ht
  have hb := bel_on (bel_on hb1 hb2) hb3
  have c2 := (hb3.block _ (lt_of_block c1)).trans c1
  have ea := all_one L s
  rw [hx] at ea
  have ER := name_err (L := L) (s := s)
  rw [hx] at ER
  simp only at ea ER
  have AL := hide (all_is a (some ⟨w.heap.size + 1 + 1, 0, none⟩) n c 1 1 L [s] M (if x = 0 then [k] else []) x _ (h.later hb) ht (by decide) ea)
  have HB := hide hb
  have C2 := hide c2
  clear h hx ea hb hb1 hb2 hb3 hs1 hs2 c1 c2 ht
  by_cases h0 : x = 0
  · subst h0
    rw [if_pos rfl] at AL
    clear ER
    go_enter Try.func5, Try.ntmps5
    go_wp2_with fail
    refine (unhide AL).mono ?_
    rintro e w2 ⟨⟨a', n', c', a2, n2, c2, rfl, t1, t2, t3, -⟩, hb2⟩
    obtain ⟨t4, t5⟩ := t3
    have e : n2 = 1 := by rw [← t4]; rfl
    subst e
    obtain ⟨b, off, rfl, hc⟩ := t5 (by decide)
    have f := hc 0 (by simp)
    simp only [Nat.add_zero, List.getElem_cons_zero] at f
    have HB2 := hide (bel_on (unhide HB) hb2)
    have c3 := (hb2.block _ (lt_of_block (unhide C2))).trans (unhide C2)
    have hb3 := bel_new w2 (.cells #[.slice a' n' c'] 24)
    have c4 := (hb3.block _ (lt_of_block c3)).trans c3
    have HT := hide t1
    have HOK := hide t2
    have hlt : w.heap.size + 1 < w2.heap.size := lt_of_block c3
    have f2 := cell_later hb3 f
    have n0 := one_new w2 (.slice a' n' c') 24
    have hne : b ≠ w.heap.size + 1 := by
      intro e
      subst e
      rw [cell_of_row _ _ _ _ _ _ c3] at f
      rcases off with _ | off
      · simp at f
      · simp at f
    obtain ⟨X, hX⟩ : ∃ X, X = w2.alloc (.cells #[.slice a' n' c'] 24) := ⟨_, rfl⟩
    rw [← hX] at c4 f2 n0 hb3
    have HB3 := hide (bel_on (unhide HB2) hb3)
    have HT3 := hide (t1.later hb3)
    have d0 : X.cell? ⟨w.heap.size + 1, 0, none⟩ = some (.slice none 0 0) := by simp [World.cell?, c4]
    have df : X.frozen? ⟨w.heap.size + 1, 0, none⟩ = false := by simp [World.frozen?, c4]
    have hbl : b < X.heap.size := World.block_lt_of_cell? _ _ f2
    have hne2 : ¬ w2.heap.size = w.heap.size + 1 := by omega
    have TS : Hid (∀ u, TextsAt (X.setCell ⟨w.heap.size + 1, 0, none⟩ u) a' n' M) := fun u => by
      refine ⟨(unhide HT3).1, fun h0 => ?_⟩
      obtain ⟨b', off', e', hc'⟩ := (unhide HT3).2 h0
      refine ⟨b', off', e', fun i hi => ?_⟩
      have h2 := hc' i hi
      have hn : b' ≠ w.heap.size + 1 := by
        intro e
        subst e
        rw [cell_of_row _ _ _ _ _ _ c4] at h2
        rcases hoi : off' + i with _ | o
        · rw [hoi] at h2; simp at h2
        · rw [hoi] at h2; simp at h2
      rw [World.cell?_of_block (heap_setCell_other X ⟨w.heap.size + 1, 0, none⟩ b' u hn)]
      exact h2
    clear t1 t2 hb2 hb3 c3 c4 f hc t4 t5
    go_wp2
    rw [← hX]
    clear hX
    go_region
    go_wp2
    (try simp only [Exit.then])
    refine bodyPost_ret (v := .tuple #[.agg #[.slice a' n' c'], .int .i64 k, .int .i64 0]) ?_ rfl ⟨⟨_, _, _, rfl, (unhide TS) _, unhide HOK⟩, ?_⟩
    · rw [results_cell_tmp2 rfl]
      go_simp
    · exact ((unhide HB3).setCell (Nat.le_succ _) _).drew
  · rw [if_neg h0] at AL
    obtain ⟨rfl, rfl⟩ := ER h0
    have g : (x != 0) = true := by simp [h0]
    go_enter Try.func5, Try.ntmps5
    go_wp2_with fail
    refine (unhide AL).mono ?_
    rintro e w2 ⟨⟨a', n', c', a2, n2, c2, rfl, t1, t2, t3, -⟩, hb2⟩
    have HB2 := hide (bel_on (unhide HB) hb2)
    have c3 := (hb2.block _ (lt_of_block (unhide C2))).trans (unhide C2)
    have hb3 := bel_new w2 (.cells #[.slice a' n' c'] 24)
    have c4 := (hb3.block _ (lt_of_block c3)).trans c3
    have HB3 := hide (bel_on (unhide HB2) hb3)
    have hlt : w.heap.size + 1 < w2.heap.size := lt_of_block c3
    have d0 : w2.cell? ⟨w.heap.size + 1, 0, none⟩ = some (.slice none 0 0) := by simp [World.cell?, c3]
    have df : w2.frozen? ⟨w.heap.size + 1, 0, none⟩ = false := by simp [World.frozen?, c3]
    clear t1 t2 t3 hb2 hb3 c3 c4
    go_wp2
    (try simp only [Exit.inBlock, Exit.then])
    refine bodyPost_ret (v := .tuple #[.agg #[.slice none 0 0], .int .i64 0, .int .i64 x]) ?_ rfl ⟨⟨_, _, _, rfl, TextsAt.nil _ _, SlOk.nil⟩, ?_⟩
    · rw [results_cell_tmp2 rfl]
      go_simp
    · exact ((unhide HB2).setCell (Nat.le_succ _) _).alloc (by have := (unhide HB2).size; simp; omega) _

end Go.Proofs.Ytfbckhaimobbmaa
