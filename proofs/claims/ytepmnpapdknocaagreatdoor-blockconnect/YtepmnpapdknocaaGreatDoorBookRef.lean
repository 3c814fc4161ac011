/- Contracts of the reference's CheckBook, Named. -/
import Derived.Test.YtepmnpapdknocaaGreatDoorBookConcat
import Derived.Test.YtepmnpapdknocaaGreatDoorBookIdx
namespace Go.Proofs.YtepmnpapdknocaaGreatDoor.Bk
open Go.RowKit Go.Maps

theorem idx_lt {L : List ByteArray} {j : Nat} (h : j < L.length) : (idx L[j] L < (j : Int)) ↔ place L[j] (L.take j) ≠ 0 := by
  have h1 := place_at h
  unfold idx
  rw [place_take]
  by_cases h2 : place L[j] L ≤ j
  · rw [if_pos h2]; constructor
    · intro _; omega
    · intro _; omega
  · rw [if_neg h2]; constructor
    · intro h3; omega
    · intro h3; exact absurd rfl h3
theorem idx_ge (s : ByteArray) (L : List ByteArray) : -1 ≤ idx s L ∧ idx s L < L.length := by
  have := place_le s L
  unfold idx; omega

set_option maxRecDepth 10000 in
set_option maxHeartbeats 3200000 in
theorem rcheck_is (a : Option Addr) (n c : Nat) (L : List ByteArray) (w : World) (h : TextsAt w a n L) (x : Int) (hx : bkChk L = x) :
    Calls Tryz.prog 9 #[.agg #[.slice a n c]] w fun e w' => e = .returned (.int .i64 x) ∧ Below w.heap.size w w' := by
  have hb := bel_new w (.cells #[.slice a n c] 24)
  have c0 := one_new w (.slice a n c) 24
  obtain ⟨W, hW⟩ : ∃ W, W = w.alloc (.cells #[.slice a n c] 24) := ⟨_, rfl⟩
  have hz := h.1
  by_cases h1 : 120 < n
  · have e : x = 2 := by rw [← hx]; unfold bkChk; rw [if_pos (by omega)]
    subst e
    have g : (120 : Int) < (n : Int) := by omega
    have HB := hide hb
    clear h hx h1 hz hb c0 hW
    go_enter Tryz.func9, Tryz.ntmps9
    go_wp2
    go_ret
    exact ⟨rfl, unhide HB⟩
  · have g : ¬ (120 : Int) < (n : Int) := by omega
    have HX : Hid (bkGo [] L = x) := by show _ = _; rw [← hx]; unfold bkChk; rw [if_neg (by omega)]
    rw [← hW] at hb c0
    have HB := hide hb
    have HT := hide (h.later hb)
    have C0 := hide c0
    have hn : n ≤ 120 := by omega
    clear h hx h1 hb c0 hz
    go_enter Tryz.func9, Tryz.ntmps9
    go_wp2
    rw [← hW]
    clear hW
    go_loopw [12] (fun i wr => ∃ j : Nat, j ≤ n ∧ i = .int .i64 j ∧ Below W.heap.size W wr ∧ Hid (bkGo (L.take j) (L.drop j) = x)) (fun i _ => n - (intOf i).toNat)
    case atStart => exact ⟨0, Nat.zero_le _, rfl, Below.refl _ _, unhide HX⟩
    case round =>
      obtain ⟨j, hk, rfl, hbw, A⟩ := hrel
      have HBW := hide hbw
      by_cases hlt : j < n
      · have ht := (unhide HT).later hbw
        obtain ⟨hz, hcs⟩ := ht
        obtain ⟨b, off, rfl, hc⟩ := hcs (by omega)
        have hlj : j < L.length := by omega
        have f := hc j hlj
        have c1 := cell_later hbw (unhide C0)
        have hl1 : w.heap.size < wr.heap.size := World.block_lt_of_cell? _ _ c1
        have S := bk_at hlj
        rw [unhide A] at S
        have IL := idx_lt hlj
        have IG := idx_ge L[j] L
        obtain ⟨s, hs⟩ : ∃ s, L[j] = s := ⟨_, rfl⟩
        rw [hs] at f S IL IG
        have IX := hide (index_is (some ⟨b, off, none⟩) n c L s (idx s L) wr (by unfold maxLen; omega) ((unhide HT).later hbw) rfl)
        obtain ⟨q, hq⟩ : ∃ q, idx s L = q := ⟨_, rfl⟩
        rw [hq] at IL IX IG
        clear hs hq hbw A hc hcs hz
        by_cases h2 : 4000 < s.size
        · rw [if_pos h2] at S
          subst S
          have g2 : (4000 : Int) < (s.size : Int) := by omega
          clear h2 IL IG
          go_wp2
          go_ret
          exact ⟨rfl, bel_on (unhide HB) (unhide HBW)⟩
        · rw [if_neg h2] at S
          have g2 : ¬ (4000 : Int) < (s.size : Int) := by omega
          by_cases h3 : place s (L.take j) ≠ 0
          · rw [if_pos h3] at S
            subst S
            have g3 := IL.2 h3
            clear h2 h3 IL IG
            go_wp2_with fail
            refine (unhide IX).mono ?_
            rintro e w2 ⟨rfl, hb2⟩
            have HB2 := hide (bel_on (bel_on (unhide HB) (unhide HBW)) hb2)
            clear hb2
            go_wp2
            go_ret
            exact ⟨rfl, unhide HB2⟩
          · rw [if_neg h3] at S
            have HS : Hid (bkGo (L.take (j + 1)) (L.drop (j + 1)) = x) := S.symm
            have g3 : ¬ q < (j : Int) := fun h => h3 (IL.1 h)
            clear h2 h3 IL IG S
            go_wp2_with fail
            refine (unhide IX).mono ?_
            rintro e w2 ⟨rfl, hb2⟩
            have HB2 := hide (bel_on (unhide HBW) hb2)
            clear hb2
            go_wp2
            go_roundw
            case rel => exact ⟨j + 1, by omega, by go_num, unhide HB2, HS⟩
            case measure => simp [intOf]; omega
      · have R : Hid (x = 0) := by show _ = _; rw [← unhide A]; exact bk_end (by rw [(unhide HT).1]; omega)
        clear A hbw
        go_wp2
        go_ret
        exact ⟨by rw [unhide R]; rfl, bel_on (unhide HB) (unhide HBW)⟩

set_option maxRecDepth 10000 in
set_option maxHeartbeats 3200000 in
theorem named_is (a : Option Addr) (n c : Nat) (L M : List ByteArray) (s : ByteArray) (k x : Int) (w : World) (hL : L.length ≤ 120) (h : TextsAt w a n L) (hs : SlOk a n c) (hx : nm L s = (M, k, x)) :
    Calls Tryz.prog 82 #[.slice a n c, .string s] w fun e w' => (∃ a' n' c', e = .returned (.tuple #[.slice a' n' c', .int .i64 k, .int .i64 x]) ∧ TextsAt w' a' n' M ∧ SlOk a' n' c' ∧ (a' = a ∧ n' = n ∨ ∀ y, a' = some y → w.heap.size ≤ y.block)) ∧ Below w.heap.size w w' := by
  have hz := h.1
  by_cases h1 : 4000 < s.size
  · have e1 : nm L s = ([], 0, 2) := by unfold nm; rw [if_pos h1]
    rw [e1] at hx
    obtain ⟨rfl, hn2⟩ := Prod.mk.injEq .. ▸ hx
    obtain ⟨rfl, rfl⟩ := Prod.mk.injEq .. ▸ hn2
    have g : (4000 : Int) < (s.size : Int) := by omega
    clear hx hn2 e1 h1 h hs hL hz
    go_enter Tryz.func82, Tryz.ntmps82
    go_wp2
    go_ret3
    exact ⟨⟨_, _, _, rfl, TextsAt.nil _ _, SlOk.nil, Or.inr (fun y e => by cases e)⟩, Below.refl _ _⟩
  · have g : ¬ (4000 : Int) < (s.size : Int) := by omega
    have hn : n ≤ 120 := by omega
    have HX : Hid ((if place s L ≠ 0 then (L, (place s L : Int), 0) else if 120 ≤ L.length then ([], 0, 12) else (L ++ [s], (L.length : Int) + 1, 0)) = (M, k, x)) := by
      show _ = _
      rw [← hx]; unfold nm; rw [if_neg h1]
    have HT := hide h
    have HS := hide hs
    clear h hs hx h1 hz hL
    go_enter Tryz.func82, Tryz.ntmps82
    go_wp2
    go_loop [14] (fun i => ∃ j : Nat, j ≤ n ∧ i = .int .i64 j ∧ Hid (place s (L.take j) = 0)) (fun i => n - (intOf i).toNat)
    case atStart => exact ⟨0, Nat.zero_le _, rfl, rfl⟩
    case round =>
      obtain ⟨j, hk, rfl, A⟩ := hrel
      by_cases hlt : j < n
      · obtain ⟨hz, hcs⟩ := unhide HT
        obtain ⟨b, off, rfl, hc⟩ := hcs (by omega)
        have hlj : j < L.length := by omega
        have f := hc j hlj
        have PS := hide (place_skip hlj (unhide A))
        have PH := hide (place_hit hlj (unhide A))
        obtain ⟨t, ht⟩ : ∃ t, L[j] = t := ⟨_, rfl⟩
        rw [ht] at f PS PH
        clear ht A hc hcs hz
        by_cases e : t = s
        · subst e
          have e2 := (unhide PH) rfl
          have q := unhide HX
          rw [e2, if_pos (by omega)] at q
          have q1 : L = M := by injection q
          have q2 : ((j + 1 : Nat) : Int) = k := by injection q with _ q; injection q
          have q3 : (0 : Int) = x := by injection q with _ q; injection q
          subst q1 q3
          have q4 : k = (j : Int) + 1 := by omega
          subst q4
          clear PS PH q q2 e2
          go_wp2
          go_ret3
          exact ⟨⟨_, _, _, rfl, unhide HT, unhide HS, Or.inl ⟨rfl, rfl⟩⟩, Below.refl _ _⟩
        · have R := hide ((unhide PS) e)
          have g2 := str_ne e
          clear PS PH e
          go_wp2
          go_round
          case rel => exact ⟨j + 1, by omega, by go_num, R⟩
          case measure => simp [intOf]; omega
      · have p0 := unhide A
        rw [List.take_of_length_le (by rw [(unhide HT).1]; omega)] at p0
        have q := unhide HX
        rw [p0, if_neg (by omega)] at q
        have hzl := (unhide HT).1
        by_cases h2 : 120 ≤ L.length
        · rw [if_pos h2] at q
          obtain ⟨rfl, hn2⟩ := Prod.mk.injEq .. ▸ q
          obtain ⟨rfl, rfl⟩ := Prod.mk.injEq .. ▸ hn2
          have g2 : (120 : Int) ≤ (n : Int) := by omega
          clear q hn2 p0 h2 A hzl
          go_wp2
          go_ret3
          exact ⟨⟨_, _, _, rfl, TextsAt.nil _ _, SlOk.nil, Or.inr (fun y e => by cases e)⟩, Below.refl _ _⟩
        · rw [if_neg h2] at q
          obtain ⟨rfl, hn2⟩ := Prod.mk.injEq .. ▸ q
          obtain ⟨rfl, rfl⟩ := Prod.mk.injEq .. ▸ hn2
          have g2 : ¬ (120 : Int) ≤ (n : Int) := by omega
          have hb1 := bel_new w (.cells #[.string s] 9)
          have hs1 : (w.alloc (.cells #[.string s] 9)).heap.size = w.heap.size + 1 := by simp
          have hb2 := bel_new (w.alloc (.cells #[.string s] 9)) (.cells #[.slice a n c, .slice (some ⟨w.heap.size, 0, none⟩) 1 1] 22)
          have c0 : ((w.alloc (.cells #[.string s] 9)).alloc (.cells #[.slice a n c, .slice (some ⟨w.heap.size, 0, none⟩) 1 1] 22)).cell? ⟨w.heap.size + 1, 0, none⟩ = some (.slice a n c) := by rw [← hs1, World.cell?_alloc_at _ _ _ _ rfl]; rfl
          have c1 : ((w.alloc (.cells #[.string s] 9)).alloc (.cells #[.slice a n c, .slice (some ⟨w.heap.size, 0, none⟩) 1 1] 22)).cell? ⟨w.heap.size + 1, 1, none⟩ = some (.slice (some ⟨w.heap.size, 0, none⟩) 1 1) := by rw [← hs1, World.cell?_alloc_at _ _ _ _ rfl]; rfl
          have CT := hide (concat_two (w.heap.size + 1) a ⟨w.heap.size, 0, none⟩ n c 1 1 L [s] _ (by omega) ((unhide HT).later (bel_on hb1 hb2)) ((one_text w s).later hb2) (unhide HS).2.2 c0 c1)
          have HB := hide (bel_on hb1 hb2)
          have hzz := hide hzl
          clear q hn2 p0 h2 A hb1 hb2 hs1 c0 c1 hzl
          go_wp2_with fail
          refine (unhide CT).mono ?_
          rintro e w2 ⟨a', cap', rfl, t1, t2, t3, hb2⟩
          have T3 : Hid (∀ y, a' = some y → w.heap.size ≤ y.block) := fun y e => Nat.le_trans (unhide HB).size (t3 y e)
          have HB2 := hide (bel_on (unhide HB) hb2)
          have T1 := hide t1
          have T2 := hide t2
          clear t1 t2 t3 hb2
          go_wp2
          go_ret3
          refine ⟨⟨a', n + 1, cap', ?_, unhide T1, unhide T2, Or.inr (unhide T3)⟩, unhide HB2⟩
          rw [unhide hzz]; rfl

end Go.Proofs.YtepmnpapdknocaaGreatDoor.Bk
