/- The contracts of the reference's NamedAll and of the law's closed fact. -/
import Derived.Test.YtepmnpapdknocaaGreatDoorBookRef
import Derived.Deep.AppendLies
namespace Go.Proofs.YtepmnpapdknocaaGreatDoor.Bk
open Go.RowKit Go.Maps

theorem ints_of_own {w : World} {base : Nat} {v : Value} {n : Nat} {N : List Int} (h : w.ownsRow base 3 1 v n (N.map (Value.int .i64))) : ∃ a cap, v = .slice a n cap ∧ SlOk a n cap ∧ IntsAt w a n N := by
  have hl : N.length = n := by have := h.1; simpa using this
  rcases h.2 with ⟨rfl, rfl⟩ | ⟨g, cap, cur, rfl, _, _, h1, h2, _, _⟩
  · have e : N = [] := List.length_eq_zero_iff.1 hl
    subst e
    exact ⟨none, 0, rfl, SlOk.nil, IntsAt.nil _ _⟩
  · refine ⟨_, cap, rfl, ⟨h1, h2, fun e => by cases e⟩, hl, fun _ => ⟨g, 0, rfl, fun i hi => ?_⟩⟩
    rw [Nat.zero_add, World.ownsRow.cellAt h i (by omega)]
    simp [hi]

set_option maxRecDepth 10000 in
set_option maxHeartbeats 3200000 in
theorem namedAll_is (a al : Option Addr) (n c nl cl : Nat) (L l M : List ByteArray) (N : List Int) (x : Int) (w : World) (hR : Right L) (h : TextsAt w a n L) (hs : SlOk a n c) (hl : TextsAt w al nl l) (hnl : nl ≤ 17592186044416) (hx : nmGo L [] l = (M, N, x)) :
    Calls Tryz.prog 38 #[.slice a n c, .slice al nl cl] w fun e w' => (∃ a' n' c' a2 n2 c2, e = .returned (.tuple #[.slice a' n' c', .slice a2 n2 c2, .int .i64 x]) ∧ TextsAt w' a' n' M ∧ SlOk a' n' c' ∧ IntsAt w' a2 n2 N ∧ n2 ≤ nl ∧ n2 ≤ c2) ∧ Below w.heap.size w w' := by
  obtain ⟨i0, hi, hz0, hz1, hz2⟩ := info_parts Tryz.infoInt
  have HT := hide h
  have HS := hide hs
  have HLL := hide hl
  have HNL := hide hnl
  have HX := hide hx
  have HR := hide hR
  have OWN0 : Hid (w.ownsRow w.heap.size 3 1 (.slice none 0 0) 0 (([] : List Int).map (Value.int .i64))) := ⟨rfl, Or.inl ⟨rfl, rfl⟩⟩
  clear h hs hl hx hR
  go_enter Tryz.func38, Tryz.ntmps38
  go_wp2
  go_loopw [0, 7, 15] (fun t v i wr => ∃ (j : Nat) (L' : List ByteArray) (N' : List Int) (a' : Option Addr) (n' c' : Nat), j ≤ nl ∧ i = .int .i64 j ∧ t = .slice a' n' c' ∧ Below w.heap.size w wr ∧ Hid (TextsAt wr a' n' L' ∧ SlOk a' n' c') ∧ Hid (n' = 0 ∨ ∀ y, a' = some y → v.ownBlock ≠ some y.block) ∧ Hid (wr.ownsRow w.heap.size 3 1 v j (N'.map (Value.int .i64))) ∧ Hid (Right L' ∧ nmGo L' N' (l.drop j) = (M, N, x))) (fun _ _ i _ => nl - (intOf i).toNat)
  case atStart => exact ⟨0, L, [], a, n, c, Nat.zero_le _, rfl, rfl, Below.refl _ _, ⟨unhide HT, unhide HS⟩, (Or.inr (fun y _ e => by cases e)), OWN0, ⟨unhide HR, unhide HX⟩⟩
  case round =>
    obtain ⟨j, L', N', a', n', c', hk, rfl, rfl, hbw, HT', HAP, HO, HN⟩ := hrel
    have HB := hide hbw
    by_cases hlt : j < nl
    · obtain ⟨hz, hcs⟩ := unhide HLL
      obtain ⟨b, off, rfl, hc⟩ := hcs (by omega)
      have hlj : j < l.length := by omega
      have f := cell_later hbw (hc j hlj)
      obtain ⟨q2, q3⟩ := unhide HN
      rw [nmGo_at hlj] at q3
      obtain ⟨s, hs⟩ : ∃ s, l[j] = s := ⟨_, rfl⟩
      rw [hs] at f q3
      obtain ⟨r, hr⟩ : ∃ r, nm L' s = r := ⟨_, rfl⟩
      rw [hr] at q3
      obtain ⟨M', k', e'⟩ := r
      simp only at q3
      have CN := hide (named_is a' n' c' L' M' s k' e' _ q2.1 (unhide HT').1 (unhide HT').2 hr)
      have NR : Hid (e' = 0 → Right M') := fun h => by
        have := nm_right (L := L') (s := s) q2
        rw [hr] at this
        exact this h
      clear hs hc hcs hbw hr hz
      by_cases he : e' = 0
      · subst he
        rw [if_pos rfl] at q3
        have Q3 := hide q3
        have NR2 : Hid (Right M') := (unhide NR) rfl
        clear q3 q2 NR
        obtain ⟨av, cv, rfl, sv, -⟩ := ints_of_own (unhide HO)
        go_wp2_with fail
        refine (unhide CN).mono ?_
        rintro y w5 ⟨⟨a5, n5, c5, rfl, t1, t2, t3⟩, hb5⟩
        have AP5 : Hid (n5 = 0 ∨ ∀ y, a5 = some y → (Value.slice av j cv).ownBlock ≠ some y.block) := by
          rcases t3 with ⟨h1, h2⟩ | h
          · rw [h1, h2]; exact unhide HAP
          · refine Or.inr (fun y e e2 => ?_)
            have h3 := ((unhide HO).lt _ e2).2
            have h4 := h y e
            omega
        have T5 := hide t1
        have S5 := hide t2
        have HB5 := hide (bel_on (unhide HB) hb5)
        have hb6 := bel_new w5 (.cells #[.int .i64 k'] 3)
        have OWN5 := hide (own_type (own_type (unhide HO) (fun k cs _ hk => hb5.block k (lt_of_block hk))) (fun k cs _ hk => hb6.block k (lt_of_block hk)))
        have NEWS := hide (World.news_of_block (heap_alloc_new w5 (.cells #[.int .i64 k'] 3)))
        have HB6 := hide (bel_on (unhide HB5) hb6)
        have T6 := hide ((unhide T5).later hb6)
        clear t1 t2 t3 hb5 hb6 sv
        go_wp2_with (at_builtin; refine wpList_append_lies _ rfl _ _ 30 rfl w.heap.size 3 i0 (.int .i64 0) 1 8 Tryz.underlying30 hi hz0 hz1 hz2 rfl (by decide) _ _ _ rfl (unhide OWN5) ⟨w5.heap.size, 0, none⟩ 1 1 [.int .i64 k'] rfl rfl (unhide NEWS) (fun u hu => by simp at hu; subst hu; rfl) (by decide) (by have := unhide HNL; unfold maxLen; omega) (by have := unhide HNL; omega) (unhide HB6).size _ rfl ?_; intro g7 cap7 w7 hown7 hgrow7 hor7 _)
        have OWN7 : Hid (w7.ownsRow w.heap.size 3 1 (.slice (some ⟨g7, 0, none⟩) (j + 1) cap7) (j + 1) ((N' ++ [k']).map (Value.int .i64))) := by
          show World.ownsRow _ _ _ _ _ _ _
          rw [List.map_append]; exact hown7
        have hb7 := (unhide HB6).grown hgrow7 (unhide HB6).size (own_ge (unhide OWN5))
        have HB7 := hide hb7
        have T7 : Hid (TextsAt w7 a5 n5 M') := by
          refine ⟨(unhide T6).1, fun h0 => ?_⟩
          obtain ⟨b', off', e', hc'⟩ := (unhide T6).2 h0
          refine ⟨b', off', e', fun i hi => ?_⟩
          have h2 := hc' i hi
          rw [World.cell?_of_block (hgrow7.block b' (World.block_lt_of_cell? _ _ h2) (fun e => by
            rcases unhide AP5 with h | h
            · omega
            · exact h _ e' e.symm))]
          exact h2
        have AP7 : Hid (n5 = 0 ∨ ∀ y, a5 = some y → (Value.slice (some ⟨g7, 0, none⟩) (j + 1) cap7).ownBlock ≠ some y.block) := by
          rcases Nat.eq_zero_or_pos n5 with h0 | h0
          · exact Or.inl h0
          · refine Or.inr (fun y e e2 => ?_)
            have e3 : g7 = y.block := by injection e2
            rcases hor7 with h | h
            · rcases unhide AP5 with h5 | h5
              · omega
              · exact h5 y e (h.trans (by rw [e3]))
            · have := (unhide T6).lt y e h0
              omega
        clear hown7 hgrow7 hor7 hb7
        refine ⟨⟨j + 1, M', N' ++ [k'], a5, n5, c5, by omega, by go_num, rfl, unhide HB7, ⟨unhide T7, unhide S5⟩, AP7, OWN7, ⟨unhide NR2, unhide Q3⟩⟩, ?_⟩
        simp [intOf]; omega
      · rw [if_neg he] at q3
        have e1 : M = [] := by injection q3 with q3 _; exact q3.symm
        have e2 : N = [] := by injection q3 with _ q3; injection q3 with q3 _; exact q3.symm
        have e3 : x = e' := by injection q3 with _ q3; injection q3 with _ q3; exact q3.symm
        subst e1 e2 e3
        have g5 : (x != 0) = true := by simp [he]
        clear q3 q2
        go_wp2_with fail
        refine (unhide CN).mono ?_
        rintro y w5 ⟨⟨a5, n5, c5, rfl, -, -⟩, hb5⟩
        have HB5 := hide (bel_on (unhide HB) hb5)
        clear hb5
        go_wp2
        go_ret3
        exact ⟨⟨_, _, _, _, _, _, rfl, TextsAt.nil _ _, SlOk.nil, IntsAt.nil _ _, Nat.zero_le _, Nat.le_refl _⟩, unhide HB5⟩
    · have e : j = nl := by omega
      subst e
      obtain ⟨q2, q3⟩ := unhide HN
      rw [nmGo_end (by rw [(unhide HLL).1]; exact Nat.le_refl _)] at q3
      have e1 : M = L' := by injection q3 with q3 _; exact q3.symm
      have e2 : N = N' := by injection q3 with _ q3; injection q3 with q3 _; exact q3.symm
      have e3 : x = 0 := by injection q3 with _ q3; injection q3 with _ q3; exact q3.symm
      subst e1 e2 e3
      obtain ⟨av, cv, rfl, sv, iv⟩ := ints_of_own (unhide HO)
      have hsv1 := sv.1
      have IV := hide iv
      clear q2 q3 iv sv hbw
      go_wp2
      go_ret3
      exact ⟨⟨_, _, _, _, _, _, rfl, (unhide HT').1, (unhide HT').2, unhide IV, Nat.le_refl _, hsv1⟩, unhide HB⟩

end Go.Proofs.YtepmnpapdknocaaGreatDoor.Bk
