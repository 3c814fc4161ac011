/- The walk of the law BookSame. -/
import Derived.Test.YtfbckhaimobbmaaBookLaw
import Derived.Deep.RegionHeld3
namespace Go.Proofs.Ytfbckhaimobbmaa
open Go.RowKit Go.Maps

set_option maxRecDepth 10000 in
set_option maxHeartbeats 3200000 in
theorem same_bad (a al : Option Addr) (n c nl cl : Nat) (L M : List ByteArray) (s u : ByteArray) (k e0 : Int) (w : World) (h : TextsAt w a n L) (hM : nameR L s = (M, k, e0)) (h0 : e0 ≠ 0) :
    Calls Try.prog 4 #[.agg #[.slice a n c], .string s, .slice al nl cl, .string u] w fun e w' => e = .returned (.bool true) ∧ Below w.heap.size w w' := by
  have hb1 := bel_new w (.cells #[.slice a n c] 24)
  have HN := hide (name_any a n c L M s k e0 _ (h.later hb1) hM)
  have HB := hide hb1
  have g : (e0 != 0) = true := by simp [h0]
  clear h hb1 hM
  go_enter Try.func4, Try.ntmps4
  go_wp2_with fail
  refine (unhide HN).mono ?_
  rintro e w2 ⟨⟨a2, n2, c2, rfl, -, -⟩, hb2⟩
  have hb3 := bel_new w2 (.cells #[.slice a2 n2 c2] 24)
  have HB3 := hide (bel_on (bel_on (unhide HB) hb2) hb3)
  have BK := hide (booked_yes (w2.alloc (.cells #[.slice a2 n2 c2] 24)))
  clear hb2 hb3
  go_wp2_with fail
  refine (unhide BK).mono ?_
  rintro e w4 ⟨rfl, hb4⟩
  have HB4 := hide (bel_on (unhide HB3) hb4)
  have BK2 := hide (booked_yes w4)
  clear hb4
  go_wp2_with fail
  refine (unhide BK2).mono ?_
  rintro e w5 ⟨rfl, hb5⟩
  have HB5 := hide (bel_on (unhide HB4) hb5)
  clear hb5
  go_wp2
  go_ret
  exact ⟨rfl, unhide HB5⟩

/-- What the law says of names, in mathematics. -/
theorem same_math {L M Y : List ByteArray} {s u : ByteArray} {n : Int} (hM : nm L s = (M, n, 0)) (hY : ∃ K, Y = M ++ K) (hRY : Right Y) :
    nameR Y s = (Y, n, 0) ∧ lookT Y n = s ∧ lookE Y n = 0 ∧ ∀ Z k, nameR Y u = (Z, k, 0) → (k = n ↔ u = s) ∧ L.length ≤ Z.length ∧ Z.take L.length = L := by
  obtain ⟨K, hK⟩ := hY
  have h0 : (nm L s).2.2 = 0 := by rw [hM]
  have hp := nm_place h0
  obtain ⟨J, hJ⟩ := nm_grows h0
  rw [hM] at hp hJ
  simp only at hp hJ
  obtain ⟨p1, p2, p3⟩ := hp
  have p4 : place s Y = place s M := by rw [hK, place_stays K p2]
  have hc : bkChk Y = 0 := (right_iff Y).2 hRY
  have hle := place_le s Y
  have hin : 1 ≤ n ∧ n ≤ Y.length := by rw [p1]; omega
  refine ⟨?_, ?_, ?_, ?_⟩
  · unfold nameR; rw [if_pos hc, nm_there p3 (by omega), p4, p1]
  · unfold lookT; rw [if_pos hin]
    obtain ⟨q, hq⟩ : ∃ q, place s Y = q + 1 := ⟨place s Y - 1, by omega⟩
    have h1 := place_get hq
    have h2 : n.toNat - 1 = q := by rw [p1, ← p4, hq]; omega
    rw [h2, List.getD_eq_getElem?_getD, h1]; rfl
  · unfold lookE; rw [if_pos hin]
  · intro Z k hZ
    have hZ2 : nm Y u = (Z, k, 0) := by unfold nameR at hZ; rw [if_pos hc] at hZ; exact hZ
    have g0 : (nm Y u).2.2 = 0 := by rw [hZ2]
    have gp := nm_place g0
    obtain ⟨I, hI⟩ := nm_grows g0
    rw [hZ2] at gp hI
    simp only at gp hI
    obtain ⟨r1, r2, r3⟩ := gp
    have r4 : place s Z = place s M := by rw [hI, place_stays I (by omega), p4]
    have e : Z = L ++ (J ++ (K ++ I)) := by rw [hI, hK, hJ]; simp [List.append_assoc]
    refine ⟨⟨fun h => ?_, fun h => ?_⟩, ?_, ?_⟩
    · rw [r1, p1] at h
      exact place_one r2 (by omega)
    · subst h; rw [r1, p1, r4]
    · rw [e]; simp
    · rw [e]; simp

theorem bel_draws (w : World) : Below w.heap.size w w.drew := ⟨rfl, rfl, rfl, Nat.le_refl _, fun _ _ => rfl⟩
theorem TextsAt.setBook {w : World} {a : Option Addr} {n g : Nat} {L : List ByteArray} {v u : Value} {t : TypeId} (h : TextsAt w a n L) (hg : w.heap[g]? = some (.cells #[v] t (0, 0))) (hv : ∀ x, v ≠ .string x) : TextsAt (w.setCell ⟨g, 0, none⟩ u) a n L := by
  refine ⟨h.1, fun h0 => ?_⟩
  obtain ⟨b', off', e', hc'⟩ := h.2 h0
  refine ⟨b', off', e', fun i hi => ?_⟩
  have h2 := hc' i hi
  have hn : b' ≠ g := by
    intro e
    subst e
    rw [cell_of_row _ _ _ _ _ _ hg] at h2
    rcases hoi : off' + i with _ | o
    · rw [hoi] at h2; simp at h2; exact hv _ h2
    · rw [hoi] at h2; simp at h2
  rw [World.cell?_of_block (heap_setCell_other w ⟨g, 0, none⟩ b' u hn)]
  exact h2

theorem TextsAt.front {w : World} {a : Option Addr} {n m : Nat} {L Z : List ByteArray} (h : TextsAt w a n Z) (hm : L.length = m) (hl : m ≤ n) (ht : Z.take m = L) : TextsAt w a m L := by
  refine ⟨hm, fun h0 => ?_⟩
  obtain ⟨b, off, e, hc⟩ := h.2 (by omega)
  refine ⟨b, off, e, fun i hi => ?_⟩
  have hz := h.1
  rw [hc i (by omega)]
  subst ht
  simp

set_option maxRecDepth 10000 in
set_option maxHeartbeats 3200000 in
theorem same_ok (a al : Option Addr) (n c nl cl : Nat) (L l M Y : List ByteArray) (N2 : List Int) (s u : ByteArray) (k : Int) (w : World) (hs : SlOk a n c) (h : TextsAt w a n L) (hl : TextsAt w al nl l) (hnl : nl ≤ 17592186044416) (hR : Right L) (hM : nm L s = (M, k, 0)) (hY : allR M l = (Y, N2, 0)) :
    Calls Try.prog 4 #[.agg #[.slice a n c], .string s, .slice al nl cl, .string u] w fun e w' => e = .returned (.bool true) ∧ Below w.heap.size w w' := by
  have hRM : Right M := by have := nm_right hR (s := s) (by rw [hM]); rw [hM] at this; exact this
  have hY2 : nmGo M [] l = (Y, N2, 0) := by unfold allR at hY; rw [if_pos ((right_iff M).2 hRM)] at hY; exact hY
  have hRY : Right Y := by have := nmGo_right l M [] hRM (by rw [hY2]); rw [hY2] at this; exact this
  have hgY : ∃ K, Y = M ++ K := by have := nmGo_grows l M [] (by rw [hY2]); rw [hY2] at this; exact this
  obtain ⟨m1, m2, m3, m4⟩ := same_math (u := u) hM hgY hRY
  have hb1 := bel_new w (.cells #[.slice a n c] 24)
  have c0 := one_new w (.slice a n c) 24
  have en : nameR L s = (M, k, 0) := by unfold nameR; rw [if_pos ((right_iff L).2 hR)]; exact hM
  obtain ⟨W, hW⟩ : ∃ W, W = w.alloc (.cells #[.slice a n c] 24) := ⟨_, rfl⟩
  rw [← hW] at hb1 c0
  have HT := hide (h.later hb1)
  have HL := hide (hl.later hb1)
  have HB := hide hb1
  have C0 := hide c0
  have HN := hide (name_any a n c L M s k 0 W (unhide HT) en)
  have HS := hide hs
  have HY := hide hY
  have HR := hide hR
  have HRY := hide hRY
  have M1 := hide m1
  have M2 := hide m2
  have M3 := hide m3
  have M4 := hide m4
  have hn := hide h.1
  clear h hl hb1 c0 en hs hY hR hRY hRM hY2 hgY m1 m2 m3 m4 hM
  go_enter Try.func4, Try.ntmps4
  go_wp2_with fail
  rw [← hW]
  clear hW
  refine (unhide HN).mono ?_
  rintro e w2 ⟨⟨a2, n2, c2, rfl, t2, s2⟩, hb2⟩
  have hb3 := bel_new w2 (.cells #[.slice a2 n2 c2] 24)
  have bW3 := bel_on hb2 hb3
  have c3 := cell_later bW3 (unhide C0)
  have y3 := one_new w2 (.slice a2 n2 c2) 24
  obtain ⟨X, hX⟩ : ∃ X, X = w2.alloc (.cells #[.slice a2 n2 c2] 24) := ⟨_, rfl⟩
  rw [← hX] at bW3 c3 y3 hb3
  have BK := hide (booked_yes X)
  have BW3 := hide bW3
  have C3 := hide c3
  have Y3 := hide y3
  have T3 := hide (t2.later hb3)
  clear hb2 hb3 bW3 t2 s2 c3 y3
  go_wp2_with fail
  rw [← hX]
  clear hX
  refine (unhide BK).mono ?_
  rintro e w4 ⟨rfl, hb4⟩
  have bW4 := bel_on (unhide BW3) hb4
  have y4 := cell_later hb4 (unhide Y3)
  have l4 : w2.heap.size < w4.heap.size := World.block_lt_of_cell? _ _ y4
  have AL := hide (all_is a2 al n2 c2 nl cl M l Y N2 0 w4 ((unhide T3).later hb4) ((unhide HL).later bW4) hnl (unhide HY))
  have C4 := hide (cell_later hb4 (unhide C3))
  have BW4 := hide bW4
  clear hb4 bW4
  go_wp2_with fail
  refine (unhide AL).mono ?_
  rintro e w5 ⟨⟨a5, n5, c5, a6, n6, c6, rfl, t5, s5, -, -⟩, hb5⟩
  have hb6 := bel_new w5 (.cells #[.slice a5 n5 c5] 24)
  have b46 := bel_on hb5 hb6
  have y6 := one_new w5 (.slice a5 n5 c5) 24
  obtain ⟨V, hV⟩ : ∃ V, V = w5.alloc (.cells #[.slice a5 n5 c5] 24) := ⟨_, rfl⟩
  rw [← hV] at b46 y6 hb6
  have BW6 := hide (bel_on (unhide BW4) b46)
  have C6 := hide (cell_later b46 (unhide C4))
  have Y6 := hide y6
  have l6 : w5.heap.size < V.heap.size := World.block_lt_of_cell? _ _ y6
  have T6 := hide (t5.later hb6)
  have S5 := hide s5
  have NS := hide (name_any a5 n5 c5 Y Y s k 0 V (unhide T6) (unhide M1))
  clear hb5 hb6 b46 t5 s5 y4 l4
  go_wp2_with fail
  rw [← hV]
  clear hV
  refine (unhide NS).mono ?_
  rintro e w7 ⟨⟨a7, n7, c7, rfl, t7, s7⟩, hb7⟩
  have hb8 := bel_new w7 (.cells #[.slice a7 n7 c7] 24)
  have b78 := bel_on hb7 hb8
  have z8 := heap_alloc_new w7 (.cells #[.slice a7 n7 c7] 24)
  obtain ⟨U, hU⟩ : ∃ U, U = w7.alloc (.cells #[.slice a7 n7 c7] 24) := ⟨_, rfl⟩
  rw [← hU] at b78 z8 hb8
  have BW8 := hide (bel_on (unhide BW6) b78)
  have C8 := hide (cell_later b78 (unhide C6))
  have Y8 := hide (cell_later b78 (unhide Y6))
  have T8 := hide ((unhide T6).later b78)
  have Q8 := hide (t7.later hb8)
  have hlt7 : w.heap.size < w7.heap.size := Nat.lt_of_lt_of_le (World.block_lt_of_cell? _ _ (unhide C6)) hb7.size
  have hW7 : W.heap.size ≤ w7.heap.size := Nat.le_trans (unhide BW6).size hb7.size
  have S7 := hide s7
  have Z8 := hide z8
  have LK := hide (look_is a7 n7 c7 Y k U (unhide Q8) ((right_iff Y).2 (unhide HRY)))
  rw [unhide M2, unhide M3] at LK
  clear hb7 hb8 b78 t7 s7 z8 y6 l6
  go_wp2_with fail
  rw [← hU]
  clear hU
  refine (unhide LK).mono ?_
  rintro e w9 ⟨rfl, hb9⟩
  have BW9 := hide (bel_on (unhide BW8) hb9)
  have C9 := hide (cell_later hb9 (unhide C8))
  have y9 := cell_later hb9 (unhide Y8)
  have T9 := hide ((unhide T8).later hb9)
  have zb := (hb9.block _ (lt_of_block (unhide Z8))).trans (unhide Z8)
  have z9 : w9.cell? ⟨w7.heap.size, 0, none⟩ = some (.slice a7 n7 c7) := by simp [World.cell?, zb]
  have Z9 := hide zb
  have l9 : w7.heap.size < w9.heap.size := lt_of_block zb
  have l9' : w5.heap.size < w9.heap.size := World.block_lt_of_cell? _ _ y9
  have Y9 := hide y9
  have EQ := hide (eqStr_is a7 a5 n7 n5 c7 c5 Y Y true w9 (Nat.le_trans (unhide S7).1 (unhide S7).2.1) ((unhide Q8).later hb9) (unhide T9) (decide_eq_true rfl))
  have gk : (k != k) = false := by simp
  have gs : (s.toList == s.toList) = true := by simp
  clear hb9 zb
  go_wp2_with fail
  refine (unhide EQ).mono ?_
  rintro e w10 ⟨rfl, hb10⟩
  have BW10 := hide (bel_on (unhide BW9) hb10)
  have C10 := hide (cell_later hb10 (unhide C9))
  have y10 := cell_later hb10 (unhide Y9)
  have l10 : w5.heap.size < w10.heap.size := World.block_lt_of_cell? _ _ y10
  have Z10 := hide ((hb10.block _ (lt_of_block (unhide Z9))).trans (unhide Z9))
  obtain ⟨r, hr⟩ : ∃ r, nameR Y u = r := ⟨_, rfl⟩
  obtain ⟨Z, k2, e2⟩ := r
  have NU := hide (name_any a5 n5 c5 Y Z u k2 e2 w10 ((unhide T9).later hb10) hr)
  have MU : Hid (e2 = 0 → (k2 = k ↔ u = s) ∧ L.length ≤ Z.length ∧ Z.take L.length = L) := fun h => (unhide M4) Z k2 (by rw [hr, h])
  clear hb10 y9 z9 l9 l9' hr gk gs
  go_wp2_with fail
  refine (unhide NU).mono ?_
  rintro e w11 ⟨⟨a11, n11, c11, rfl, t11, s11⟩, hb11⟩
  have bW11 := bel_on (unhide BW10) hb11
  have zb := (hb11.block _ (lt_of_block (unhide Z10))).trans (unhide Z10)
  have z11 : w11.cell? ⟨w7.heap.size, 0, none⟩ = some (.slice a7 n7 c7) := by simp [World.cell?, zb]
  have zf : w11.frozen? ⟨w7.heap.size, 0, none⟩ = false := by simp [World.frozen?, zb]
  have c11' := cell_later hb11 (unhide C10)
  have hne : w.heap.size ≠ w7.heap.size := by omega
  have VS := hide (t11.setBook (u := .slice a11 n11 c11) zb (fun x e => by cases e))
  have hl1 : w.heap.size < w11.heap.size := World.block_lt_of_cell? _ _ c11'
  have hl2 : w7.heap.size < w11.heap.size := lt_of_block zb
  have bV : Below W.heap.size W (w11.setCell ⟨w7.heap.size, 0, none⟩ (.slice a11 n11 c11)) := bW11.setCell hW7 _
  obtain ⟨V2, hV2⟩ : ∃ V2, V2 = w11.setCell ⟨w7.heap.size, 0, none⟩ (.slice a11 n11 c11) := ⟨_, rfl⟩
  have d1 : V2.cell? ⟨w7.heap.size, 0, none⟩ = some (.slice a11 n11 c11) := by rw [hV2, cell_of_row _ _ _ _ _ _ (heap_setCell_same w11 w7.heap.size 0 _ _ _ zb)]; rfl
  have d2 : V2.cell? ⟨w.heap.size, 0, none⟩ = some (.slice a n c) := by
    rw [hV2, World.cell?_of_block (heap_setCell_other w11 ⟨w7.heap.size, 0, none⟩ w.heap.size _ hne)]; exact c11'
  rw [← hV2] at VS bV
  have BV := hide bV
  have SX := hide s11
  clear zb hb11 t11 bW11 s11 bV y10 l10
  by_cases h2 : e2 = 0
  · subst h2
    obtain ⟨u1, u2, u3⟩ := (unhide MU) rfl
    have hnL := unhide hn
    have hZ := (unhide VS).1
    have C : Hid (∀ w', Below V2.heap.size V2 w' → Calls Try.prog 13 #[.slice a11 n c11, .slice a n c] w' fun e w'' => e = .returned (.bool true) ∧ Below w'.heap.size w' w'') := fun w' hw' =>
      eqStr_is a11 a n n c11 c L L true w' (Nat.le_trans (unhide HS).1 (unhide HS).2.1) (((unhide VS).later hw').front hnL (by omega) (by rw [← hnL]; exact u3)) (((unhide HT).later (unhide BV)).later hw') (decide_eq_true rfl)
    obtain ⟨b, hb⟩ : ∃ b, decide (u = s) = b := ⟨_, rfl⟩
    have g1 : (k2 == k) = b := by
      rw [← hb]
      by_cases e : u = s
      · rw [decide_eq_true e, u1.2 e]; simp
      · rw [decide_eq_false e]; simp; exact fun h => e (u1.1 h)
    have g2 : (u.toList == s.toList) = b := by
      rw [← hb]
      by_cases e : u = s
      · rw [decide_eq_true e, e]; simp
      · rw [decide_eq_false e]; exact str_ne e
    have g3 : (n : Int) ≤ (n11 : Int) := by omega
    have g4 : n ≤ c11 := by have := (unhide SX).1; omega
    have g5 : (n : Int) ≤ (c11 : Int) := by omega
    have g6 : (b == b) = true := by simp
    clear u1 u2 u3 hb MU
    go_wp2_with fail
    rw [← hV2]
    clear hV2
    go_region_held3 (fun w' => Below V2.heap.size V2 w' ∧ w'.cell? ⟨w7.heap.size, 0, none⟩ = some (.slice a11 n11 c11) ∧ w'.cell? ⟨w.heap.size, 0, none⟩ = some (.slice a n c))
      (first
      | exact ⟨bel_draws _, d1, d2⟩
      | (go_split_ands
         refine ⟨bel_on (by assumption) hbc, cell_later hbc (by assumption), cell_later hbc (by assumption)⟩))
      (first | (go_at_call 13; go_split_ands; refine ((unhide C) _ (by assumption)).mono ?_; rintro e w' ⟨rfl, hbc⟩))
    rename_i hH
    have HH := hide hH.1
    clear hH
    go_wp2
    go_ret
    exact ⟨rfl, bel_on (unhide HB) (bel_on (unhide BV) (unhide HH))⟩
  · have g : (e2 != 0) = true := by simp [h2]
    clear MU
    go_wp2_with fail
    rw [← hV2]
    clear hV2
    go_quiet (fail)
    go_wp2
    go_ret
    exact ⟨rfl, bel_on (unhide HB) (bel_on (unhide BV) (below_dw _ _))⟩

end Go.Proofs.Ytfbckhaimobbmaa
