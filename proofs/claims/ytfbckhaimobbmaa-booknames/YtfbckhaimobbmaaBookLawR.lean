/- The walk of the law BookNames at a right book. -/
import Derived.Test.YtfbckhaimobbmaaBookLaw
namespace Go.Proofs.Ytfbckhaimobbmaa
open Go.RowKit Go.Maps

set_option maxRecDepth 10000 in
set_option maxHeartbeats 3200000 in
theorem names_right (a al : Option Addr) (n c nl cl : Nat) (L l : List ByteArray) (s : ByteArray) (m : Int) (M M2 : List ByteArray) (N2 : List Int) (k e0 f0 : Int) (w : World) (hs : SlOk a n c) (h : TextsAt w a n L) (hl : TextsAt w al nl l) (hnl : nl ≤ 17592186044416) (hx : bkChk L = 0) (hM : nm L s = (M, k, e0)) (hM2 : nmGo L [] l = (M2, N2, f0)) (hm1 : -9223372036854775808 ≤ m) :
    Calls Try.prog 3 #[.agg #[.slice a n c], .string s, .slice al nl cl, .int .i64 m] w fun e w' => e = .returned (.bool true) ∧ Below w.heap.size w w' := by
  have hb1 := bel_new w (.cells #[.slice a n c] 24)
  have c0 := one_new w (.slice a n c) 24
  have en : nameR L s = (M, k, e0) := by unfold nameR; rw [if_pos hx]; exact hM
  have ea : allR L l = (M2, N2, f0) := by unfold allR; rw [if_pos hx]; exact hM2
  obtain ⟨W, hW⟩ : ∃ W, W = w.alloc (.cells #[.slice a n c] 24) := ⟨_, rfl⟩
  rw [← hW] at hb1 c0
  have HT := hide (h.later hb1)
  have HL := hide (hl.later hb1)
  have HB := hide hb1
  have C0 := hide c0
  have HN := hide (name_any a n c L M s k e0 W (unhide HT) en)
  have HS := hide hs
  have HM := hide hM
  have HM2 := hide hM2
  have HR := hide ((right_iff L).1 hx)
  have hn := hide h.1
  clear hs hM hM2
  clear h hl hb1 c0 en
  go_enter Try.func3, Try.ntmps3
  go_wp2_with fail
  rw [← hW]
  clear hW
  refine (unhide HN).mono ?_
  rintro e w2 ⟨⟨a2, n2, c2, rfl, t2, s2⟩, hb2⟩
  have hb3 := bel_new w2 (.cells #[.slice a2 n2 c2] 24)
  have bW3 := bel_on hb2 hb3
  have c3 := cell_later bW3 (unhide C0)
  have l3 : w.heap.size < (w2.alloc (.cells #[.slice a2 n2 c2] 24)).heap.size := World.block_lt_of_cell? _ _ c3
  have y3 := one_new w2 (.slice a2 n2 c2) 24
  obtain ⟨X, hX⟩ : ∃ X, X = w2.alloc (.cells #[.slice a2 n2 c2] 24) := ⟨_, rfl⟩
  rw [← hX] at bW3 c3 l3 y3 hb3
  have q2 : w2.heap.size < X.heap.size := World.block_lt_of_cell? _ _ y3
  have p2 := cell_later hb2 (unhide C0)
  have r2 : w.heap.size < w2.heap.size := World.block_lt_of_cell? _ _ p2
  have AL := hide (all_is a al n c nl cl L l M2 N2 f0 X ((unhide HT).later bW3) ((unhide HL).later bW3) hnl ea)
  have BW3 := hide bW3
  have C3 := hide c3
  have T3 := hide (t2.later hb3)
  have S2 := hide s2
  have Y3 := hide y3
  clear hb2 hb3 bW3 t2 s2 ea
  go_wp2_with fail
  rw [← hX]
  clear hX
  refine (unhide AL).mono ?_
  rintro e w4 ⟨⟨a4, n4, c4, a5, n5, c5, rfl, t4, s4, t5, s5⟩, hb4⟩
  have hb5 := bel_new w4 (.cells #[.slice a4 n4 c4] 24)
  have bX5 := bel_on hb4 hb5
  have bW5 := bel_on (unhide BW3) bX5
  have c6 := cell_later bX5 (unhide C3)
  have y6 := cell_later bX5 (unhide Y3)
  have v6 := one_new w4 (.slice a4 n4 c4) 24
  obtain ⟨Y, hY⟩ : ∃ Y, Y = w4.alloc (.cells #[.slice a4 n4 c4] 24) := ⟨_, rfl⟩
  rw [← hY] at c6 y6 v6 bW5 bX5
  have p4 := cell_later hb4 (unhide C3)
  have r4 : w.heap.size < w4.heap.size := World.block_lt_of_cell? _ _ p4
  clear p2
  rw [← hY] at hb5
  have T5 := hide ((unhide T3).later bX5)
  have U5 := hide (t4.later hb5)
  have I5 := hide (t5.later hb5)
  have S4 := hide s4
  have S5 := hide s5
  have LK := hide (look_is a n c L m Y ((unhide HT).later bW5) hx)
  obtain ⟨lt, hlt⟩ : ∃ lt, lookT L m = lt := ⟨_, rfl⟩
  obtain ⟨le, hle⟩ : ∃ le, lookE L m = le := ⟨_, rfl⟩
  rw [hlt, hle] at LK
  have HLT := hide hlt
  have HLE := hide hle
  have BW5 := hide bW5
  have C6 := hide c6
  have Y6 := hide y6
  have V6 := hide v6
  have l6 : w.heap.size < Y.heap.size := World.block_lt_of_cell? _ _ c6
  clear hb4 hb5 bX5 bW5 t4 t5 c3 y3 l3 s4 s5 hlt hle
  go_wp2_with fail
  rw [← hY]
  clear hY
  refine (unhide LK).mono ?_
  rintro e w7 ⟨rfl, hb7⟩
  have bW7 := bel_on (unhide BW5) hb7
  have c7 := cell_later hb7 (unhide C6)
  have y7 := cell_later hb7 (unhide Y6)
  have v7 := cell_later hb7 (unhide V6)
  have l7 : w.heap.size < w7.heap.size := World.block_lt_of_cell? _ _ c7
  have RC := hide (rcheck_is a n c L w7 ((unhide HT).later bW7) 0 hx)
  have BW7 := hide bW7
  have C7 := hide c7
  have Y7 := hide y7
  have V7 := hide v7
  have T7 := hide ((unhide T5).later hb7)
  have U7 := hide ((unhide U5).later hb7)
  have I7 := hide ((unhide I5).later hb7)
  clear hb7 bW7 c6 y6 v6 l6 y7 v7
  go_wp2_with fail
  refine (unhide RC).mono ?_
  rintro e w8 ⟨rfl, hb8⟩
  have BK := hide (booked_yes w8)
  have BW8 := hide (bel_on (unhide BW7) hb8)
  have C8 := hide (cell_later hb8 (unhide C7))
  have Y8 := hide (cell_later hb8 (unhide Y7))
  have V8 := hide (cell_later hb8 (unhide V7))
  have T8 := hide ((unhide T7).later hb8)
  have U8 := hide ((unhide U7).later hb8)
  have I8 := hide ((unhide I7).later hb8)
  clear hb8 c7 l7
  go_wp2_with fail
  refine (unhide BK).mono ?_
  rintro e w9 ⟨rfl, hb9⟩
  have bW9 := bel_on (unhide BW8) hb9
  have c9 := cell_later hb9 (unhide C8)
  have Y9 := hide (cell_later hb9 (unhide Y8))
  have V9 := hide (cell_later hb9 (unhide V8))
  have l9 : w.heap.size < w9.heap.size := World.block_lt_of_cell? _ _ c9
  have CK := hide (check_is a n c L w9 ((unhide HT).later bW9) 0 hx)
  have BW9 := hide bW9
  have C9 := hide c9
  have T9 := hide ((unhide T8).later hb9)
  have U9 := hide ((unhide U8).later hb9)
  have I9 := hide ((unhide I8).later hb9)
  clear hb9 bW9
  go_wp2_with fail
  refine (unhide CK).mono ?_
  rintro e w10 ⟨rfl, hb10⟩
  have bW10 := bel_on (unhide BW9) hb10
  have BW10 := hide bW10
  have c10 := cell_later hb10 (unhide C9)
  have Y10 := hide (cell_later hb10 (unhide Y9))
  have V10 := hide (cell_later hb10 (unhide V9))
  have T10 := hide ((unhide T9).later hb10)
  have U10 := hide ((unhide U9).later hb10)
  have I10 := hide ((unhide I9).later hb10)
  have C10 := hide c10
  have l10 : w.heap.size < w10.heap.size := World.block_lt_of_cell? _ _ c10
  have NA := hide (named_is a n c L M s k e0 w10 (unhide HR).1 ((unhide HT).later bW10) (unhide HS) (unhide HM))
  clear hb10 c9 l9 bW10
  go_wp2_with fail
  refine (unhide NA).mono ?_
  rintro e w11 ⟨⟨a11, n11, c11, rfl, t11, s11, -⟩, hb11⟩
  have bW11 := bel_on (unhide BW10) hb11
  have BW11 := hide bW11
  have c11' := cell_later hb11 (unhide C10)
  have l11 : w.heap.size < w11.heap.size := World.block_lt_of_cell? _ _ c11'
  have C11 := hide c11'
  have Y11 := hide (cell_later hb11 (unhide Y10))
  have V11 := hide (cell_later hb11 (unhide V10))
  have T11 := hide ((unhide T10).later hb11)
  have U11 := hide ((unhide U10).later hb11)
  have I11 := hide ((unhide I10).later hb11)
  have X11 := hide t11
  have NB := hide (namedAll_is a al n c nl cl L l M2 N2 f0 w11 (unhide HR) ((unhide HT).later bW11) (unhide HS) ((unhide HL).later bW11) hnl (unhide HM2))
  clear hb11 c10 l10 bW11 t11 s11
  go_wp2_with fail
  refine (unhide NB).mono ?_
  rintro e w12 ⟨⟨a12, n12, c12, a13, n13, c13, rfl, t12, s12, t13, s13⟩, hb12⟩
  have BW12 := hide (bel_on (unhide BW11) hb12)
  have C12 := hide (cell_later hb12 (unhide C11))
  have y12 := cell_later hb12 (unhide Y11)
  have l12 : w2.heap.size < w12.heap.size := World.block_lt_of_cell? _ _ y12
  have V12 := hide (cell_later hb12 (unhide V11))
  have U12 := hide ((unhide U11).later hb12)
  have I12 := hide ((unhide I11).later hb12)
  have X12 := hide t12
  have Z12 := hide t13
  have E1 := hide (eqStr_is a2 a11 n2 n11 c2 c11 M M true w12 (Nat.le_trans (unhide S2).1 (unhide S2).2.1) ((unhide T11).later hb12) ((unhide X11).later hb12) (decide_eq_true rfl))
  have ge : (e0 != e0) = false := by simp
  have gk : (k != k) = false := by simp
  have gf : (f0 != f0) = false := by simp
  clear hb12 c11' l11 t12 s12 t13
  go_wp2_with fail
  refine (unhide E1).mono ?_
  rintro e w13 ⟨rfl, hb13⟩
  have BW13 := hide (bel_on (unhide BW12) hb13)
  have C13 := hide (cell_later hb13 (unhide C12))
  have v13 := cell_later hb13 (unhide V12)
  have l13 : w4.heap.size < w13.heap.size := World.block_lt_of_cell? _ _ v13
  have I13 := hide ((unhide I12).later hb13)
  have Z13 := hide ((unhide Z12).later hb13)
  have E2 := hide (eqStr_is a4 a12 n4 n12 c4 c12 M2 M2 true w13 (Nat.le_trans (unhide S4).1 (unhide S4).2.1) ((unhide U12).later hb13) ((unhide X12).later hb13) (decide_eq_true rfl))
  clear hb13 y12 l12
  go_wp2_with fail
  refine (unhide E2).mono ?_
  rintro e w14 ⟨rfl, hb14⟩
  have BW14 := hide (bel_on (unhide BW13) hb14)
  have C14 := hide (cell_later hb14 (unhide C13))
  have E3 := hide (eqInt_is a5 a13 n5 n13 c5 c13 N2 N2 true w14 (by have := unhide S5; unfold maxLen; omega) ((unhide I13).later hb14) ((unhide Z13).later hb14) (decide_eq_true rfl))
  clear hb14 v13 l13
  go_wp2_with fail
  refine (unhide E3).mono ?_
  rintro e w15 ⟨rfl, hb15⟩
  have bW15 := bel_on (unhide BW14) hb15
  have c15 := cell_later hb15 (unhide C14)
  have l15 : w.heap.size < w15.heap.size := World.block_lt_of_cell? _ _ c15
  have BW15 := hide bW15
  have HT15 := hide ((unhide HT).later bW15)
  clear hb15 bW15
  have hz := unhide hn
  have h120 := (unhide HR).1
  by_cases hr : 1 ≤ m ∧ m ≤ L.length
  · obtain ⟨q, hq⟩ : ∃ q : Nat, m = (q : Int) + 1 := ⟨(m - 1).toNat, by omega⟩
    subst hq
    have hql : q < L.length := by omega
    have e1 : lt = L[q] := by
      rw [← unhide HLT]; unfold lookT; rw [if_pos hr]
      have : ((q : Int) + 1).toNat - 1 = q := by omega
      rw [this]; simp [hql]
    have e2 : le = 0 := by rw [← unhide HLE]; unfold lookE; rw [if_pos hr]
    subst e2
    obtain ⟨b, off, rfl, hc⟩ := (unhide HT15).2 (by omega)
    have f := hc q hql
    rw [← e1] at f
    have g1 : ¬ (q : Int) + 1 < 1 := by omega
    have g2 : (q : Int) + 1 ≤ (n : Int) := by omega
    have g3 : (q : Int) < (n : Int) := by omega
    have g4 : (q : Int) < 120 := by omega
    have g5 : (0 : Int) ≤ (q : Int) := by omega
    clear hr e1 hc
    go_wp2
    go_ret
    exact ⟨rfl, bel_on (unhide HB) (unhide BW15)⟩
  · have e1 : lt = ⟨#[]⟩ := by rw [← unhide HLT]; unfold lookT; rw [if_neg hr]
    have e2 : le = 5 := by rw [← unhide HLE]; unfold lookE; rw [if_neg hr]
    subst e1 e2
    by_cases g1 : m < 1
    · clear hr
      go_wp2
      go_ret
      exact ⟨rfl, bel_on (unhide HB) (unhide BW15)⟩
    · have g2 : (n : Int) < m := by omega
      clear hr
      go_wp2
      go_ret
      exact ⟨rfl, bel_on (unhide HB) (unhide BW15)⟩

end Go.Proofs.Ytfbckhaimobbmaa
