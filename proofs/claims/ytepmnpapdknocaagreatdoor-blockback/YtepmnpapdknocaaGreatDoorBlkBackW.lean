/- The law BlockBack answers true (written by a program of ours: mkbb.py). -/
import Derived.Test.YtepmnpapdknocaaGreatDoorBlkDisAToBlkPieces
import Derived.Test.YtepmnpapdknocaaGreatDoorBlkParse
import Derived.Test.YtepmnpapdknocaaGreatDoorBlkBackMToBlkArr
import Derived.Test.YtepmnpapdknocaaGreatDoorBookEqToCoinTotal
import Derived.Test.YtepmnpapdknocaaGreatDoorTxSameToCoinEq
namespace Go.Proofs.YtepmnpapdknocaaGreatDoor
open Go.RowKit

theorem sameB_self (b : BlkD) : sameB b b = true := (sameB_iff b b).2 rfl
theorem rw_bd {h r : Int} (e : rwD h = (r, 0)) : 0 ≤ r ∧ r ≤ 64 := by
  unfold rwD at e
  split at e
  · injection e with e _
    have := rwN_le ((h - 1).toNat / 8)
    omega
  · injection e with _ e
    exact absurd e (by decide)

set_option maxRecDepth 10000 in
set_option maxHeartbeats 12800000 in
theorem lawBBack_any (ka : Option Addr) (kn kc : Nat) (K : List ByteArray) (la : Option Addr) (ln lc : Nat) (C : List CoinD) (p h k n : Int) (a : Option Addr) (m c : Nat) (L : List TxD) (w : World) (hE : EnvP w) (hK : Bk.TextsAt w ka kn K) (hC : CoinsAt w la ln C) (sC : SlOk la ln lc) (hL : TxsAt w a m L) (hm : m ≤ maxLen) :
    Calls Tryz.prog 4 #[.agg #[.slice ka kn kc], .slice la ln lc, .agg #[.int .i64 p, .int .i64 h, .int .i64 k, .int .i64 n, .slice a m c]] w fun e w' => e = .returned (.bool true) ∧ Below w.heap.size w w' := by
  obtain ⟨X, hX⟩ : ∃ X, X = (w.alloc (.cells #[.slice ka kn kc] 24)).alloc (.cells #[.int .i64 p, .int .i64 h, .int .i64 k, .int .i64 n, .slice a m c] 28) := ⟨_, rfl⟩
  have hbX : Below w.heap.size w X := by rw [hX]; exact bel_on (bel_new _ _) (bel_new _ _)
  have hX1 : X.heap[w.heap.size]? = some (.cells [.slice ka kn kc].toArray 24 (0, 0)) := by
    rw [hX, Below.heap_alloc _ _ _ (by simp)]; exact one_heap _ _ _
  have hX2 : X.heap[w.heap.size + 1]? = some (.cells [.int .i64 p, .int .i64 h, .int .i64 k, .int .i64 n, .slice a m c].toArray 28 (0, 0)) := by
    rw [hX]
    have := five_heap (w.alloc (.cells #[.slice ka kn kc] 24)) (.int .i64 p) (.int .i64 h) (.int .i64 k) (.int .i64 n) (.slice a m c) 28
    rw [show (w.alloc (.cells #[.slice ka kn kc] 24)).heap.size = w.heap.size + 1 by simp] at this
    exact this
  obtain ⟨z, hz⟩ : ∃ z, chkB (p, h, k, n, L) = z := ⟨_, rfl⟩
  obtain ⟨t, ht⟩ : ∃ t, blkT (p, h, k, n, L) = t := ⟨_, rfl⟩
  obtain ⟨⟨x, M, S⟩, hx⟩ : ∃ r, conD K C (p, h, k, n, L) = r := ⟨_, rfl⟩
  have hEX := hE.later hbX
  have hKX := hK.later hbX
  have hCX := hC.later hbX
  have hLX := hL.later hbX
  have P1 := hide (blkPrint_is p h k n a m c L t z X hEX.env hLX hz ht)
  have CN := hide (fun W (hw : Below X.heap.size X W) => connect_is ka kn kc K la ln lc C p h k n a m c L x M S W (hEX.env.later hw) (hKX.later hw) (hCX.later hw) sC (hLX.later hw) hx)
  have LD := hide (fun W (hw : Below X.heap.size X W) => laid_yes W (hEX.env.later hw))
  have HEX := hide hEX
  have HKX := hide hKX
  have HCX := hide hCX
  have HLX := hide hLX
  have HBX := hide hbX
  have HX1 := hide hX1
  have HX2 := hide hX2
  have HZ := hide hz
  have HT := hide ht
  have HCO := hide hx
  have HSC := hide sC
  have x00 := cell_of hX1 0 _ rfl
  have x10 := cell_of hX2 0 _ rfl
  have x11 := cell_of hX2 1 _ rfl
  have x12 := cell_of hX2 2 _ rfl
  have x13 := cell_of hX2 3 _ rfl
  have x14 := cell_of hX2 4 _ rfl
  have xl := lt_of_block hX2
  clear hE hK hC sC hL hEX hKX hCX hLX hbX hX1 hX2 hz ht hx
  go_enter Tryz.func4, Tryz.ntmps4
  go_wp2_with fail
  rw [← hX]
  clear hX
  go_wp2_with fail
  refine (unhide P1).mono ?_
  rintro e w1 ⟨rfl, hb1⟩
  have HB1 := hide hb1
  clear hb1 P1 x00 x10 x11 x12 x13 x14 xl
  by_cases hzz : z = 0 ∧ t.size ≤ 4000
  · obtain ⟨hz0, hts⟩ := hzz
    subst hz0
    have htx : t = blkText (p, h, k, n, L) := by rw [← unhide HT]; unfold blkT; rw [unhide HZ]; rfl
    have hpr : prB t = (0, (p, h, k, n, L)) := by rw [htx]; exact blk_back _ (unhide HZ) (by rw [← htx]; exact hts)
    have PA := hide (blkParse_any t w1 ((unhide HEX).later (unhide HB1)) 0 (p, h, k, n, L) hpr)
    have hti : ((t.size : Nat) : Int) ≤ 4000 := by omega
    have htd : decide (((t.size : Nat) : Int) ≤ 4000) = true := by simpa using hti
    clear htx hpr hts
    go_wp2_with fail
    refine (unhide PA).mono ?_
    rintro e w2 ⟨a2, m2, c2, rfl, hL2, sL2, hb2⟩
    simp only at hL2 ⊢
    obtain ⟨Y, hY⟩ : ∃ Y, Y = w2.alloc (.cells #[.int .i64 p, .int .i64 h, .int .i64 k, .int .i64 n, .slice a2 m2 c2] 28) := ⟨_, rfl⟩
    have hbY : Below w2.heap.size w2 Y := by rw [hY]; exact bel_new _ _
    have hYb : Y.heap[w2.heap.size]? = some (.cells [.int .i64 p, .int .i64 h, .int .i64 k, .int .i64 n, .slice a2 m2 c2].toArray 28 (0, 0)) := by rw [hY]; exact five_heap _ _ _ _ _ _ _
    have HBY := hide (bel_on (bel_on (unhide HB1) hb2) hbY)
    have SB := hide (blkSame_is p h k n p h k n a a2 m c m2 c2 L L true Y hm ((unhide HLX).later (unhide HBY)) (hL2.later hbY) (sameB_self _))
    have HB2 := hide (bel_on (unhide HB1) hb2)
    clear hL2 sL2 hb2 hbY hYb PA
    have y1 := ((unhide HB2).block _ (lt_of_block (unhide HX1))).trans (unhide HX1)
    have y2 := ((unhide HB2).block _ (lt_of_block (unhide HX2))).trans (unhide HX2)
    have y00 := cell_of y1 0 _ rfl
    have y10 := cell_of y2 0 _ rfl
    have y11 := cell_of y2 1 _ rfl
    have y12 := cell_of y2 2 _ rfl
    have y13 := cell_of y2 3 _ rfl
    have y14 := cell_of y2 4 _ rfl
    have yl := lt_of_block y2
    clear y1 y2
    go_wp2_with fail
    rw [← hY]
    clear hY
    refine (unhide SB).mono ?_
    rintro e w3 ⟨rfl, hb3⟩
    have HB3 := hide (bel_on (unhide HBY) hb3)
    clear hb3 SB y00 y10 y11 y12 y13 y14 yl
    have yc1 := ((unhide HB3).block _ (lt_of_block (unhide HX1))).trans (unhide HX1)
    have yc2 := ((unhide HB3).block _ (lt_of_block (unhide HX2))).trans (unhide HX2)
    have yc00 := cell_of yc1 0 _ rfl
    have yc10 := cell_of yc2 0 _ rfl
    have yc11 := cell_of yc2 1 _ rfl
    have yc12 := cell_of yc2 2 _ rfl
    have yc13 := cell_of yc2 3 _ rfl
    have yc14 := cell_of yc2 4 _ rfl
    have ycl := lt_of_block yc2
    clear yc1 yc2
    have C4 := hide ((unhide CN) w3 (unhide HB3))
    clear CN
    go_wp2_with fail
    refine (unhide C4).mono ?_
    rintro e w4 ⟨am, nm, cm, ua, un, uc, rfl, hM, sM, hU, sU, hb4⟩
    have HB4 := hide (bel_on (unhide HB3) hb4)
    have HM := hide hM
    have HU := hide hU
    have HSM := hide sM
    have C5 := hide ((unhide LD) w4 (unhide HB4))
    clear hM sM hU sU hb4 C4 yc00 yc10 yc11 yc12 yc13 yc14 ycl
    go_wp2_with fail
    refine (unhide C5).mono ?_
    rintro e w5 ⟨rfl, hb5⟩
    have HB5 := hide (bel_on (unhide HB4) hb5)
    have H45 := hide hb5
    clear hb5 C5
    by_cases hx0 : x = 0
    · subst hx0
      obtain ⟨hRC, hRM, hcb, hSl, hdis, hsum, hrw⟩ := con_all (unhide HCO)
      obtain ⟨r, hr⟩ : ∃ r, (rwD h).1 = r := ⟨_, rfl⟩
      have hrD : rwD h = (r, 0) := by rw [← hr]; exact Prod.ext rfl hrw
      have DC := hide (disconnect_is ka kn kc K am nm cm M p h k n a m c L ua un uc S 0 C w5 ((unhide HEX).env.later (unhide HB5)) ((unhide HKX).later (unhide HB5)) ((unhide HM).later (unhide H45)) (unhide HSM) ((unhide HLX).later (unhide HB5)) ((unhide HU).later (unhide H45)) hdis)
      have T1 := hide (fun W (hw : Below X.heap.size X W) => total_is la ln lc C 0 (sumC C) W ((unhide HCX).later hw) ((ckCoins_zero C).2 hRC) (if_pos rfl))
      have T2 := hide (fun W (hw : Below w4.heap.size w4 W) => total_is am nm cm M 0 (sumC M) W ((unhide HM).later hw) ((ckCoins_zero M).2 hRM) (if_pos rfl))
      have RW := hide (fun W => reward_is h r 0 W hrD)
      have b1 := hRC.sum
      have b2 := hRM.sum
      have b3 : 0 ≤ sumC C := sumC_nonneg C fun y hy => by have := ck1_zero (hRC.one y hy); omega
      have b4 : 0 ≤ r ∧ r ≤ 64 := rw_bd hrD
      have b5 : sumC M ≤ sumC C + r := by rw [← hr]; exact hsum
      have b6 : 0 ≤ sumC M := sumC_nonneg M fun y hy => by have := ck1_zero (hRM.one y hy); omega
      obtain ⟨s1, hs1⟩ : ∃ s1, sumC C = s1 := ⟨_, rfl⟩
      obtain ⟨s2, hs2⟩ : ∃ s2, sumC M = s2 := ⟨_, rfl⟩
      rw [hs1] at b1 b3 b5 T1
      rw [hs2] at b2 b5 b6 T2
      clear hRC hRM hcb hSl hdis hsum hrw hr hrD hs1 hs2 HCO LD
      have y1 := ((unhide HB5).block _ (lt_of_block (unhide HX1))).trans (unhide HX1)
      have y2 := ((unhide HB5).block _ (lt_of_block (unhide HX2))).trans (unhide HX2)
      have y00 := cell_of y1 0 _ rfl
      have y10 := cell_of y2 0 _ rfl
      have y11 := cell_of y2 1 _ rfl
      have y12 := cell_of y2 2 _ rfl
      have y13 := cell_of y2 3 _ rfl
      have y14 := cell_of y2 4 _ rfl
      have yl := lt_of_block y2
      clear y1 y2
      go_wp2_with fail
      refine (unhide DC).mono ?_
      rintro e w6 ⟨ba, bn, bc, rfl, hBk, sBk, hb6⟩
      have HB6 := hide (bel_on (unhide HB5) hb6)
      have H46 := hide (bel_on (unhide H45) hb6)
      have HBK := hide hBk
      have HSB := hide sBk.len
      have C7 := hide ((unhide T1) w6 (unhide HB6))
      clear hBk sBk hb6 DC T1 y00 y10 y11 y12 y13 y14 yl
      go_wp2_with fail
      refine (unhide C7).mono ?_
      rintro e w7 ⟨rfl, hb7⟩
      have HB7 := hide (bel_on (unhide HB6) hb7)
      have H47 := hide (bel_on (unhide H46) hb7)
      have H67 := hide hb7
      have C8 := hide ((unhide T2) w7 (unhide H47))
      clear hb7 C7 T2
      go_wp2_with fail
      refine (unhide C8).mono ?_
      rintro e w8 ⟨rfl, hb8⟩
      have HB8 := hide (bel_on (unhide HB7) hb8)
      have H68 := hide (bel_on (unhide H67) hb8)
      have C9 := hide ((unhide RW) w8)
      clear hb8 C8 RW
      have y1 := ((unhide HB8).block _ (lt_of_block (unhide HX1))).trans (unhide HX1)
      have y2 := ((unhide HB8).block _ (lt_of_block (unhide HX2))).trans (unhide HX2)
      have y00 := cell_of y1 0 _ rfl
      have y10 := cell_of y2 0 _ rfl
      have y11 := cell_of y2 1 _ rfl
      have y12 := cell_of y2 2 _ rfl
      have y13 := cell_of y2 3 _ rfl
      have y14 := cell_of y2 4 _ rfl
      have yl := lt_of_block y2
      clear y1 y2
      go_wp2_with fail
      refine (unhide C9).mono ?_
      rintro e w9 ⟨rfl, hb9⟩
      have HB9 := hide (bel_on (unhide HB8) hb9)
      have H69 := hide (bel_on (unhide H68) hb9)
      have C10 := hide (uSame_is ba la bn ln bc lc C C true w9 (unhide HSB) ((unhide HBK).later (unhide H69)) ((unhide HCX).later (unhide HB9)) (sameL_yes rfl))
      clear hb9 C9 y00 y10 y11 y12 y13 y14 yl
      go_wp2_with fail
      refine (unhide C10).mono ?_
      rintro e w10 ⟨rfl, hb10⟩
      have HW := hide (bel_on (unhide HBX) (bel_on (unhide HB9) hb10))
      have hle : decide (s2 ≤ s1 + r) = true := by simp; omega
      clear hb10 C10
      go_wp2
      go_ret
      exact ⟨rfl, unhide HW⟩
    · have g1 : (x != 0) = true := by simp [hx0]
      have C6 := hide ((unhide LD) w5 (unhide HB5))
      clear LD
      go_wp2_with fail
      refine (unhide C6).mono ?_
      rintro e w6 ⟨rfl, hb6⟩
      have HW := hide (bel_on (unhide HBX) (bel_on (unhide HB5) hb6))
      clear hb6 C6
      go_wp2
      go_ret
      exact ⟨rfl, unhide HW⟩
  · have gz : (if z = 0 then decide (((t.size : Nat) : Int) ≤ 4000) else false) = false := by
      by_cases q : z = 0
      · rw [if_pos q, decide_eq_false]; intro r; exact hzz ⟨q, by omega⟩
      · rw [if_neg q]
    have yc1 := ((unhide HB1).block _ (lt_of_block (unhide HX1))).trans (unhide HX1)
    have yc2 := ((unhide HB1).block _ (lt_of_block (unhide HX2))).trans (unhide HX2)
    have yc00 := cell_of yc1 0 _ rfl
    have yc10 := cell_of yc2 0 _ rfl
    have yc11 := cell_of yc2 1 _ rfl
    have yc12 := cell_of yc2 2 _ rfl
    have yc13 := cell_of yc2 3 _ rfl
    have yc14 := cell_of yc2 4 _ rfl
    have ycl := lt_of_block yc2
    clear yc1 yc2
    by_cases hz0 : z = 0
    · subst hz0
      have hti : ¬ ((t.size : Nat) : Int) ≤ 4000 := fun r => hzz ⟨rfl, by omega⟩
      have htd : decide (((t.size : Nat) : Int) ≤ 4000) = false := by simpa using hti
      clear gz hzz
      have C4 := hide ((unhide CN) w1 (unhide HB1))
      clear CN
      go_wp2_with fail
      refine (unhide C4).mono ?_
      rintro e w4 ⟨am, nm, cm, ua, un, uc, rfl, hM, sM, hU, sU, hb4⟩
      have HB4 := hide (bel_on (unhide HB1) hb4)
      have HM := hide hM
      have HU := hide hU
      have HSM := hide sM
      have C5 := hide ((unhide LD) w4 (unhide HB4))
      clear hM sM hU sU hb4 C4 yc00 yc10 yc11 yc12 yc13 yc14 ycl
      go_wp2_with fail
      refine (unhide C5).mono ?_
      rintro e w5 ⟨rfl, hb5⟩
      have HB5 := hide (bel_on (unhide HB4) hb5)
      have H45 := hide hb5
      clear hb5 C5
      by_cases hx0 : x = 0
      · subst hx0
        obtain ⟨hRC, hRM, hcb, hSl, hdis, hsum, hrw⟩ := con_all (unhide HCO)
        obtain ⟨r, hr⟩ : ∃ r, (rwD h).1 = r := ⟨_, rfl⟩
        have hrD : rwD h = (r, 0) := by rw [← hr]; exact Prod.ext rfl hrw
        have DC := hide (disconnect_is ka kn kc K am nm cm M p h k n a m c L ua un uc S 0 C w5 ((unhide HEX).env.later (unhide HB5)) ((unhide HKX).later (unhide HB5)) ((unhide HM).later (unhide H45)) (unhide HSM) ((unhide HLX).later (unhide HB5)) ((unhide HU).later (unhide H45)) hdis)
        have T1 := hide (fun W (hw : Below X.heap.size X W) => total_is la ln lc C 0 (sumC C) W ((unhide HCX).later hw) ((ckCoins_zero C).2 hRC) (if_pos rfl))
        have T2 := hide (fun W (hw : Below w4.heap.size w4 W) => total_is am nm cm M 0 (sumC M) W ((unhide HM).later hw) ((ckCoins_zero M).2 hRM) (if_pos rfl))
        have RW := hide (fun W => reward_is h r 0 W hrD)
        have b1 := hRC.sum
        have b2 := hRM.sum
        have b3 : 0 ≤ sumC C := sumC_nonneg C fun y hy => by have := ck1_zero (hRC.one y hy); omega
        have b4 : 0 ≤ r ∧ r ≤ 64 := rw_bd hrD
        have b5 : sumC M ≤ sumC C + r := by rw [← hr]; exact hsum
        have b6 : 0 ≤ sumC M := sumC_nonneg M fun y hy => by have := ck1_zero (hRM.one y hy); omega
        obtain ⟨s1, hs1⟩ : ∃ s1, sumC C = s1 := ⟨_, rfl⟩
        obtain ⟨s2, hs2⟩ : ∃ s2, sumC M = s2 := ⟨_, rfl⟩
        rw [hs1] at b1 b3 b5 T1
        rw [hs2] at b2 b5 b6 T2
        clear hRC hRM hcb hSl hdis hsum hrw hr hrD hs1 hs2 HCO LD
        have y1 := ((unhide HB5).block _ (lt_of_block (unhide HX1))).trans (unhide HX1)
        have y2 := ((unhide HB5).block _ (lt_of_block (unhide HX2))).trans (unhide HX2)
        have y00 := cell_of y1 0 _ rfl
        have y10 := cell_of y2 0 _ rfl
        have y11 := cell_of y2 1 _ rfl
        have y12 := cell_of y2 2 _ rfl
        have y13 := cell_of y2 3 _ rfl
        have y14 := cell_of y2 4 _ rfl
        have yl := lt_of_block y2
        clear y1 y2
        go_wp2_with fail
        refine (unhide DC).mono ?_
        rintro e w6 ⟨ba, bn, bc, rfl, hBk, sBk, hb6⟩
        have HB6 := hide (bel_on (unhide HB5) hb6)
        have H46 := hide (bel_on (unhide H45) hb6)
        have HBK := hide hBk
        have HSB := hide sBk.len
        have C7 := hide ((unhide T1) w6 (unhide HB6))
        clear hBk sBk hb6 DC T1 y00 y10 y11 y12 y13 y14 yl
        go_wp2_with fail
        refine (unhide C7).mono ?_
        rintro e w7 ⟨rfl, hb7⟩
        have HB7 := hide (bel_on (unhide HB6) hb7)
        have H47 := hide (bel_on (unhide H46) hb7)
        have H67 := hide hb7
        have C8 := hide ((unhide T2) w7 (unhide H47))
        clear hb7 C7 T2
        go_wp2_with fail
        refine (unhide C8).mono ?_
        rintro e w8 ⟨rfl, hb8⟩
        have HB8 := hide (bel_on (unhide HB7) hb8)
        have H68 := hide (bel_on (unhide H67) hb8)
        have C9 := hide ((unhide RW) w8)
        clear hb8 C8 RW
        have y1 := ((unhide HB8).block _ (lt_of_block (unhide HX1))).trans (unhide HX1)
        have y2 := ((unhide HB8).block _ (lt_of_block (unhide HX2))).trans (unhide HX2)
        have y00 := cell_of y1 0 _ rfl
        have y10 := cell_of y2 0 _ rfl
        have y11 := cell_of y2 1 _ rfl
        have y12 := cell_of y2 2 _ rfl
        have y13 := cell_of y2 3 _ rfl
        have y14 := cell_of y2 4 _ rfl
        have yl := lt_of_block y2
        clear y1 y2
        go_wp2_with fail
        refine (unhide C9).mono ?_
        rintro e w9 ⟨rfl, hb9⟩
        have HB9 := hide (bel_on (unhide HB8) hb9)
        have H69 := hide (bel_on (unhide H68) hb9)
        have C10 := hide (uSame_is ba la bn ln bc lc C C true w9 (unhide HSB) ((unhide HBK).later (unhide H69)) ((unhide HCX).later (unhide HB9)) (sameL_yes rfl))
        clear hb9 C9 y00 y10 y11 y12 y13 y14 yl
        go_wp2_with fail
        refine (unhide C10).mono ?_
        rintro e w10 ⟨rfl, hb10⟩
        have HW := hide (bel_on (unhide HBX) (bel_on (unhide HB9) hb10))
        have hle : decide (s2 ≤ s1 + r) = true := by simp; omega
        clear hb10 C10
        go_wp2
        go_ret
        exact ⟨rfl, unhide HW⟩
      · have g1 : (x != 0) = true := by simp [hx0]
        have C6 := hide ((unhide LD) w5 (unhide HB5))
        clear LD
        go_wp2_with fail
        refine (unhide C6).mono ?_
        rintro e w6 ⟨rfl, hb6⟩
        have HW := hide (bel_on (unhide HBX) (bel_on (unhide HB5) hb6))
        clear hb6 C6
        go_wp2
        go_ret
        exact ⟨rfl, unhide HW⟩
    · have ge : (z == 0) = false := by simp [hz0]
      clear gz hzz
      have C4 := hide ((unhide CN) w1 (unhide HB1))
      clear CN
      go_wp2_with fail
      refine (unhide C4).mono ?_
      rintro e w4 ⟨am, nm, cm, ua, un, uc, rfl, hM, sM, hU, sU, hb4⟩
      have HB4 := hide (bel_on (unhide HB1) hb4)
      have HM := hide hM
      have HU := hide hU
      have HSM := hide sM
      have C5 := hide ((unhide LD) w4 (unhide HB4))
      clear hM sM hU sU hb4 C4 yc00 yc10 yc11 yc12 yc13 yc14 ycl
      go_wp2_with fail
      refine (unhide C5).mono ?_
      rintro e w5 ⟨rfl, hb5⟩
      have HB5 := hide (bel_on (unhide HB4) hb5)
      have H45 := hide hb5
      clear hb5 C5
      by_cases hx0 : x = 0
      · subst hx0
        obtain ⟨hRC, hRM, hcb, hSl, hdis, hsum, hrw⟩ := con_all (unhide HCO)
        obtain ⟨r, hr⟩ : ∃ r, (rwD h).1 = r := ⟨_, rfl⟩
        have hrD : rwD h = (r, 0) := by rw [← hr]; exact Prod.ext rfl hrw
        have DC := hide (disconnect_is ka kn kc K am nm cm M p h k n a m c L ua un uc S 0 C w5 ((unhide HEX).env.later (unhide HB5)) ((unhide HKX).later (unhide HB5)) ((unhide HM).later (unhide H45)) (unhide HSM) ((unhide HLX).later (unhide HB5)) ((unhide HU).later (unhide H45)) hdis)
        have T1 := hide (fun W (hw : Below X.heap.size X W) => total_is la ln lc C 0 (sumC C) W ((unhide HCX).later hw) ((ckCoins_zero C).2 hRC) (if_pos rfl))
        have T2 := hide (fun W (hw : Below w4.heap.size w4 W) => total_is am nm cm M 0 (sumC M) W ((unhide HM).later hw) ((ckCoins_zero M).2 hRM) (if_pos rfl))
        have RW := hide (fun W => reward_is h r 0 W hrD)
        have b1 := hRC.sum
        have b2 := hRM.sum
        have b3 : 0 ≤ sumC C := sumC_nonneg C fun y hy => by have := ck1_zero (hRC.one y hy); omega
        have b4 : 0 ≤ r ∧ r ≤ 64 := rw_bd hrD
        have b5 : sumC M ≤ sumC C + r := by rw [← hr]; exact hsum
        have b6 : 0 ≤ sumC M := sumC_nonneg M fun y hy => by have := ck1_zero (hRM.one y hy); omega
        obtain ⟨s1, hs1⟩ : ∃ s1, sumC C = s1 := ⟨_, rfl⟩
        obtain ⟨s2, hs2⟩ : ∃ s2, sumC M = s2 := ⟨_, rfl⟩
        rw [hs1] at b1 b3 b5 T1
        rw [hs2] at b2 b5 b6 T2
        clear hRC hRM hcb hSl hdis hsum hrw hr hrD hs1 hs2 HCO LD
        have y1 := ((unhide HB5).block _ (lt_of_block (unhide HX1))).trans (unhide HX1)
        have y2 := ((unhide HB5).block _ (lt_of_block (unhide HX2))).trans (unhide HX2)
        have y00 := cell_of y1 0 _ rfl
        have y10 := cell_of y2 0 _ rfl
        have y11 := cell_of y2 1 _ rfl
        have y12 := cell_of y2 2 _ rfl
        have y13 := cell_of y2 3 _ rfl
        have y14 := cell_of y2 4 _ rfl
        have yl := lt_of_block y2
        clear y1 y2
        go_wp2_with fail
        refine (unhide DC).mono ?_
        rintro e w6 ⟨ba, bn, bc, rfl, hBk, sBk, hb6⟩
        have HB6 := hide (bel_on (unhide HB5) hb6)
        have H46 := hide (bel_on (unhide H45) hb6)
        have HBK := hide hBk
        have HSB := hide sBk.len
        have C7 := hide ((unhide T1) w6 (unhide HB6))
        clear hBk sBk hb6 DC T1 y00 y10 y11 y12 y13 y14 yl
        go_wp2_with fail
        refine (unhide C7).mono ?_
        rintro e w7 ⟨rfl, hb7⟩
        have HB7 := hide (bel_on (unhide HB6) hb7)
        have H47 := hide (bel_on (unhide H46) hb7)
        have H67 := hide hb7
        have C8 := hide ((unhide T2) w7 (unhide H47))
        clear hb7 C7 T2
        go_wp2_with fail
        refine (unhide C8).mono ?_
        rintro e w8 ⟨rfl, hb8⟩
        have HB8 := hide (bel_on (unhide HB7) hb8)
        have H68 := hide (bel_on (unhide H67) hb8)
        have C9 := hide ((unhide RW) w8)
        clear hb8 C8 RW
        have y1 := ((unhide HB8).block _ (lt_of_block (unhide HX1))).trans (unhide HX1)
        have y2 := ((unhide HB8).block _ (lt_of_block (unhide HX2))).trans (unhide HX2)
        have y00 := cell_of y1 0 _ rfl
        have y10 := cell_of y2 0 _ rfl
        have y11 := cell_of y2 1 _ rfl
        have y12 := cell_of y2 2 _ rfl
        have y13 := cell_of y2 3 _ rfl
        have y14 := cell_of y2 4 _ rfl
        have yl := lt_of_block y2
        clear y1 y2
        go_wp2_with fail
        refine (unhide C9).mono ?_
        rintro e w9 ⟨rfl, hb9⟩
        have HB9 := hide (bel_on (unhide HB8) hb9)
        have H69 := hide (bel_on (unhide H68) hb9)
        have C10 := hide (uSame_is ba la bn ln bc lc C C true w9 (unhide HSB) ((unhide HBK).later (unhide H69)) ((unhide HCX).later (unhide HB9)) (sameL_yes rfl))
        clear hb9 C9 y00 y10 y11 y12 y13 y14 yl
        go_wp2_with fail
        refine (unhide C10).mono ?_
        rintro e w10 ⟨rfl, hb10⟩
        have HW := hide (bel_on (unhide HBX) (bel_on (unhide HB9) hb10))
        have hle : decide (s2 ≤ s1 + r) = true := by simp; omega
        clear hb10 C10
        go_wp2
        go_ret
        exact ⟨rfl, unhide HW⟩
      · have g1 : (x != 0) = true := by simp [hx0]
        have C6 := hide ((unhide LD) w5 (unhide HB5))
        clear LD
        go_wp2_with fail
        refine (unhide C6).mono ?_
        rintro e w6 ⟨rfl, hb6⟩
        have HW := hide (bel_on (unhide HBX) (bel_on (unhide HB5) hb6))
        clear hb6 C6
        go_wp2
        go_ret
        exact ⟨rfl, unhide HW⟩

end Go.Proofs.YtepmnpapdknocaaGreatDoor
