/- The law PoolConnects answers true (written by a program of ours: mkpc.py). -/
import Derived.Test.YtmomfkikogbdeaaGreatDoorPolYesToPolConM
import Derived.Test.YtmomfkikogbdeaaGreatDoorCoinEqToBlkSameB
import Derived.Test.YtmomfkikogbdeaaGreatDoorPolNToTrMem
import Derived.Test.YtmomfkikogbdeaaGreatDoorBlkNamesToBlkReward
import Derived.Test.YtmomfkikogbdeaaGreatDoorBlkConW
import Derived.Test.YtmomfkikogbdeaaGreatDoorCoinMemToCoinCheckB
import Derived.WalkKit
import Derived.ProofKit
import Derived.OpenShut
import Derived.ShutString
import Derived.ChangeOld
import Derived.Below
import Derived.Carry
import Derived.SizedLaws
import Derived.Deep.Strs
import Derived.Deep.SlicePairs
import Derived.Lib.SmallJoins
import Derived.Test.YtmomfkikogbdeaaGreatDoorBookOpenToBookName
namespace Go.Proofs.YtmomfkikogbdeaaGreatDoor
open Go.RowKit

theorem sameL_refl (l : List CoinD) : sameL l l = true := (sameL_iff l l).2 rfl
/-- What stays stays again. -/
theorem stays_again {K K1 : List ByteArray} {C C1 : List CoinD} {L S : List TxD} {h : Int} (hx : swE K C L h = 0) (e : swGo h L (K, C) = (S, K1, C1)) :
    swGo h S (K1, C) = (S, K1, C1) ∧ swE K1 C S h = 0 ∧ Bk.Right K1 ∧ RightC C ∧ RightC C1 ∧ sumC C1 ≤ sumC C ∧ 1 ≤ h ∧ h ≤ 1000 ∧ S.length ≤ 8 := by
  have ho := openE_zero (swE_zero hx).1
  have hr := (sw_right (h := h) L K C ho.1).1
  have hc := sw_coins (h := h) L K C ho.1 ho.2.1
  have ha := sw_again (h := h) L K C [] ho.1 (by rw [List.append_nil]; exact hr)
  rw [e] at hr hc ha
  simp only [List.append_nil] at hr hc ha
  have hl : S.length ≤ 8 := by
    have q1 := swT_len h L (K, C)
    have q2 := (swE_zero hx).2
    have q3 := congrArg List.length (swT_map h L (K, C))
    rw [List.length_map, e] at q3
    simp only at q3
    omega
  refine ⟨ha, ?_, hr, ho.2.1, hc.1, hc.2.1, ho.2.2.1, ho.2.2.2, hl⟩
  unfold swE
  rw [if_neg (fun q => q (openE_mk hr ho.2.1 ho.2.2.1 ho.2.2.2)), if_neg (by omega)]

set_option maxRecDepth 10000 in
set_option maxHeartbeats 12800000 in
theorem lawPConnects_any (ka : Option Addr) (kn kc : Nat) (K : List ByteArray) (la : Option Addr) (ln lc : Nat) (C : List CoinD) (a : Option Addr) (m c : Nat) (L : List TxD) (h : Int) (ta : Option Addr) (tn tc : Nat) (lk : List (Int × Int)) (w : World)
    (hE : Env w) (hK : Bk.TextsAt w ka kn K) (hC : CoinsAt w la ln C) (sC : SlOk la ln lc) (hL : TxsAt w a m L) (hT : OpsAt w ta tn lk) (sT : SlOk ta tn tc) (hn : tn ≤ 8796093022208) :
    Calls Tryz.prog 6 #[.agg #[.slice ka kn kc], .slice la ln lc, .slice a m c, .int .i64 h, .slice ta tn tc] w fun e w' => e = .returned (.bool true) ∧ Below w.heap.size w w' := by
  obtain ⟨X, hX⟩ : ∃ X, X = w.alloc (.cells #[.slice ka kn kc] 24) := ⟨_, rfl⟩
  have hbX : Below w.heap.size w X := by rw [hX]; exact bel_new _ _
  have x0 : X.heap[w.heap.size]? = some (.cells [.slice ka kn kc].toArray 24 (0, 0)) := by rw [hX]; exact one_heap _ _ _
  obtain ⟨x, hx⟩ : ∃ x, swE K C L h = x := ⟨_, rfl⟩
  obtain ⟨⟨K1, S, C1, f⟩, hr⟩ : ∃ r, swF K C L h x = r := ⟨_, rfl⟩
  have D1 := hide (pSweep_is ka kn kc K la ln lc C a m c L h x K1 S C1 f X (hE.later hbX) (hK.later hbX) (hC.later hbX) sC (hL.later hbX) hx hr)
  have HE := hide (hE.later hbX)
  have HC := hide (hC.later hbX)
  have HSC := hide sC
  have HT := hide (hT.later hbX)
  have HST := hide sT
  have HTN := hide hn
  have HBX := hide hbX
  have HXX := hide hx
  have HR := hide hr
  have t00 := cell_of x0 0 _ rfl
  have t0l := lt_of_block x0
  clear hE hK hC sC hL hT sT hn hbX x0 hx hr
  go_enter Tryz.func6, Tryz.ntmps6
  go_wp2_with fail
  rw [← hX]
  clear hX
  (try go_wp2_with fail)
  refine (unhide D1).mono ?_
  rintro e w1 ⟨k1, k1n, k1c, sa, sn, sc, ca, cn, cc, rfl, hF1, sk1, ss1, sc1, hb1⟩
  obtain ⟨Y, hY⟩ : ∃ Y, Y = w1.alloc (.cells #[.slice k1 k1n k1c] 24) := ⟨_, rfl⟩
  have hbY : Below w1.heap.size w1 Y := by rw [hY]; exact bel_new _ _
  have y0 : Y.heap[w1.heap.size]? = some (.cells [.slice k1 k1n k1c].toArray 24 (0, 0)) := by rw [hY]; exact one_heap _ _ _
  obtain ⟨hK1, hS1, hC1⟩ := hF1 Y (Gr.of hbY)
  have HBY := hide (bel_on hb1 hbY)
  have HY0 := hide y0
  have HK1 := hide hK1
  have HS1 := hide hS1
  have HC1 := hide hC1
  have HSC1 := hide sc1
  have P1 := hide (pooled_yes Y ((unhide HE).later (unhide HBY)))
  obtain ⟨bk, hbk⟩ : ∃ bk, w1.heap.size = bk := ⟨_, rfl⟩
  rw [hbk] at HY0
  clear hF1 sk1 ss1 sc1 hb1 hbY y0 hK1 hS1 hC1 D1 t00 t0l
  go_wp2_with fail
  rw [← hY]
  (try rw [hbk])
  clear hY hbk
  (try go_wp2_with fail)
  refine (unhide P1).mono ?_
  rintro e w2 ⟨rfl, hb2⟩
  have HB2 := hide (bel_on (unhide HBY) hb2)
  have HY2 := hide hb2
  have P2 := hide (pooled_yes w2 ((unhide HE).later (unhide HB2)))
  clear hb2 P1
  by_cases hx0 : x = 0
  · subst hx0
    have hre : swGo h L (K, C) = (S, K1, C1) ∧ f = sumC C - sumC C1 := by
      have q := unhide HR
      unfold swF at q
      rw [if_pos rfl] at q
      simp only [Prod.mk.injEq] at q
      exact ⟨Prod.ext q.2.1 (Prod.ext q.1 q.2.2.1), by rw [← q.2.2.2, q.2.2.1]⟩
    obtain ⟨hsw, hfe⟩ := hre
    obtain ⟨a1, a2, a3, a4, a5, a6, a7, a8, a9⟩ := stays_again (unhide HXX) hsw
    obtain ⟨s0, hs0⟩ : ∃ s, sumC C = s := ⟨_, rfl⟩
    obtain ⟨s1, hs1⟩ : ∃ s, sumC C1 = s := ⟨_, rfl⟩
    rw [hs0, hs1] at hfe a6
    have q1 : s0 ≤ 1000000000 := by rw [← hs0]; exact a4.sum
    have q2 : 0 ≤ s1 := by rw [← hs1]; exact sum_nn a5
    have f1 : 0 ≤ f := by omega
    have f2 : f ≤ 1000000000 := by omega
    have g7 : (s0 - f != s1) = false := by simp; omega
    have g71 : s0 - f = s1 := by omega
    have g8 : ¬ f < 0 := by omega
    have g9 : IntKind.i64.wrap (s0 - f) = s0 - f := by rw [IntKind.wrap_i64]; omega
    have g10 : IntKind.i64.wrap (h - 1) = h - 1 := by rw [IntKind.wrap_i64]; omega
    obtain ⟨n, hn⟩ : ∃ n, S.length = n := ⟨_, rfl⟩
    have hsn : n = sn := by rw [← hn]; exact (unhide HS1).1
    subst hsn
    have D2 := hide (pSweep_is k1 k1n k1c K1 la ln lc C sa n sc S h 0 K1 S C1 f w2 ((unhide HE).later (unhide HB2)) ((unhide HK1).later (unhide HY2)) ((unhide HC).later (unhide HB2)) (unhide HSC) ((unhide HS1).later (unhide HY2)) a2 (by unfold swF; rw [if_pos rfl, a1, hs0, hs1, ← hfe]))
    have T1 := hide (fun V (hv : Below X.heap.size X V) => total_is la ln lc C 0 s0 V ((unhide HC).later hv) ((ckCoins_zero C).2 a4) (by rw [if_pos rfl]; exact hs0))
    have T2 := hide (fun V (hv : Below Y.heap.size Y V) => total_is ca cn cc C1 0 s1 V ((unhide HC1).later hv) ((ckCoins_zero C1).2 a5) (by rw [if_pos rfl]; exact hs1))
    have HA1 := hide a1
    have HA3 := hide a3
    have HA4 := hide a4
    have HA7 := hide a7
    have HA8 := hide a8
    have hcn : cn ≤ 720 := by have := (unhide HC1).1; have := a5.len; omega
    have b2 := ((unhide HY2).block _ (lt_of_block (unhide HY0))).trans (unhide HY0)
    have t20 := cell_of b2 0 _ rfl
    have t2l := lt_of_block b2
    clear b2
    clear hsw hfe a1 a2 a3 a4 a5 a6 a9 hs0 hs1 hn P2
    go_wp2_with fail
    refine (unhide D2).mono ?_
    rintro e w3 ⟨k3, k3n, k3c, ra, rn, rc, ea, en, ec, rfl, hF3, _, _, _, hb3⟩
    obtain ⟨_, hS3, hC3⟩ := hF3 w3 (Gr.refl _ _)
    have hrn : n = rn := ((unhide HS1).1.symm.trans hS3.1)
    subst hrn
    obtain ⟨Z, hZ⟩ : ∃ Z, Z = w3.alloc (.cells #[.slice k3 k3n k3c] 24) := ⟨_, rfl⟩
    have hbZ : Below w3.heap.size w3 Z := by rw [hZ]; exact bel_new _ _
    have HXZ := hide (bel_on (unhide HB2) (bel_on hb3 hbZ))
    have HYZ := hide (bel_on (unhide HY2) (bel_on hb3 hbZ))
    have HC3 := hide (hC3.later hbZ)
    have T3 := hide ((unhide T1) Z (unhide HXZ))
    have hen : en ≤ 720 := by have q := (unhide HC3).1; have q2 := (unhide HC1).1; omega
    clear hF3 hb3 hS3 hC3 hbZ D2 T1 t20 t2l
    go_wp2_with fail
    rw [← hZ]
    clear hZ
    (try go_wp2_with fail)
    refine (unhide T3).mono ?_
    rintro e w4 ⟨rfl, hb4⟩
    have HZ4 := hide hb4
    have T4 := hide ((unhide T2) w4 (bel_on (unhide HYZ) hb4))
    clear hb4 T3 T2
    go_wp2_with fail
    refine (unhide T4).mono ?_
    rintro e w5 ⟨rfl, hb5⟩
    have HZ5 := hide (bel_on (unhide HZ4) hb5)
    have E1 := hide (uSame_is ea ca en cn ec cc C1 C1 true w5 (by unfold maxLen; omega) ((unhide HC3).later (unhide HZ5)) ((unhide HC1).later (bel_on (unhide HYZ) (unhide HZ5))) (sameL_refl C1))
    clear hb5 T4
    go_wp2_with fail
    refine (unhide E1).mono ?_
    rintro e w6 ⟨rfl, hb6⟩
    have HX6 := hide (bel_on (unhide HXZ) (bel_on (unhide HZ5) hb6))
    have HY6 := hide (bel_on (unhide HYZ) (bel_on (unhide HZ5) hb6))
    clear hb6 E1
    obtain ⟨⟨y, bp, bh, bw, bn, bT⟩, hmk⟩ : ∃ r, mkE K1 C S 0 h 1 0 lk = r := ⟨_, rfl⟩
    have M1 := hide (pMake_is k1 k1n k1c K1 la ln lc C sa n sc S 0 (h - 1) 1 0 ta tn tc lk h y (bp, bh, bw, bn, bT) w6 ((unhide HE).later (unhide HX6)) ((unhide HK1).later (unhide HY6)) ((unhide HC).later (unhide HX6)) (unhide HSC) ((unhide HS1).later (unhide HY6)) ((unhide HT).later (unhide HX6)) (unhide HST) (unhide HTN) (by have q1 := unhide HA7; have q2 := unhide HA8; rw [IntKind.wrap_i64]; omega) hmk)
    have b2 := ((unhide HY6).block _ (lt_of_block (unhide HY0))).trans (unhide HY0)
    have t20 := cell_of b2 0 _ rfl
    have t2l := lt_of_block b2
    clear b2
    have HMK := hide hmk
    clear hmk
    go_wp2_with fail
    refine (unhide M1).mono ?_
    rintro e w7 ⟨ga, gn, gc, rfl, hF7, sg, hb7⟩
    simp only [blkV]
    obtain ⟨V, hV⟩ : ∃ V, V = w7.alloc (.cells #[.int .i64 bp, .int .i64 bh, .int .i64 bw, .int .i64 bn, .slice ga gn gc] 39) := ⟨_, rfl⟩
    have hbV : Below w7.heap.size w7 V := by rw [hV]; exact bel_new _ _
    have v0 : V.heap[w7.heap.size]? = some (.cells [.int .i64 bp, .int .i64 bh, .int .i64 bw, .int .i64 bn, .slice ga gn gc].toArray 39 (0, 0)) := by rw [hV]; exact five_heap _ _ _ _ _ _ _
    have hTV := hF7 V (Gr.of hbV)
    have HXV := hide (bel_on (unhide HX6) (bel_on hb7 hbV))
    have HYV := hide (bel_on (unhide HY6) (bel_on hb7 hbV))
    have HTV := hide hTV
    have HV0 := hide v0
    obtain ⟨bb, hbb⟩ : ∃ bb, w7.heap.size = bb := ⟨_, rfl⟩
    rw [hbb] at HV0
    have b7x := ((bel_on (unhide HY6) hb7).block _ (lt_of_block (unhide HY0))).trans (unhide HY0)
    have b70 := cell_of b7x 0 _ rfl
    have b7l := lt_of_block b7x
    have b7m : bk < bb := by rw [← hbb]; exact b7l
    have b7n : ¬ bk = bb := by omega
    clear hF7 sg hb7 hbV v0 hTV M1 b7x
    by_cases y0 : y = 0
    · subst y0
      obtain ⟨n1, n2⟩ := made_connects (unhide HA3) (unhide HA4) (unhide HA7) (unhide HA8) (unhide HA1) (unhide HMK)
      obtain ⟨⟨NK, nn, NN, z⟩, hnm⟩ : ∃ r, nmsB K1 (bp, bh, bw, bn, bT) = r := ⟨_, rfl⟩
      obtain ⟨⟨g, Cg, Ug⟩, hcon⟩ : ∃ r, conD K1 C (bp, bh, bw, bn, bT) = r := ⟨_, rfl⟩
      rw [hnm, hcon] at n1 n2
      simp only at n1 n2
      have N1 := hide (names_any k1 k1n k1c K1 bp bh bw bn ga gn gc bT NK nn NN z V ((unhide HE).later (unhide HXV)) ((unhide HK1).later (unhide HYV)) (unhide HTV) hnm)
      have N2 := hide (fun U (hu : Below V.heap.size V U) => connect_is k1 k1n k1c K1 la ln lc C bp bh bw bn ga gn gc bT g Cg Ug U ((unhide HE).later (bel_on (unhide HXV) hu)) ((unhide HK1).later (bel_on (unhide HYV) hu)) ((unhide HC).later (bel_on (unhide HXV) hu)) (unhide HSC) ((unhide HTV).later hu) hcon)
      have HN1 := hide n1
      have HN2 := hide n2
      have u20 := cell_of (((unhide HYV).block _ (lt_of_block (unhide HY0))).trans (unhide HY0)) 0 _ rfl
      have u2l := lt_of_block (((unhide HYV).block _ (lt_of_block (unhide HY0))).trans (unhide HY0))
      have v00 := cell_of (unhide HV0) 0 _ rfl
      have v01 := cell_of (unhide HV0) 1 _ rfl
      have v02 := cell_of (unhide HV0) 2 _ rfl
      have v03 := cell_of (unhide HV0) 3 _ rfl
      have v04 := cell_of (unhide HV0) 4 _ rfl
      have v0l := lt_of_block (unhide HV0)
      clear n1 n2 hnm hcon t20 t2l
      go_wp2_with fail
      rw [← hV]
      (try rw [hbb])
      clear hV hbb
      (try go_wp2_with fail)
      refine (unhide N1).mono ?_
      rintro e w8 ⟨n8, n8n, n8c, o8, o8n, o8c, rfl, _, _, _, _, hb8⟩
      have hYV8 := bel_on (unhide HYV) hb8
      have k8 := (hYV8.block _ (lt_of_block (unhide HY0))).trans (unhide HY0)
      have v8 := (hb8.block _ (lt_of_block (unhide HV0))).trans (unhide HV0)
      have k80 := cell_of k8 0 _ rfl
      have k8l := lt_of_block k8
      have v80 := cell_of v8 0 _ rfl
      have v81 := cell_of v8 1 _ rfl
      have v82 := cell_of v8 2 _ rfl
      have v83 := cell_of v8 3 _ rfl
      have v84 := cell_of v8 4 _ rfl
      have v8l := lt_of_block v8
      have N3 := hide ((unhide N2) w8 hb8)
      have HV8 := hide hb8
      clear hb8 hYV8 k8 v8 N1 N2 u20 u2l v00 v01 v02 v03 v04 v0l b70 b7l
      go_wp2_with fail
      refine (unhide N3).mono ?_
      rintro e w9 ⟨c9, c9n, c9c, ua, un, uc, rfl, _, _, hU, _, hb9, _⟩
      have v9 := ((bel_on (unhide HV8) hb9).block _ (lt_of_block (unhide HV0))).trans (unhide HV0)
      have v94 := cell_of v9 4 _ rfl
      have v9l := lt_of_block v9
      have hun : Ug.length = un := hU.1
      have hgn : bT.length = gn := (unhide HTV).1
      have HF := hide (bel_on (unhide HBX) (bel_on (unhide HXV) (bel_on (unhide HV8) hb9)))
      clear hb9 hU v9 N3 k80 k8l v80 v81 v82 v83 v84 v8l
      by_cases z0 : z = 0
      · subst z0
        have hn2 := (unhide HN2) rfl
        rw [hun, hgn] at hn2
        have HH := hide hn2
        clear hn2 HN1 HN2 hun hgn
        rcases unhide HH with ⟨rfl, rfl⟩ | rfl | rfl | rfl
        · go_wp2
          go_ret
          exact ⟨by simp, unhide HF⟩
        · go_wp2
          go_ret
          exact ⟨by simp, unhide HF⟩
        · go_wp2
          go_ret
          exact ⟨by simp, unhide HF⟩
        · go_wp2
          go_ret
          exact ⟨by simp, unhide HF⟩
      · have gz : (z != 0) = true := by simp [z0]
        have hg := (unhide HN1) z0
        subst hg
        clear HN1 HN2 hun hgn
        go_wp2
        go_ret
        exact ⟨by simp, unhide HF⟩
    · have gy : (y != 0) = true := by simp [y0]
      have HF := hide (bel_on (unhide HBX) (unhide HXV))
      clear t20 t2l
      go_wp2
      rw [← hV]
      go_ret
      exact ⟨rfl, unhide HF⟩
  · have gx : (x != 0) = true := by simp [hx0]
    go_wp2_with fail
    refine (unhide P2).mono ?_
    rintro e w3 ⟨rfl, hb3⟩
    have HF := hide (bel_on (unhide HBX) (bel_on (unhide HB2) hb3))
    clear hb3 P2
    go_wp2
    go_ret
    exact ⟨rfl, unhide HF⟩

end Go.Proofs.YtmomfkikogbdeaaGreatDoor

/- What the rows of the laws of coins have in common: coins and transactions among the arguments. -/
namespace Go.Proofs.YtmomfkikogbdeaaGreatDoor
open Go.ChangeShapes Go.WideShapes Go.ChangeAt Go.RowKit

theorem own : ownKnob Tryz.prog.godebug = none := by kernel_rfl
theorem laidOut : laidOutB Tryz.prog = true := by kernel_rfl
theorem Tryz.cellsCoin : Tryz.prog.cellsOf 124 = 6 := by kernel_rfl
theorem Tryz.cells4 : Tryz.prog.cellsOf 4 = 1 := by kernel_rfl
theorem list_six {cs : List Value} (h : cs.length = 6) : ∃ a b c d e f, cs = [a, b, c, d, e, f] := by
  match cs, h with
  | [a, b, c, d, e, f], _ => exact ⟨a, b, c, d, e, f, rfl⟩
theorem Tryz.cellsOp : Tryz.prog.cellsOf 164 = 2 := by kernel_rfl
theorem Tryz.cells3 : Tryz.prog.cellsOf 3 = 1 := by kernel_rfl

/-- What a slice of orders that came in is to the walks. -/
theorem ops_open {H : Type} {enc : TypeId × Value → H} {W : World} {sp : Nat → Bool} {held : Bool} {fuel : Nat} {a : Option Addr} {len cap : Nat} {x : DataW H × List MemPlace}
    (h : DataW.trod enc Tryz.prog W 0 sp held fuel 48 [.slice a len cap] = some x) : (∃ l, OpsAt W a len l) ∧ (a = none → len = 0 ∧ cap = 0) := by
  rcases Deep.open_slice_pairs Tryz.underlying48 Tryz.underlying164 Tryz.cellsOp rfl rfl Tryz.cells3 Tryz.cells3 h with ⟨hcs, _⟩ | ⟨b, l, c, m, n, V0, V1, D0, D1, P0, P1, hcs, _, hl, _, hm, _, hel⟩
  · simp at hcs
    obtain ⟨rfl, rfl, rfl⟩ := hcs
    exact ⟨⟨[], rfl, fun h => absurd h (by omega)⟩, fun _ => ⟨rfl, rfl⟩⟩
  · simp at hcs
    obtain ⟨rfl, rfl, rfl⟩ := hcs
    refine ⟨?_, fun h => by cases h⟩
    have hlm : len ≤ m := by rw [hm]; split <;> omega
    have each : ∀ i, i < len → ∃ q : Int × Int, W.cell? (b.add (i * 2)) = some (.int .i64 q.1) ∧ W.cell? (b.add (i * 2 + 1)) = some (.int .i64 q.2) := fun i hi => by
      obtain ⟨h1, h2, t1, t2⟩ := hel i (by omega)
      obtain ⟨z1, e1, _, _⟩ := DataW.trod_int Tryz.underlying3 t1
      obtain ⟨z2, e2, _, _⟩ := DataW.trod_int Tryz.underlying3 t2
      simp only [List.cons.injEq, and_true] at e1 e2
      exact ⟨(z1, z2), by rw [h1, e1], by rw [h2, e2]⟩
    obtain ⟨f, hf⟩ := Deep.choose_lt each
    refine ⟨(List.range len).map f, by simp, fun hpos => ?_⟩
    obtain ⟨bb, off, spot⟩ := b
    have hspot : spot = none := by simpa [Addr.add] using World.cell?_spot (hf 0 hpos).1
    subst hspot
    refine ⟨bb, off, rfl, fun i hi => ?_⟩
    have hadd : ∀ j, (⟨bb, off, none⟩ : Addr).add j = ⟨bb, off + j, none⟩ := fun j => by unfold Addr.add; split <;> simp_all
    have h1 := hf i hi
    rw [hadd, hadd] at h1
    rw [← Nat.add_assoc] at h1
    simpa [hi] using h1

theorem Tryz.cellsTx : Tryz.prog.cellsOf 59 = 3 := by kernel_rfl
theorem Tryz.cellsIn : Tryz.prog.cellsOf 119 = 3 := by kernel_rfl
theorem Tryz.cellsOut : Tryz.prog.cellsOf 122 = 2 := by kernel_rfl
theorem Tryz.cellsPoint : Tryz.prog.cellsOf 117 = 2 := by kernel_rfl
theorem Tryz.cellsOps : Tryz.prog.cellsOf 48 = 1 := by kernel_rfl
theorem Tryz.cellsIns : Tryz.prog.cellsOf 56 = 1 := by kernel_rfl
theorem Tryz.cellsOuts : Tryz.prog.cellsOf 57 = 1 := by kernel_rfl

theorem list_two {cs : List Value} (h : cs.length = 2) : ∃ a b, cs = [a, b] := by
  match cs, h with
  | [a, b], _ => exact ⟨a, b, rfl⟩
theorem list_three {cs : List Value} (h : cs.length = 3) : ∃ a b c, cs = [a, b, c] := by
  match cs, h with
  | [a, b, c], _ => exact ⟨a, b, c, rfl⟩

section
variable {H : Type} {enc : TypeId × Value → H} {W : World} {sp : Nat → Bool} {held : Bool} {fuel : Nat}

theorem ops_full {v : Value} {x : DataW H × List MemPlace} (h : DataW.trod enc Tryz.prog W 0 sp held fuel 48 [v] = some x) : ∃ a n c l, v = .slice a n c ∧ OpsAt W a n l ∧ SlOk a n c := by
  have h' := h
  rcases Deep.open_slice Tryz.underlying48 h with ⟨hcs, _⟩ | ⟨b, l, c, m, n, D, Pl, hcs, _, hl, hm, _⟩
  · simp at hcs
    subst hcs
    exact ⟨none, 0, 0, [], rfl, ⟨rfl, fun h => absurd h (by omega)⟩, Nat.le_refl _, Nat.zero_le _, fun _ => ⟨rfl, rfl⟩⟩
  · simp at hcs
    subst hcs
    obtain ⟨⟨L, hO⟩, _⟩ := ops_open h'
    exact ⟨some b, l, c, L, rfl, hO, hl, hm, fun h => by cases h⟩

theorem in_full {cs : List Value} {x : DataW H × List MemPlace} (h : DataW.trod enc Tryz.prog W 0 sp held fuel 119 cs = some x) : ∃ x1 x2 a n c l, cs = [.int .i64 x1, .int .i64 x2, .slice a n c] ∧ OpsAt W a n l ∧ SlOk a n c := by
  obtain ⟨y0, y1, k, _, hl, h0, h1⟩ := trod_struct2 Tryz.underlying119 h
  rw [Tryz.cellsIn] at hl
  obtain ⟨c0, c1, c2, rfl⟩ := list_three hl
  simp [Tryz.cellsPoint, Tryz.cellsOps] at h0 h1
  obtain ⟨z0, z1, k2, _, _, g0, g1⟩ := trod_struct2 Tryz.underlying117 h0
  simp [Tryz.cells3] at g0 g1
  obtain ⟨x1, e1, _, _⟩ := DataW.trod_int Tryz.underlying3 g0
  obtain ⟨x2, e2, _, _⟩ := DataW.trod_int Tryz.underlying3 g1
  obtain ⟨a, n, c, l, rfl, hO, hS⟩ := ops_full h1
  simp only [List.cons.injEq, and_true] at e1 e2
  subst e1 e2
  exact ⟨x1, x2, a, n, c, l, rfl, hO, hS⟩
theorem out_full {cs : List Value} {x : DataW H × List MemPlace} (h : DataW.trod enc Tryz.prog W 0 sp held fuel 122 cs = some x) : ∃ x1 a n c l, cs = [.int .i64 x1, .slice a n c] ∧ OpsAt W a n l ∧ SlOk a n c := by
  obtain ⟨y0, y1, k, _, hl, h0, h1⟩ := trod_struct2 Tryz.underlying122 h
  rw [Tryz.cellsOut] at hl
  obtain ⟨c0, c1, rfl⟩ := list_two hl
  simp [Tryz.cells3, Tryz.cellsOps] at h0 h1
  obtain ⟨x1, e1, _, _⟩ := DataW.trod_int Tryz.underlying3 h0
  obtain ⟨a, n, c, l, rfl, hO, hS⟩ := ops_full h1
  simp only [List.cons.injEq, and_true] at e1
  subst e1
  exact ⟨x1, a, n, c, l, rfl, hO, hS⟩

theorem ins_full {v : Value} {x : DataW H × List MemPlace} (h : DataW.trod enc Tryz.prog W 0 sp held fuel 56 [v] = some x) : ∃ a n c l, v = .slice a n c ∧ InsAt W a n l ∧ SlOk a n c := by
  rcases Deep.open_slice Tryz.underlying56 h with ⟨hcs, _⟩ | ⟨b, l, c, m, n, D, Pl, hcs, _, hl, hm, hmm, _, hel⟩
  · simp at hcs
    subst hcs
    exact ⟨none, 0, 0, [], rfl, RowsAt.nil _ _, Nat.le_refl _, Nat.zero_le _, fun _ => ⟨rfl, rfl⟩⟩
  · simp at hcs
    subst hcs
    have hlm : l ≤ m := by rw [hmm]; split <;> omega
    have each : ∀ i, i < l → ∃ q : InD, ∃ a n c, W.cell? (b.add (i * 3)) = some (.int .i64 q.1) ∧ W.cell? (b.add (i * 3 + 1)) = some (.int .i64 q.2.1) ∧ W.cell? (b.add (i * 3 + 2)) = some (.slice a n c) ∧ OpsAt W a n q.2.2 ∧ SlOk a n c := fun i hi => by
      obtain ⟨cs', h1, h2⟩ := hel i (by omega)
      rw [Tryz.cellsIn] at h1
      obtain ⟨_, _, hcell⟩ := World.cells?_some h1
      obtain ⟨x1, x2, a, n, c, key, rfl, hO, hS⟩ := in_full h2
      have e0 := hcell 0 (by omega)
      have e1 := hcell 1 (by omega)
      have e2 := hcell 2 (by omega)
      rw [Deep.add_add] at e0 e1 e2
      exact ⟨(x1, x2, key), a, n, c, by simpa using e0, by simpa using e1, by simpa using e2, hO, hS⟩
    obtain ⟨f, hf⟩ := Deep.choose_lt each
    refine ⟨some b, l, c, (List.range l).map f, rfl, ⟨by simp, fun hpos => ?_⟩, hl, hm, fun h => by cases h⟩
    obtain ⟨bb, off, spot⟩ := b
    obtain ⟨_, _, _, z0, _⟩ := hf 0 hpos
    have hspot : spot = none := by simpa [Addr.add] using World.cell?_spot z0
    subst hspot
    have hadd : ∀ j, (⟨bb, off, none⟩ : Addr).add j = ⟨bb, off + j, none⟩ := fun j => by unfold Addr.add; split <;> simp_all
    refine ⟨bb, off, rfl, by rw [hadd] at z0; exact World.block_lt_of_cell? _ _ z0, fun i hi => ?_⟩
    have hi' : i < l := by simpa using hi
    obtain ⟨a, n, c, q0, q1, q2, hO, hS⟩ := hf i hi'
    rw [hadd] at q0 q1 q2
    rw [← Nat.add_assoc] at q1 q2
    rw [List.getElem_map, List.getElem_range]
    exact ⟨q0, q1, a, n, c, q2, hO, hS⟩
theorem outs_full {v : Value} {x : DataW H × List MemPlace} (h : DataW.trod enc Tryz.prog W 0 sp held fuel 57 [v] = some x) : ∃ a n c l, v = .slice a n c ∧ OutsAt W a n l ∧ SlOk a n c := by
  rcases Deep.open_slice Tryz.underlying57 h with ⟨hcs, _⟩ | ⟨b, l, c, m, n, D, Pl, hcs, _, hl, hm, hmm, _, hel⟩
  · simp at hcs
    subst hcs
    exact ⟨none, 0, 0, [], rfl, RowsAt.nil _ _, Nat.le_refl _, Nat.zero_le _, fun _ => ⟨rfl, rfl⟩⟩
  · simp at hcs
    subst hcs
    have hlm : l ≤ m := by rw [hmm]; split <;> omega
    have each : ∀ i, i < l → ∃ q : OutD, ∃ a n c, W.cell? (b.add (i * 2)) = some (.int .i64 q.1) ∧ W.cell? (b.add (i * 2 + 1)) = some (.slice a n c) ∧ OpsAt W a n q.2 ∧ SlOk a n c := fun i hi => by
      obtain ⟨cs', h1, h2⟩ := hel i (by omega)
      rw [Tryz.cellsOut] at h1
      obtain ⟨_, _, hcell⟩ := World.cells?_some h1
      obtain ⟨x1, a, n, c, key, rfl, hO, hS⟩ := out_full h2
      have e0 := hcell 0 (by omega)
      have e1 := hcell 1 (by omega)
      rw [Deep.add_add] at e0 e1
      exact ⟨(x1, key), a, n, c, by simpa using e0, by simpa using e1, hO, hS⟩
    obtain ⟨f, hf⟩ := Deep.choose_lt each
    refine ⟨some b, l, c, (List.range l).map f, rfl, ⟨by simp, fun hpos => ?_⟩, hl, hm, fun h => by cases h⟩
    obtain ⟨bb, off, spot⟩ := b
    obtain ⟨_, _, _, z0, _⟩ := hf 0 hpos
    have hspot : spot = none := by simpa [Addr.add] using World.cell?_spot z0
    subst hspot
    have hadd : ∀ j, (⟨bb, off, none⟩ : Addr).add j = ⟨bb, off + j, none⟩ := fun j => by unfold Addr.add; split <;> simp_all
    refine ⟨bb, off, rfl, by rw [hadd] at z0; exact World.block_lt_of_cell? _ _ z0, fun i hi => ?_⟩
    have hi' : i < l := by simpa using hi
    obtain ⟨a, n, c, q0, q1, hO, hS⟩ := hf i hi'
    rw [hadd] at q0 q1
    rw [← Nat.add_assoc] at q1
    rw [List.getElem_map, List.getElem_range]
    exact ⟨q0, a, n, c, q1, hO, hS⟩

/-- A transaction that came in. -/
theorem tx_open {cs : List Value} {x : DataW H × List MemPlace} (h : DataW.trod enc Tryz.prog W 0 sp held fuel 59 cs = some x) : ∃ h ai ni ci ao no co I O, cs = [.int .i64 h, .slice ai ni ci, .slice ao no co] ∧ InsAt W ai ni I ∧ OutsAt W ao no O ∧ SlOk ai ni ci ∧ SlOk ao no co := by
  obtain ⟨y0, y1, y2, k, _, hl, h0, h1, h2⟩ := Deep.trod_struct3 Tryz.underlying59 h
  rw [Tryz.cellsTx] at hl
  obtain ⟨c0, c1, c2, rfl⟩ := list_three hl
  simp [Tryz.cells3, Tryz.cellsIns, Tryz.cellsOuts] at h0 h1 h2
  obtain ⟨hh, e0, _, _⟩ := DataW.trod_int Tryz.underlying3 h0
  obtain ⟨ai, ni, ci, I, rfl, hI, sI⟩ := ins_full h1
  obtain ⟨ao, no, co, O, rfl, hO, sO⟩ := outs_full h2
  simp only [List.cons.injEq, and_true] at e0
  subst e0
  exact ⟨hh, ai, ni, ci, ao, no, co, I, O, rfl, hI, hO, sI, sO⟩

theorem coin_full {cs : List Value} {x : DataW H × List MemPlace} (h : DataW.trod enc Tryz.prog W 0 sp held fuel 124 cs = some x) : ∃ (q : CoinD) (a : Option Addr) (n c : Nat), cs = [.int .i64 q.1, .int .i64 q.2.1, .int .i64 (cv q), .slice a n c, .int .i64 (ch q), .bool (cr q)] ∧ OpsAt W a n (ck q) ∧ SlOk a n c := by
  obtain ⟨y0, y1, y2, y3, k, _, hl, h0, h1, h2, h3⟩ := Joins.trod_struct4 Tryz.underlying124 h
  rw [Tryz.cellsCoin] at hl
  obtain ⟨c0, c1, c2, c3, c4, c5, rfl⟩ := list_six hl
  simp [Tryz.cellsPoint, Tryz.cellsOut, Tryz.cells3, Tryz.cells4] at h0 h1 h2 h3
  obtain ⟨z0, z1, k2, _, _, g0, g1⟩ := trod_struct2 Tryz.underlying117 h0
  simp [Tryz.cells3] at g0 g1
  obtain ⟨x1, e1, _, _⟩ := DataW.trod_int Tryz.underlying3 g0
  obtain ⟨x2, e2, _, _⟩ := DataW.trod_int Tryz.underlying3 g1
  obtain ⟨x3, a, n, c, l, e3, hO, hS⟩ := out_full h1
  obtain ⟨x4, e4, _, _⟩ := DataW.trod_int Tryz.underlying3 h2
  obtain ⟨x5, e5, _⟩ := DataW.trod_bool Tryz.underlying4 h3
  simp only [List.cons.injEq, and_true] at e1 e2 e3 e4 e5
  obtain ⟨rfl, rfl⟩ := e3
  subst e1 e2 e4 e5
  exact ⟨(x1, x2, x3, l, x4, x5), a, n, c, rfl, hO, hS⟩
theorem coins_full {v : Value} {x : DataW H × List MemPlace} (h : DataW.trod enc Tryz.prog W 0 sp held fuel 29 [v] = some x) : ∃ a n c l, v = .slice a n c ∧ CoinsAt W a n l ∧ SlOk a n c := by
  rcases Deep.open_slice Tryz.underlying29 h with ⟨hcs, _⟩ | ⟨b, l, c, m, n, D, Pl, hcs, _, hl, hm, hmm, _, hel⟩
  · simp at hcs
    subst hcs
    exact ⟨none, 0, 0, [], rfl, RowsAt.nil _ _, Nat.le_refl _, Nat.zero_le _, fun _ => ⟨rfl, rfl⟩⟩
  · simp at hcs
    subst hcs
    have hlm : l ≤ m := by rw [hmm]; split <;> omega
    have each : ∀ i, i < l → ∃ q : CoinD, ∃ a n c, W.cell? (b.add (i * 6)) = some (.int .i64 q.1) ∧ W.cell? (b.add (i * 6 + 1)) = some (.int .i64 q.2.1) ∧ W.cell? (b.add (i * 6 + 2)) = some (.int .i64 (cv q)) ∧ W.cell? (b.add (i * 6 + 3)) = some (.slice a n c) ∧ W.cell? (b.add (i * 6 + 4)) = some (.int .i64 (ch q)) ∧ W.cell? (b.add (i * 6 + 5)) = some (.bool (cr q)) ∧ OpsAt W a n (ck q) ∧ SlOk a n c := fun i hi => by
      obtain ⟨cs', h1, h2⟩ := hel i (by omega)
      rw [Tryz.cellsCoin] at h1
      obtain ⟨_, _, hcell⟩ := World.cells?_some h1
      obtain ⟨q, a, n, c, rfl, hO, hS⟩ := coin_full h2
      have e0 := hcell 0 (by omega)
      have e1 := hcell 1 (by omega)
      have e2 := hcell 2 (by omega)
      have e3 := hcell 3 (by omega)
      have e4 := hcell 4 (by omega)
      have e5 := hcell 5 (by omega)
      rw [Deep.add_add] at e0 e1 e2 e3 e4 e5
      exact ⟨q, a, n, c, by simpa using e0, by simpa using e1, by simpa using e2, by simpa using e3, by simpa using e4, by simpa using e5, hO, hS⟩
    obtain ⟨f, hf⟩ := Deep.choose_lt each
    refine ⟨some b, l, c, (List.range l).map f, rfl, ⟨by simp, fun hpos => ?_⟩, hl, hm, fun h => by cases h⟩
    obtain ⟨bb, off, spot⟩ := b
    obtain ⟨_, _, _, z0, _⟩ := hf 0 hpos
    have hspot : spot = none := by simpa [Addr.add] using World.cell?_spot z0
    subst hspot
    have hadd : ∀ j, (⟨bb, off, none⟩ : Addr).add j = ⟨bb, off + j, none⟩ := fun j => by unfold Addr.add; split <;> simp_all
    refine ⟨bb, off, rfl, by rw [hadd] at z0; exact World.block_lt_of_cell? _ _ z0, fun i hi => ?_⟩
    have hi' : i < l := by simpa using hi
    obtain ⟨a, n, c, q0, q1, q2, q3, q4, q5, hO, hS⟩ := hf i hi'
    rw [hadd] at q0 q1 q2 q3 q4 q5
    rw [← Nat.add_assoc] at q1 q2 q3 q4 q5
    rw [List.getElem_map, List.getElem_range]
    exact ⟨q0, q1, q2, ⟨a, n, c, q3, hO, hS⟩, q4, q5⟩
end

end Go.Proofs.YtmomfkikogbdeaaGreatDoor

/- What the rows of the laws of books have in common: books and slices of texts among the arguments. -/
namespace Go.Proofs.YtmomfkikogbdeaaGreatDoor.Bk
open Go.ChangeShapes Go.WideShapes Go.ChangeAt Go.RowKit

theorem own : ownKnob Tryz.prog.godebug = none := by kernel_rfl
theorem laidOut : laidOutB Tryz.prog = true := by kernel_rfl
theorem Tryz.cells9 : Tryz.prog.cellsOf 9 = 1 := by kernel_rfl
theorem Tryz.cellsStrs : Tryz.prog.cellsOf 22 = 1 := by kernel_rfl
theorem Tryz.cellsBook : Tryz.prog.cellsOf 24 = 1 := by kernel_rfl
section
variable {H : Type} {enc : TypeId × Value → H} {W : World} {sp : Nat → Bool} {held : Bool} {fuel : Nat}

theorem strs_full {v : Value} {x : DataW H × List MemPlace} (h : DataW.trod enc Tryz.prog W 0 sp held fuel 22 [v] = some x) :
    ∃ a n c L, v = .slice a n c ∧ TextsAt W a n L ∧ SlOk a n c ∧ (n = 0 ∨ ∃ elems spare, x.1 = .slice elems spare ∧ elems.length = n) := by
  rcases Deep.open_strs Tryz.underlying22 Tryz.underlying9 Tryz.cells9 h with ⟨hcs, _⟩ | ⟨b, l, c, m, Sx, hcs, _, hl, hm, hmm, hx, hel⟩
  · simp at hcs
    subst hcs
    exact ⟨none, 0, 0, [], rfl, TextsAt.nil _ _, SlOk.nil, Or.inl rfl⟩
  · simp at hcs
    subst hcs
    have hlm : l ≤ m := by rw [hmm]; split <;> omega
    refine ⟨some b, l, c, (List.range l).map Sx, rfl, ⟨by simp, fun hpos => ?_⟩, ⟨hl, hm, fun h => by cases h⟩, Or.inr ⟨_, _, by rw [hx], by simp⟩⟩
    obtain ⟨bb, off, spot⟩ := b
    have z0 := (hel 0 (by omega)).1
    have hspot : spot = none := by simpa [Addr.add] using World.cell?_spot z0
    subst hspot
    have hadd : ∀ j, (⟨bb, off, none⟩ : Addr).add j = ⟨bb, off + j, none⟩ := fun j => by unfold Addr.add; split <;> simp_all
    refine ⟨bb, off, rfl, fun i hi => ?_⟩
    have hi' : i < l := by simpa using hi
    have q := (hel i (by omega)).1
    rw [hadd] at q
    rw [List.getElem_map, List.getElem_range]
    exact q

theorem book_full {cs : List Value} {x : DataW H × List MemPlace} (h : DataW.trod enc Tryz.prog W 0 sp held fuel 24 cs = some x) : ∃ a n c L, cs = [.slice a n c] ∧ TextsAt W a n L ∧ SlOk a n c := by
  obtain ⟨y0, k, _, hl, h0⟩ := trod_struct1 Tryz.underlying24 h
  rw [Tryz.cellsBook] at hl
  obtain ⟨c0, rfl⟩ := List.length_eq_one_iff.1 hl
  simp [Tryz.cellsStrs] at h0
  obtain ⟨a, n, c, L, rfl, hT, hS, _⟩ := strs_full h0
  exact ⟨a, n, c, L, rfl, hT, hS⟩
end

end Go.Proofs.YtmomfkikogbdeaaGreatDoor.Bk
