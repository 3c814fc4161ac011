/- The law UnspentBack answers true. -/
import Derived.Test.YtklpajhgfdpboaaCoinRevert
import Derived.Test.YtklpajhgfdpboaaCoinFind
import Derived.Test.YtklpajhgfdpboaaCoinThere
import Derived.Test.YtklpajhgfdpboaaCoinEq
import Derived.Test.YtklpajhgfdpboaaCoinBackS
namespace Go.Proofs.Ytklpajhgfdpboaa
open Go.RowKit

/-- What the law asks, of what Apply answers. -/
theorem back_facts {L M S : List CoinD} {t : TxD} {name h : Int} (e : apD L t name h = (0, M, S)) : ckCoins L = 0 ∧ ckCoins M = 0 ∧ rvD M t name S = (0, L) ∧
    (∀ y ∈ t.2.1, y.1 ≠ name → fdD M (y.1, y.2.1) = (7, zeroD)) ∧ (∀ y ∈ t.2.1, ∃ q, fdD L (y.1, y.2.1) = (0, q)) := by
  obtain ⟨h1, M2, h2, h3, h4, h5⟩ := apD_zero e
  obtain ⟨hR, hT, _, _, _⟩ := ckApply_zero h1
  refine ⟨(ckCoins_zero L).2 hR, h5, back_ok e, fun y hy hn => fdD_none h5 (apD_gone e y hy hn), fun y hy => ?_⟩
  obtain ⟨c, hc, hp⟩ := (hasP_iff _ _).1 (apD_needs e y hy)
  exact ⟨c, fdD_some ((ckCoins_zero L).2 hR) hR.srt hc hp⟩

set_option maxRecDepth 10000 in
set_option maxHeartbeats 12800000 in
theorem lawBack_any (a : Option Addr) (n c : Nat) (L : List CoinD) (h : Int) (ai ao : Option Addr) (ni ci no co : Nat) (I : List InD) (O : List OutD) (name ht : Int) (w : World)
    (hL : CoinsAt w a n L) (sL : SlOk a n c) (hI : InsAt w ai ni I) (hO : OutsAt w ao no O) (sI : SlOk ai ni ci) :
    Calls Try.prog 4 #[.slice a n c, .agg #[.int .i64 h, .slice ai ni ci, .slice ao no co], .int .i64 name, .int .i64 ht] w fun e w' => e = .returned (.bool true) ∧ Below w.heap.size w w' := by
  obtain ⟨X, hX⟩ : ∃ X, X = w.alloc (.cells #[.int .i64 h, .slice ai ni ci, .slice ao no co] 46) := ⟨_, rfl⟩
  have hbX : Below w.heap.size w X := by rw [hX]; exact bel_new _ _
  have hXt : X.heap[w.heap.size]? = some (.cells [.int .i64 h, .slice ai ni ci, .slice ao no co].toArray 46 (0, 0)) := by
    rw [hX]; exact three_heap _ _ _ _ _
  obtain ⟨⟨x1, M, S⟩, h1⟩ : ∃ r, apD L (h, I, O) name ht = r := ⟨_, rfl⟩
  have A1 := hide (apply_is a n c L h ai ao ni ci no co I O name ht x1 M S X (hL.later hbX) sL (hI.later hbX) (hO.later hbX) sI h1)
  have TH := hide there_yes
  have HT := hide hXt
  have HBX := hide hbX
  have H1 := hide h1
  have HL := hide (hL.later hbX)
  have HI := hide (hI.later hbX)
  have HO := hide (hO.later hbX)
  have HSL := hide sL
  have HSI := hide sI
  have x0 := cell_of hXt 0 _ rfl
  have x1' := cell_of hXt 1 _ rfl
  have x2' := cell_of hXt 2 _ rfl
  have hl0 := lt_of_block hXt
  have hni : ni ≤ maxLen := sI.len
  unfold maxLen at hni
  clear hL sL hI hO sI h1 hXt hbX
  go_enter Try.func4, Try.ntmps4
  go_wp2_with fail
  rw [← hX]
  clear hX
  refine (unhide A1).mono ?_
  rintro e w1 ⟨am, nm, cm, sa, ns, cs, rfl, hM, sM, hS, _, hb1⟩
  obtain ⟨Y, hY⟩ : ∃ Y, Y = w1.alloc (.cells #[.slice sa ns cs] 48) := ⟨_, rfl⟩
  have hbY : Below w1.heap.size w1 Y := by rw [hY]; exact bel_new _ _
  have hYu : Y.heap[w1.heap.size]? = some (.cells [.slice sa ns cs].toArray 48 (0, 0)) := by rw [hY]; exact heap_alloc_new w1 _
  have HYU := hide hYu
  have HM := hide (hM.later hbY)
  have HS := hide (hS.later hbY)
  have HSM := hide sM
  have HXY := hide (bel_on hb1 hbY)
  have THY := hide ((unhide TH) Y)
  clear hM sM hS hb1 hbY hYu x0 x1' x2' hl0 A1
  go_wp2_with fail
  rw [← hY]
  clear hY
  refine (unhide THY).mono ?_
  rintro e w2 ⟨rfl, hb2⟩
  have hX2 := bel_on (unhide HXY) hb2
  have ht2 := (hX2.block _ (lt_of_block (unhide HT))).trans (unhide HT)
  have hu2 := (hb2.block _ (lt_of_block (unhide HYU))).trans (unhide HYU)
  have c0 := cell_of ht2 0 _ rfl
  have c1 := cell_of ht2 1 _ rfl
  have c2 := cell_of ht2 2 _ rfl
  have cu := cell_of hu2 0 _ rfl
  have lt2 := lt_of_block ht2
  have lu2 := lt_of_block hu2
  have HB2 := hide hb2
  have HX2 := hide hX2
  have TH2 := hide ((unhide TH) w2)
  clear hb2 hX2 ht2 hu2 THY
  by_cases e1 : x1 = 0
  · subst e1
    obtain ⟨f1, f2, f3, f4, f5⟩ := back_facts (unhide H1)
    have F4 := hide f4
    have F5 := hide f5
    have SM := hide (back_sum (unhide H1))
    have RV := hide (revert_is am nm cm M h ai ao ni ci no co I O name sa ns cs S 0 L w2 ((unhide HM).later (unhide HB2)) (unhide HSM) ((unhide HI).later (unhide HX2)) ((unhide HO).later (unhide HX2)) (unhide HSI) ((unhide HS).later (unhide HB2)) f3)
    have TL := hide (fun W (hb : Below X.heap.size X W) => total_is a n c L 0 (sumC L) W ((unhide HL).later hb) f1 (if_pos rfl))
    have TM := hide (fun W (hb : Below Y.heap.size Y W) => total_is am nm cm M 0 (sumC M) W ((unhide HM).later hb) f2 (if_pos rfl))
    have CM := hide (fun W (hb : Below Y.heap.size Y W) => uCheck_any am nm cm M 0 W ((unhide HM).later hb) f2)
    have FM := hide (fun p r q W (hb : Below Y.heap.size Y W) hr => find_is am nm cm M p r q W ((unhide HM).later hb) hr)
    have FL := hide (fun p q W (hb : Below X.heap.size X W) hr => find_is a n c L p 0 q W ((unhide HL).later hb) hr)
    have SB := hide (fun ar nr cr W (hW : CoinsAt W ar nr L) (sW : SlOk ar nr cr) (hb : Below X.heap.size X W) => uSame_is ar a nr n cr c L L true W sW.len hW ((unhide HL).later hb) (sameL_yes rfl))
    clear f1 f2 f3 f4 f5 H1 TH2
    obtain ⟨sl, hsl⟩ : ∃ sl, sumC L = sl := ⟨_, rfl⟩
    obtain ⟨sm, hsm⟩ : ∃ sm, sumC M = sm := ⟨_, rfl⟩
    rw [hsl] at TL SM
    rw [hsm] at TM SM
    clear hsl hsm
    go_wp2_with fail
    refine (unhide RV).mono ?_
    rintro e w3 ⟨ar, nr, cr, rfl, hB, sB, hb3⟩
    have HX3 := hide (bel_on (unhide HX2) hb3)
    have HY3 := hide (bel_on (unhide HB2) hb3)
    have TL3 := hide ((unhide TL) w3 (unhide HX3))
    have HBK := hide hB
    have HSB := hide sB
    clear hB sB hb3 RV c0 c1 c2 cu lt2 lu2 TL
    go_wp2_with fail
    refine (unhide TL3).mono ?_
    rintro e w4 ⟨rfl, hb4⟩
    have HX4 := hide (bel_on (unhide HX3) hb4)
    have HY4 := hide (bel_on (unhide HY3) hb4)
    have HK4 := hide ((unhide HBK).later hb4)
    have TM4 := hide ((unhide TM) w4 (unhide HY4))
    clear hb4 TL3 TM HX3 HY3 HBK
    go_wp2_with fail
    refine (unhide TM4).mono ?_
    rintro e w5 ⟨rfl, hb5⟩
    have HX5 := hide (bel_on (unhide HX4) hb5)
    have HY5 := hide (bel_on (unhide HY4) hb5)
    have SB5 := hide ((unhide SB) ar nr cr w5 ((unhide HK4).later hb5) (unhide HSB) (unhide HX5))
    clear hb5 TM4 SB HX4 HY4 HK4
    go_wp2_with fail
    refine (unhide SB5).mono ?_
    rintro e w6 ⟨rfl, hb6⟩
    have HX6 := hide (bel_on (unhide HX5) hb6)
    have HY6 := hide (bel_on (unhide HY5) hb6)
    have CM6 := hide ((unhide CM) w6 (unhide HY6))
    clear hb6 SB5 CM HX5 HY5
    go_wp2_with fail
    refine (unhide CM6).mono ?_
    rintro e w7 ⟨rfl, hb7⟩
    have hX7 := bel_on (unhide HX6) hb7
    have ht7 := (hX7.block _ (lt_of_block (unhide HT))).trans (unhide HT)
    have d1 := cell_of ht7 1 _ rfl
    have lt7 := lt_of_block ht7
    have HX7 := hide hX7
    have HY7 := hide (bel_on (unhide HY6) hb7)
    clear hb7 CM6 HX6 HY6 hX7 ht7
    go_wp2
    go_loopw [81] (fun i wr => ∃ k : Nat, k ≤ ni ∧ i = .int .i64 k ∧ Hid (Below X.heap.size X wr) ∧ Hid (Below Y.heap.size Y wr)) (fun i _ => ni - (intOf i).toNat)
    case atStart => exact ⟨0, Nat.zero_le _, rfl, HX7, HY7⟩
    case round =>
      obtain ⟨k, hk, rfl, HXr, HYr⟩ := hrel
      clear d1 lt7 HX7 HY7 HX2 HB2
      have htr := ((unhide HXr).block _ (lt_of_block (unhide HT))).trans (unhide HT)
      by_cases hlt : k < ni
      · have hlk : k < I.length := by rw [(unhide HI).1]; exact hlt
        obtain ⟨b, off, rfl, hbl, hcell⟩ := (unhide HI).2 (by omega)
        have hin0 := hcell k hlk
        have G4 := hide ((unhide F4) I[k] (List.getElem_mem _))
        obtain ⟨q2, hq2⟩ := (unhide F5) I[k] (List.getElem_mem _)
        obtain ⟨y, hy⟩ : ∃ y, I[k] = y := ⟨_, rfl⟩
        rw [hy] at hin0 G4 hq2
        obtain ⟨y1, y2, key⟩ := y
        obtain ⟨g1', g2', ka, kn, kc, g3', _, _⟩ := hin0
        have g1 := cell_later (unhide HXr) g1'
        have g2 := cell_later (unhide HXr) g2'
        have g3 := cell_later (unhide HXr) g3'
        clear g1' g2' g3' hcell hbl htr
        simp only at g1 g2 g3 G4 hq2
        obtain ⟨⟨r1, q1⟩, hr1⟩ : ∃ r, fdD M (y1, y2) = r := ⟨_, rfl⟩
        have R1 : Hid (y1 ≠ name → r1 = 7) := fun q => by
          have := (unhide G4) q
          rw [hr1] at this
          injection this
        obtain ⟨Z, hZ⟩ : ∃ Z, Z = wr.alloc (.cells #[.int .i64 y1, .int .i64 y2, .slice ka kn kc] 54) := ⟨_, rfl⟩
        have hbZ : Below wr.heap.size wr Z := by rw [hZ]; exact bel_new _ _
        have hZ1 : Z.heap[wr.heap.size]? = some (.cells [.int .i64 y1, .int .i64 y2, .slice ka kn kc].toArray 54 (0, 0)) := by rw [hZ]; exact three_heap _ _ _ _ _
        have z0 := cell_of hZ1 0 _ rfl
        have z1 := cell_of hZ1 1 _ rfl
        have hzl := lt_of_block hZ1
        have HZ1 := hide hZ1
        have HXZ := hide (bel_on (unhide HXr) hbZ)
        have HYZ := hide (bel_on (unhide HYr) hbZ)
        have F1 := hide ((unhide FM) (y1, y2) r1 q1 Z (unhide HYZ) hr1)
        have FL2 := hide (fun W hb => (unhide FL) (y1, y2) q2 W hb hq2)
        clear hbZ hZ1 hr1 hq2 G4 hy FM FL
        go_wp2_with fail
        rw [← hZ]
        clear hZ
        go_wp2_with fail
        refine (unhide F1).mono ?_
        rintro e w8 ⟨la, ln, lc, rfl, _, _, hb8⟩
        unfold cnV
        obtain ⟨V, hV⟩ : ∃ V, V = w8.alloc (.cells #[.int .i64 q1.1, .int .i64 q1.2.1, .int .i64 (cv q1), .slice la ln lc, .int .i64 (ch q1), .bool (Go.Proofs.Ytklpajhgfdpboaa.cr q1)] 29) := ⟨_, rfl⟩
        have hbV : Below w8.heap.size w8 V := by rw [hV]; exact bel_new _ _
        have hh8 := (hb8.block _ (lt_of_block (unhide HZ1))).trans (unhide HZ1)
        have hhV := (hbV.block _ (lt_of_block hh8)).trans hh8
        have v0 := cell_of hhV 0 _ rfl
        have v1 := cell_of hhV 1 _ rfl
        have hvl := lt_of_block hhV
        have w80 := cell_of hh8 0 _ rfl
        have w81 := cell_of hh8 1 _ rfl
        have h8l := lt_of_block hh8
        have HXV := hide (bel_on (bel_on (unhide HXZ) hb8) hbV)
        have HYV := hide (bel_on (bel_on (unhide HYZ) hb8) hbV)
        have F2 := hide ((unhide FL2) V (unhide HXV))
        have hwv : w8.heap.size < V.heap.size := by rw [hV]; simp
        clear hb8 hbV hh8 hhV FL2 F1 z0 z1 hzl g1 g2 g3
        by_cases hne : y1 = name
        · subst hne
          clear R1
          go_wp2_with fail
          rw [← hV]
          clear hV
          go_wp2_with fail
          refine (unhide F2).mono ?_
          rintro e w9 ⟨lb, lm, ld, rfl, _, _, hb9⟩
          unfold cnV
          have HX9 := hide (bel_on (bel_on (unhide HXV) hb9) (bel_new w9 (.cells #[.int .i64 q2.1, .int .i64 q2.2.1, .int .i64 (cv q2), .slice lb lm ld, .int .i64 (ch q2), .bool (Go.Proofs.Ytklpajhgfdpboaa.cr q2)] 29)))
          have HY9 := hide (bel_on (bel_on (unhide HYV) hb9) (bel_new w9 (.cells #[.int .i64 q2.1, .int .i64 q2.2.1, .int .i64 (cv q2), .slice lb lm ld, .int .i64 (ch q2), .bool (Go.Proofs.Ytklpajhgfdpboaa.cr q2)] 29)))
          clear hb9
          go_wp2
          go_roundw
          case rel => exact ⟨k + 1, by omega, by go_num, HX9, HY9⟩
          case measure => simp [intOf]; omega
        · have R := (unhide R1) hne
          subst R
          clear R1
          go_wp2_with fail
          rw [← hV]
          clear hV
          go_wp2_with fail
          refine (unhide F2).mono ?_
          rintro e w9 ⟨lb, lm, ld, rfl, _, _, hb9⟩
          unfold cnV
          have HX9 := hide (bel_on (bel_on (unhide HXV) hb9) (bel_new w9 (.cells #[.int .i64 q2.1, .int .i64 q2.2.1, .int .i64 (cv q2), .slice lb lm ld, .int .i64 (ch q2), .bool (Go.Proofs.Ytklpajhgfdpboaa.cr q2)] 29)))
          have HY9 := hide (bel_on (bel_on (unhide HYV) hb9) (bel_new w9 (.cells #[.int .i64 q2.1, .int .i64 q2.2.1, .int .i64 (cv q2), .slice lb lm ld, .int .i64 (ch q2), .bool (Go.Proofs.Ytklpajhgfdpboaa.cr q2)] 29)))
          clear hb9
          go_wp2
          go_roundw
          case rel => exact ⟨k + 1, by omega, by go_num, HX9, HY9⟩
          case measure => simp [intOf]; omega
      · have r1 := cell_of htr 1 _ rfl
        have hr := lt_of_block htr
        have HZZ : Hid (I.length = ni) := (unhide HI).1
        have HBF := hide (bel_on (unhide HBX) (unhide HXr))
        clear htr
        by_cases hz : ni = 0
        · have hs : sl < sm := (unhide SM).1 (by show I.length = 0; rw [unhide HZZ]; exact hz)
          subst hz
          clear SM
          go_wp2
          go_ret
          exact ⟨rfl, unhide HBF⟩
        · have hs : sm ≤ sl := (unhide SM).2 (by show I.length ≠ 0; rw [unhide HZZ]; exact hz)
          have hp : 0 < ni := by omega
          clear SM
          go_wp2
          go_ret
          exact ⟨rfl, unhide HBF⟩
  · have g1 : (x1 != 0) = true := by simp [e1]
    clear e1 H1
    go_wp2_with fail
    refine (unhide TH2).mono ?_
    rintro e w3 ⟨rfl, hb3⟩
    have HB3 := hide (bel_on (unhide HBX) (bel_on (unhide HX2) hb3))
    clear hb3
    go_wp2
    go_ret
    exact ⟨rfl, unhide HB3⟩

end Go.Proofs.Ytklpajhgfdpboaa
