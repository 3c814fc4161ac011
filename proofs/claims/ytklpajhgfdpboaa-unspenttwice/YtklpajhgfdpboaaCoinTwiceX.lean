/- The law UnspentTwice answers true. -/
import Derived.Test.YtklpajhgfdpboaaCoinTwiceW
namespace Go.Proofs.Ytklpajhgfdpboaa
open Go.RowKit

set_option maxRecDepth 10000 in
set_option maxHeartbeats 12800000 in
theorem lawTwice_any (a : Option Addr) (n c : Nat) (L : List CoinD) (h : Int) (ai ao : Option Addr) (ni ci no co : Nat) (I : List InD) (O : List OutD) (name ht : Int) (g : Int) (bi bo : Option Addr) (mi di mo eo : Nat) (I' : List InD) (O' : List OutD) (other later : Int) (w : World)
    (hL : CoinsAt w a n L) (sL : SlOk a n c) (hI : InsAt w ai ni I) (hO : OutsAt w ao no O) (sI : SlOk ai ni ci) (hI' : InsAt w bi mi I') (hO' : OutsAt w bo mo O') (sI' : SlOk bi mi di) :
    Calls Try.prog 5 #[.slice a n c, .agg #[.int .i64 h, .slice ai ni ci, .slice ao no co], .int .i64 name, .int .i64 ht, .agg #[.int .i64 g, .slice bi mi di, .slice bo mo eo], .int .i64 other, .int .i64 later] w fun e w' => e = .returned (.bool true) ∧ Below w.heap.size w w' := by
  obtain ⟨X, hX⟩ : ∃ X, X = ((w.alloc (.cells #[.int .i64 h, .slice ai ni ci, .slice ao no co] 46)).alloc (.cells #[.int .i64 name] 3)).alloc (.cells #[.int .i64 g, .slice bi mi di, .slice bo mo eo] 46) := ⟨_, rfl⟩
  have hbX : Below w.heap.size w X := by rw [hX]; exact bel_on (bel_on (bel_new _ _) (bel_new _ _)) (bel_new _ _)
  have hXt : X.heap[w.heap.size]? = some (.cells [.int .i64 h, .slice ai ni ci, .slice ao no co].toArray 46 (0, 0)) := by
    rw [hX, Below.heap_alloc _ _ _ (by simp; omega), Below.heap_alloc _ _ _ (by simp)]; exact three_heap _ _ _ _ _
  have hXn : X.heap[w.heap.size + 1]? = some (.cells [.int .i64 name].toArray 3 (0, 0)) := by
    rw [hX, Below.heap_alloc _ _ _ (by simp)]
    have := heap_alloc_new (w.alloc (.cells #[.int .i64 h, .slice ai ni ci, .slice ao no co] 46)) (.cells #[.int .i64 name] 3)
    rw [show (w.alloc (.cells #[.int .i64 h, .slice ai ni ci, .slice ao no co] 46)).heap.size = w.heap.size + 1 by simp] at this
    exact this
  have hXu : X.heap[w.heap.size + 2]? = some (.cells [.int .i64 g, .slice bi mi di, .slice bo mo eo].toArray 46 (0, 0)) := by
    rw [hX]
    have := heap_alloc_new ((w.alloc (.cells #[.int .i64 h, .slice ai ni ci, .slice ao no co] 46)).alloc (.cells #[.int .i64 name] 3)) (.cells #[.int .i64 g, .slice bi mi di, .slice bo mo eo] 46)
    rw [show ((w.alloc (.cells #[.int .i64 h, .slice ai ni ci, .slice ao no co] 46)).alloc (.cells #[.int .i64 name] 3)).heap.size = w.heap.size + 2 by simp] at this
    exact this
  obtain ⟨⟨x1, M, S⟩, h1⟩ : ∃ r, apD L (h, I, O) name ht = r := ⟨_, rfl⟩
  obtain ⟨⟨x2, M2, S2⟩, h2⟩ : ∃ r, apD M (h, I, O) other later = r := ⟨_, rfl⟩
  obtain ⟨⟨x3, M3, S3⟩, h3⟩ : ∃ r, apD M (g, I', O') other later = r := ⟨_, rfl⟩
  have A1 := hide (apply_is a n c L h ai ao ni ci no co I O name ht x1 M S X (hL.later hbX) sL (hI.later hbX) (hO.later hbX) sI h1)
  have A2 := hide (fun am nm cm W (hb : Below X.heap.size X W) (hM : CoinsAt W am nm M) (sM : SlOk am nm cm) => apply_is am nm cm M h ai ao ni ci no co I O other later x2 M2 S2 W hM sM ((hI.later hbX).later hb) ((hO.later hbX).later hb) sI h2)
  have A3 := hide (fun am nm cm W (hb : Below X.heap.size X W) (hM : CoinsAt W am nm M) (sM : SlOk am nm cm) => apply_is am nm cm M g bi bo mi di mo eo I' O' other later x3 M3 S3 W hM sM ((hI'.later hbX).later hb) ((hO'.later hbX).later hb) sI' h3)
  have CT1 := hide (fun (o : Bool) W (hb : Below X.heap.size X W) (ho : I.any (fun y => decide (y.1 = name)) = o) => contains_twice1 (fun y => decide (y.1 = name)) (.pointer (some ⟨w.heap.size + 1, 0, none⟩)) ai ni ci I o W sI.len ((hI.later hbX).later hb) (fun wr hbr y ka kn kc => twice1_is name (w.heap.size + 1) y ka kn kc wr (cell_later hbr (cell_later hb (cell_of hXn 0 _ rfl)))) ho)
  have CT2 := hide (fun (o : Bool) W (hb : Below X.heap.size X W) (ho : I'.any (fun x => I.any (sameP2 x)) = o) => contains_twice2 (fun x => I.any (sameP2 x)) (.pointer (some ⟨w.heap.size, 0, none⟩)) bi mi di I' o W sI'.len ((hI'.later hbX).later hb) (fun wr hbr y ka kn kc => twice2_is ai ni ci I y w.heap.size ka kn kc wr (((hI.later hbX).later hb).later hbr) sI.len (cell_later hbr (cell_later hb (cell_of hXt 1 _ rfl)))) ho)
  have TH := hide there_yes
  have HT := hide hXt
  have HU := hide hXu
  have HN := hide hXn
  have HBX := hide hbX
  have x0 := cell_of hXt 0 _ rfl
  have x1' := cell_of hXt 1 _ rfl
  have x2' := cell_of hXt 2 _ rfl
  have xn := cell_of hXn 0 _ rfl
  have hl0 := lt_of_block hXt
  have hl1 := lt_of_block hXn
  have hlen : I.length = ni := hI.1
  have FIN : Hid (x1 = 0 → ni ≠ 0 → I.any (fun y => decide (y.1 = name)) = false → x2 ≠ 0 ∧ (x3 = 0 → I'.any (fun x => I.any (sameP2 x)) = false)) := fun e1 e2 e3 => by
    subst e1
    refine ⟨twice_self h1 (by show I.length ≠ 0; omega) e3 h2, fun e4 => ?_⟩
    subst e4
    exact twice_other h1 e3 h3
  clear hL sL hI hO sI hI' hO' sI' h1 h2 h3 hXt hXn hXu hbX hlen
  go_enter Try.func5, Try.ntmps5
  go_wp2_with fail
  rw [← hX]
  clear hX
  refine (unhide A1).mono ?_
  rintro e w1 ⟨am, nm, cm, sa, ns, cs, rfl, hM, sM, _, _, hb1⟩
  obtain ⟨Y, hY⟩ : ∃ Y, Y = w1.alloc (.cells #[.slice sa ns cs] 48) := ⟨_, rfl⟩
  have hbY : Below w1.heap.size w1 Y := by rw [hY]; exact bel_new _ _
  have hbXY := bel_on hb1 hbY
  have HMY := hide (hM.later hbY)
  have HSM := hide sM
  have HXY := hide hbXY
  have THY := hide ((unhide TH) Y)
  clear hM sM hb1 hbY hbXY x0 x1' x2' xn hl0 hl1 A1
  go_wp2_with fail
  rw [← hY]
  clear hY
  refine (unhide THY).mono ?_
  rintro e w2 ⟨rfl, hb2⟩
  have hX2 := bel_on (unhide HXY) hb2
  have ht2 := (hX2.block _ (lt_of_block (unhide HT))).trans (unhide HT)
  have c0 := cell_of ht2 0 _ rfl
  have c1 := cell_of ht2 1 _ rfl
  have c2 := cell_of ht2 2 _ rfl
  have lt2 := lt_of_block ht2
  have HX2 := hide hX2
  have HM2 := hide ((unhide HMY).later hb2)
  have TH2 := hide ((unhide TH) w2)
  clear hb2 hX2 ht2 THY HMY
  by_cases e1 : x1 = 0
  · subst e1
    by_cases e2 : ni = 0
    · have g0 : ((ni : Int) == 0) = true := by simp [e2]
      subst e2
      go_wp2_with fail
      refine (unhide TH2).mono ?_
      rintro e w3 ⟨rfl, hb3⟩
      have HB3 := hide (bel_on (unhide HBX) (bel_on (unhide HX2) hb3))
      clear hb3
      go_wp2
      go_ret
      exact ⟨rfl, unhide HB3⟩
    · have g0 : ((ni : Int) == 0) = false := by simp [e2]
      obtain ⟨o, ho⟩ : ∃ o, I.any (fun y => decide (y.1 = name)) = o := ⟨_, rfl⟩
      have CC := hide ((unhide CT1) o w2 (unhide HX2) ho)
      cases o with
      | true =>
        clear FIN ho
        go_wp2_with fail
        refine (unhide CC).mono ?_
        rintro e w3 ⟨rfl, hb3⟩
        have TH3 := hide ((unhide TH) w3)
        have HB3 := hide (bel_on (unhide HBX) (bel_on (unhide HX2) hb3))
        clear hb3
        go_wp2_with fail
        refine (unhide TH3).mono ?_
        rintro e w4 ⟨rfl, hb4⟩
        have HB4 := hide (bel_on (unhide HB3) hb4)
        clear hb4
        go_wp2
        go_ret
        exact ⟨rfl, unhide HB4⟩
      | false =>
        obtain ⟨f1, f2⟩ := (unhide FIN) rfl e2 ho
        have g2 : (x2 == 0) = false := by simp [f1]
        have F2 := hide f2
        clear FIN ho f1 f2
        go_wp2_with fail
        refine (unhide CC).mono ?_
        rintro e w3 ⟨rfl, hb3⟩
        have hX3 := bel_on (unhide HX2) hb3
        have ht3 := (hX3.block _ (lt_of_block (unhide HT))).trans (unhide HT)
        have d0 := cell_of ht3 0 _ rfl
        have d1 := cell_of ht3 1 _ rfl
        have d2 := cell_of ht3 2 _ rfl
        have lt3 := lt_of_block ht3
        have hM3 := (unhide HM2).later hb3
        have AA := hide ((unhide A2) am nm cm w3 hX3 hM3 (unhide HSM))
        have HX3 := hide hX3
        have HM3 := hide hM3
        clear hb3 hX3 ht3 hM3 c0 c1 c2 lt2 CC
        go_wp2_with fail
        refine (unhide AA).mono ?_
        rintro e w4 ⟨a4, n4, c4, s4, z4, q4, rfl, _, _, _, _, hb4⟩
        obtain ⟨Z, hZ⟩ : ∃ Z, Z = w4.alloc (.cells #[.slice s4 z4 q4] 48) := ⟨_, rfl⟩
        have hbZ : Below w4.heap.size w4 Z := by rw [hZ]; exact bel_new _ _
        have hX4 := bel_on (unhide HX3) hb4
        have hXZ := bel_on hX4 hbZ
        have hu4 := (hX4.block _ (lt_of_block (unhide HU))).trans (unhide HU)
        have k0 := cell_of hu4 0 _ rfl
        have k1 := cell_of hu4 1 _ rfl
        have k2 := cell_of hu4 2 _ rfl
        have lu4 := lt_of_block hu4
        have hMZ := ((unhide HM3).later hb4).later hbZ
        have AB := hide ((unhide A3) am nm cm Z hXZ hMZ (unhide HSM))
        have HXZ := hide hXZ
        clear hb4 hbZ hX4 hXZ hu4 hMZ d0 d1 d2 lt3 AA
        go_wp2_with fail
        rw [← hZ]
        clear hZ
        refine (unhide AB).mono ?_
        rintro e w5 ⟨a5, n5, c5, s5, z5, q5, rfl, _, _, _, _, hb5⟩
        obtain ⟨V, hV⟩ : ∃ V, V = w5.alloc (.cells #[.slice s5 z5 q5] 48) := ⟨_, rfl⟩
        have hbV : Below w5.heap.size w5 V := by rw [hV]; exact bel_new _ _
        have hX5 := bel_on (unhide HXZ) hb5
        have hXV := bel_on hX5 hbV
        have hu5 := (hX5.block _ (lt_of_block (unhide HU))).trans (unhide HU)
        have m0 := cell_of hu5 0 _ rfl
        have m1 := cell_of hu5 1 _ rfl
        have m2 := cell_of hu5 2 _ rfl
        have lu5 := lt_of_block hu5
        have HXV := hide hXV
        clear hb5 hbV hX5 hXV hu5 k0 k1 k2 lu4 AB
        by_cases e3 : x3 = 0
        · have CD := hide ((unhide CT2) false V (unhide HXV) ((unhide F2) e3))
          subst e3
          clear F2
          go_wp2_with fail
          rw [← hV]
          clear hV
          refine (unhide CD).mono ?_
          rintro e w6 ⟨rfl, hb6⟩
          have HB6 := hide (bel_on (unhide HBX) (bel_on (unhide HXV) hb6))
          clear hb6
          go_wp2
          go_ret
          exact ⟨rfl, unhide HB6⟩
        · have g3 : (x3 == 0) = false := by simp [e3]
          have HBV := hide (bel_on (unhide HBX) (unhide HXV))
          clear e3 F2
          rw [hV] at HBV
          go_wp2
          go_ret
          exact ⟨rfl, unhide HBV⟩
  · have g1 : (x1 != 0) = true := by simp [e1]
    clear e1 FIN
    go_wp2_with fail
    refine (unhide TH2).mono ?_
    rintro e w3 ⟨rfl, hb3⟩
    have HB3 := hide (bel_on (unhide HBX) (bel_on (unhide HX2) hb3))
    clear hb3
    go_wp2
    go_ret
    exact ⟨rfl, unhide HB3⟩

end Go.Proofs.Ytklpajhgfdpboaa
