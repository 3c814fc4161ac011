/- The contracts of descend and Move (written by a program of ours: mkmove.py). -/
import Derived.Test.YtmomfkikogbdeaaGreatDoorChnDesc
import Derived.Test.YtmomfkikogbdeaaGreatDoorCoinCopyBToChnKit
namespace Go.Proofs.YtmomfkikogbdeaaGreatDoor
open Go.RowKit Go.Shelf

theorem descend_is (ka : Option Addr) (kn kc : Nat) (K : List ByteArray) (a b : Option Addr) (n c m d : Nat) (N : List Int) (T : List BlkD) (la : Option Addr) (ln lc : Nat) (C0 : List CoinD) (R L : List Int) (x : Int) (C' : List CoinD) (w : World) (hE : Env w) (hK : Bk.TextsAt w ka kn K) (hN : Tr.IntsAt w a n N) (hT : Tr.BlksAt w b m T) (sN : SlOk a n c) (sT : SlOk b m d) (hC : CoinsAt w la ln C0) (sC : SlOk la ln lc) (hR : R.length = 24) (hL : L.length = 24) (hx : descE K N T C0 R L = (x, C')) :
    Calls Tryz.prog 65 #[.agg #[.slice ka kn kc], .agg #[.slice a n c, .slice b m d], .slice la ln lc, .agg (rowV R).toArray, .agg (rowV L).toArray] w fun e w' => CnR w w' x C' e := by
  unfold descE at hx
  by_cases hz : L = List.replicate 24 0
  · rw [if_pos hz] at hx
    obtain ⟨rfl, rfl⟩ := Prod.mk.inj hx
    exact desc_none ka kn kc K a b n c m d N T la ln lc _ R L w hE hK hN hT sN sT hC sC hR hL hz
  · rw [if_neg hz] at hx
    obtain ⟨⟨x4, C4, U4⟩, hcl⟩ : ∃ r, clGo K N T R [] [] = r := ⟨_, rfl⟩
    rw [hcl] at hx
    simp only at hx
    by_cases h4 : x4 = 0
    · subst h4
      rw [if_neg (fun q => q rfl)] at hx
      exact desc_main ka kn kc K a b n c m d N T la ln lc C0 R L x C' w hE hK hN hT sN sT hC sC hR hL C4 U4 hcl hz hx
    · rw [if_pos h4] at hx
      obtain ⟨rfl, rfl⟩ := Prod.mk.inj hx
      exact desc_bad ka kn kc K a b n c m d N T la ln lc C0 R L w hE hK hN hT sN sT hC sC hR hL x4 C4 U4 hcl hz h4
theorem off_len {A B : List Int} (hA : A.length = 24) (hB : B.length = 24) : (offD A B).length = 24 := by
  simp [offD, hA, hB]
/-- What region 11 reads. -/
def SMv (b5 b13 b16 : Nat) (ka : Option Addr) (kn kc : Nat) (a : Option Addr) (n c : Nat) (b : Option Addr) (m d : Nat) (PA PC : Array Value) (V : World) : Prop :=
  V.cell? ⟨b5, 0, none⟩ = some (.slice ka kn kc) ∧ V.cell? ⟨b5 + 1, 0, none⟩ = some (.slice a n c) ∧ V.cell? ⟨b5 + 1, 1, none⟩ = some (.slice b m d) ∧ V.heap[b13]? = some (.cells PA 129 (0, 0)) ∧ V.heap[b16]? = some (.cells PC 129 (0, 0)) ∧ b5 + 1 < V.heap.size

set_option maxRecDepth 100000 in
set_option maxHeartbeats 6400000 in
theorem move_is (ka : Option Addr) (kn kc : Nat) (K : List ByteArray) (a b : Option Addr) (n c m d : Nat) (N : List Int) (T : List BlkD) (la : Option Addr) (ln lc : Nat) (C0 : List CoinD) (s t : Int) (x : Int) (C' : List CoinD) (w : World) (hE : Env w) (hK : Bk.TextsAt w ka kn K) (hN : Tr.IntsAt w a n N) (hT : Tr.BlksAt w b m T) (sN : SlOk a n c) (sT : SlOk b m d) (hC : CoinsAt w la ln C0) (sC : SlOk la ln lc) (hln : ln ≤ 4096) (hlk : ∀ x ∈ C0, (ck x).length ≤ 4096) (hx : moveE K N T C0 s t = (x, C')) :
    Calls Tryz.prog 18 #[.agg #[.slice ka kn kc], .agg #[.slice a n c, .slice b m d], .slice la ln lc, .int .i64 s, .int .i64 t] w fun e w' => CnR w w' x C' e := by
  obtain ⟨X, hX⟩ : ∃ X, X = (w.alloc (.cells #[.slice ka kn kc] 24)).alloc (.cells #[.slice a n c, .slice b m d] 28) := ⟨_, rfl⟩
  have hbX : Below w.heap.size w X := by rw [hX]; exact bel_on (bel_new _ _) (bel_new _ _)
  have hX0 : X.heap[w.heap.size]? = some (.cells [.slice ka kn kc].toArray 24 (0, 0)) := by rw [hX, Below.heap_alloc _ _ _ (by simp)]; exact one_heap _ _ _
  have hX1 : X.heap[w.heap.size + 1]? = some (.cells [.slice a n c, .slice b m d].toArray 28 (0, 0)) := by
    rw [hX]
    have := heap_alloc_new (w.alloc (.cells #[.slice ka kn kc] 24)) (.cells #[.slice a n c, .slice b m d] 28)
    rw [show (w.alloc (.cells #[.slice ka kn kc] 24)).heap.size = w.heap.size + 1 by simp] at this
    exact this
  obtain ⟨z, hz⟩ : ∃ z, Bk.bkChk K = z := ⟨_, rfl⟩
  obtain ⟨⟨P, y⟩, hp⟩ : ∃ r, Tr.pathE N T s = r := ⟨_, rfl⟩
  obtain ⟨⟨P2, y2⟩, hp2⟩ : ∃ r, Tr.pathE N T t = r := ⟨_, rfl⟩
  unfold moveE at hx
  rw [hz, hp, hp2] at hx
  simp only at hx
  have hP := path_short hp
  have hP2 := path_short hp2
  have hA := rowD_len hP
  have hB := rowD_len hP2
  obtain ⟨A, hAe⟩ : ∃ A, rowD P = A := ⟨_, rfl⟩
  obtain ⟨B, hBe⟩ : ∃ B, rowD P2 = B := ⟨_, rfl⟩
  have R1 := hide (fun W (hw : Below X.heap.size X W) => rowOf_is a b n c m d N T s P y W ((hN.later hbX).later hw) ((hT.later hbX).later hw) sN sT hp hP)
  have R2 := hide (fun W (hw : Below X.heap.size X W) => rowOf_is a b n c m d N T t P2 y2 W ((hN.later hbX).later hw) ((hT.later hbX).later hw) sN sT hp2 hP2)
  rw [hAe] at hx hA R1
  rw [hBe] at hx hB R2
  have hAB := off_len hA hB
  have hBA := off_len hB hA
  obtain ⟨AB, hABe⟩ : ∃ AB, offD A B = AB := ⟨_, rfl⟩
  obtain ⟨BA, hBAe⟩ : ∃ BA, offD B A = BA := ⟨_, rfl⟩
  have AP := hide (fun W => apart_is A B W hA hB)
  rw [hABe] at hx hAB AP
  rw [hBAe] at hx hBA AP
  obtain ⟨⟨x3, C3⟩, hds⟩ : ∃ r, descE K N T C0 A AB = r := ⟨_, rfl⟩
  obtain ⟨⟨x4, C4, U4⟩, hcl⟩ : ∃ r, clGo K N T BA C3 [] = r := ⟨_, rfl⟩
  rw [hds] at hx
  simp only at hx
  rw [hcl] at hx
  simp only at hx
  have C1 := hide (Bk.check_is ka kn kc K X (hK.later hbX) z hz)
  have CC := hide (fun W (hw : Below X.heap.size X W) => copyCoins_is la ln lc C0 W hln ((hC.later hbX).later hw) sC hlk)
  have DS := hide (fun W (ca : Option Addr) (cc : Nat) (hw : Below X.heap.size X W) (hc : CoinsAt W ca ln C0) (sc : SlOk ca ln cc) => descend_is ka kn kc K a b n c m d N T ca ln cc C0 A AB x3 C3 W ((hE.later hbX).later hw) ((hK.later hbX).later hw) ((hN.later hbX).later hw) ((hT.later hbX).later hw) sN sT hc sc hA hAB hds)
  have CL := hide (fun W (ca : Option Addr) (cn cc : Nat) (hw : Below X.heap.size X W) (hc : CoinsAt W ca cn C3) (sc : SlOk ca cn cc) => climb_is ka kn kc K a b n c m d N T ca cn cc C3 BA x4 C4 U4 W ((hE.later hbX).later hw) ((hK.later hbX).later hw) ((hN.later hbX).later hw) ((hT.later hbX).later hw) sN sT hc sc hBA hcl)
  have x00 := cell_of hX0 0 _ rfl
  have xl := lt_of_block hX1
  have xk := lt_of_block hX0
  have HBX := hide hbX
  have HX0 := hide hX0
  have HX1 := hide hX1
  have HX := hide hx
  have iA := row_info hA
  have iB := row_info hB
  have iAB := row_info hAB
  have iBA := row_info hBA
  have oA := rowV_one A
  have oB := rowV_one B
  have oAB := rowV_one AB
  have oBA := rowV_one BA
  have sA : ((rowV (List.replicate 24 0)).toArray : Array Value).size = (rowV A).toArray.size := by simp [rowV, hA]
  have sB : ((rowV (List.replicate 24 0)).toArray : Array Value).size = (rowV B).toArray.size := by simp [rowV, hB]
  have sAB : ((rowV (List.replicate 24 0)).toArray : Array Value).size = (rowV AB).toArray.size := by simp [rowV, hAB]
  have sBA : ((rowV (List.replicate 24 0)).toArray : Array Value).size = (rowV BA).toArray.size := by simp [rowV, hBA]
  obtain ⟨PA, hPA⟩ : ∃ PA, (rowV A).toArray = PA := ⟨_, rfl⟩
  obtain ⟨PB, hPB⟩ : ∃ PB, (rowV B).toArray = PB := ⟨_, rfl⟩
  obtain ⟨PC, hPC⟩ : ∃ PC, (rowV AB).toArray = PC := ⟨_, rfl⟩
  obtain ⟨PD, hPD⟩ : ∃ PD, (rowV BA).toArray = PD := ⟨_, rfl⟩
  rw [hPA] at R1 AP DS iA oA sA
  rw [hPB] at R2 AP iB oB sB
  rw [hPC] at AP DS iAB oAB sAB
  rw [hPD] at AP CL iBA oBA sBA
  clear hE hK hN hT sN sT hC sC hln hlk hbX hX0 hX1 hx hp hp2 hcl hds hz hP hP2 hA hB hAB hBA hAe hBe hABe hBAe hPA hPB hPC hPD
  go_enter Tryz.func18, Tryz.ntmps18
  go_wp2_with fail
  rw [← hX]
  clear hX
  (try go_wp2_with fail)
  refine (unhide C1).mono ?_
  rintro e w1 ⟨rfl, hb1⟩
  by_cases hz0 : z = 0
  · subst hz0
    have h11 := (hb1.block _ (lt_of_block (unhide HX1))).trans (unhide HX1)
    have q10 := cell_of h11 0 _ rfl
    have q11 := cell_of h11 1 _ rfl
    have q1l := lt_of_block h11
    have D2 := hide ((unhide R1) w1 hb1)
    have HB1 := hide hb1
    clear hb1 h11 C1 R1 x00
    go_wp2_with fail
    refine (unhide D2).mono ?_
    rintro e w2 ⟨rfl, hb2⟩
    obtain ⟨Y, hY⟩ : ∃ Y, Y = w2.alloc (.cells PA 129) := ⟨_, rfl⟩
    have hbY : Below w2.heap.size w2 Y := by rw [hY]; exact bel_new _ _
    have HYA : Hid (Y.heap[w2.heap.size]? = some (.cells PA 129 (0, 0))) := by rw [hY]; exact heap_alloc_new _ _
    have hXY := bel_on (unhide HB1) (bel_on hb2 hbY)
    have h1 := (hXY.block _ (lt_of_block (unhide HX1))).trans (unhide HX1)
    have HYZ : Hid ((w2.alloc (.cells #[.int .i64 0, .int .i64 0, .int .i64 0, .int .i64 0, .int .i64 0, .int .i64 0, .int .i64 0, .int .i64 0, .int .i64 0, .int .i64 0, .int .i64 0, .int .i64 0, .int .i64 0, .int .i64 0, .int .i64 0, .int .i64 0, .int .i64 0, .int .i64 0, .int .i64 0, .int .i64 0, .int .i64 0, .int .i64 0, .int .i64 0, .int .i64 0] 129)).heap[w2.heap.size]? = some (.cells (rowV (List.replicate 24 0)).toArray 129 (0, 0))) := by rw [zero24]; exact heap_alloc_new _ _
    have EY : Hid ((w2.alloc (.cells #[.int .i64 0, .int .i64 0, .int .i64 0, .int .i64 0, .int .i64 0, .int .i64 0, .int .i64 0, .int .i64 0, .int .i64 0, .int .i64 0, .int .i64 0, .int .i64 0, .int .i64 0, .int .i64 0, .int .i64 0, .int .i64 0, .int .i64 0, .int .i64 0, .int .i64 0, .int .i64 0, .int .i64 0, .int .i64 0, .int .i64 0, .int .i64 0] 129)).setRow w2.heap.size PA = Y) := by show _ = _; rw [hY]; exact World.setRow_alloc_new _ _ _ _
    have D3 := hide ((unhide R2) Y hXY)
    have HXY := hide hXY
    have r1 := cell_of h1 0 _ rfl
    have r2 := cell_of h1 1 _ rfl
    have rl := lt_of_block h1
    clear hb2 hbY hXY h1 D2 R2 q10 q11 q1l hY
    by_cases hy : y = 0
    · subst hy
      go_wp2_with (refine wpList_store_row rfl 129 _ _ rfl _ rfl _ _ rfl _ (unhide HYZ) iA sA oA ?_; rw [unhide EY])
      refine (unhide D3).mono ?_
      rintro e w3 ⟨rfl, hb3⟩
      obtain ⟨Y2, hY2⟩ : ∃ Y2, Y2 = w3.alloc (.cells PB 129) := ⟨_, rfl⟩
      have hbY2 : Below w3.heap.size w3 Y2 := by rw [hY2]; exact bel_new _ _
      have HYB : Hid (Y2.heap[w3.heap.size]? = some (.cells PB 129 (0, 0))) := by rw [hY2]; exact heap_alloc_new _ _
      have hYY := bel_on hb3 hbY2
      have HYA2 := hide ((hYY.block _ (lt_of_block (unhide HYA))).trans (unhide HYA))
      have HYZ2 : Hid ((w3.alloc (.cells #[.int .i64 0, .int .i64 0, .int .i64 0, .int .i64 0, .int .i64 0, .int .i64 0, .int .i64 0, .int .i64 0, .int .i64 0, .int .i64 0, .int .i64 0, .int .i64 0, .int .i64 0, .int .i64 0, .int .i64 0, .int .i64 0, .int .i64 0, .int .i64 0, .int .i64 0, .int .i64 0, .int .i64 0, .int .i64 0, .int .i64 0, .int .i64 0] 129)).heap[w3.heap.size]? = some (.cells (rowV (List.replicate 24 0)).toArray 129 (0, 0))) := by rw [zero24]; exact heap_alloc_new _ _
      have EY2 : Hid ((w3.alloc (.cells #[.int .i64 0, .int .i64 0, .int .i64 0, .int .i64 0, .int .i64 0, .int .i64 0, .int .i64 0, .int .i64 0, .int .i64 0, .int .i64 0, .int .i64 0, .int .i64 0, .int .i64 0, .int .i64 0, .int .i64 0, .int .i64 0, .int .i64 0, .int .i64 0, .int .i64 0, .int .i64 0, .int .i64 0, .int .i64 0, .int .i64 0, .int .i64 0] 129)).setRow w3.heap.size PB = Y2) := by show _ = _; rw [hY2]; exact World.setRow_alloc_new _ _ _ _
      have HXY2 := hide (bel_on (unhide HXY) hYY)
      have D4 := hide ((unhide AP) Y2)
      clear hb3 hbY2 hYY D3 AP r1 r2 rl hY2 HYZ EY HYA
      by_cases hy2 : y2 = 0
      · subst hy2
        go_wp2_with (first | (refine wpList_store_row rfl 129 _ _ rfl _ rfl _ _ rfl _ (unhide HYZ2) iB sB oB ?_; rw [unhide EY2]) | refine wpList_load_row rfl 129 _ rfl _ rfl _ _ (unhide HYA2) _ _ Tryz.underlying129 iA ?_ | refine wpList_load_row rfl 129 _ rfl _ rfl _ _ (unhide HYB) _ _ Tryz.underlying129 iB ?_)
        refine (unhide D4).mono ?_
        rintro e w4 ⟨rfl, hb4⟩
        have hb34q := bel_on (bel_new w4 (.cells #[.int .i64 0, .int .i64 0, .int .i64 0, .int .i64 0, .int .i64 0, .int .i64 0, .int .i64 0, .int .i64 0, .int .i64 0, .int .i64 0, .int .i64 0, .int .i64 0, .int .i64 0, .int .i64 0, .int .i64 0, .int .i64 0, .int .i64 0, .int .i64 0, .int .i64 0, .int .i64 0, .int .i64 0, .int .i64 0, .int .i64 0, .int .i64 0] 129)) (bel_new (w4.alloc (.cells #[.int .i64 0, .int .i64 0, .int .i64 0, .int .i64 0, .int .i64 0, .int .i64 0, .int .i64 0, .int .i64 0, .int .i64 0, .int .i64 0, .int .i64 0, .int .i64 0, .int .i64 0, .int .i64 0, .int .i64 0, .int .i64 0, .int .i64 0, .int .i64 0, .int .i64 0, .int .i64 0, .int .i64 0, .int .i64 0, .int .i64 0, .int .i64 0] 129)) (.cells #[.int .i64 0, .int .i64 0, .int .i64 0, .int .i64 0, .int .i64 0, .int .i64 0, .int .i64 0, .int .i64 0, .int .i64 0, .int .i64 0, .int .i64 0, .int .i64 0, .int .i64 0, .int .i64 0, .int .i64 0, .int .i64 0, .int .i64 0, .int .i64 0, .int .i64 0, .int .i64 0, .int .i64 0, .int .i64 0, .int .i64 0, .int .i64 0] 129))
        have hq0 : ((w4.alloc (.cells #[.int .i64 0, .int .i64 0, .int .i64 0, .int .i64 0, .int .i64 0, .int .i64 0, .int .i64 0, .int .i64 0, .int .i64 0, .int .i64 0, .int .i64 0, .int .i64 0, .int .i64 0, .int .i64 0, .int .i64 0, .int .i64 0, .int .i64 0, .int .i64 0, .int .i64 0, .int .i64 0, .int .i64 0, .int .i64 0, .int .i64 0, .int .i64 0] 129)).alloc (.cells #[.int .i64 0, .int .i64 0, .int .i64 0, .int .i64 0, .int .i64 0, .int .i64 0, .int .i64 0, .int .i64 0, .int .i64 0, .int .i64 0, .int .i64 0, .int .i64 0, .int .i64 0, .int .i64 0, .int .i64 0, .int .i64 0, .int .i64 0, .int .i64 0, .int .i64 0, .int .i64 0, .int .i64 0, .int .i64 0, .int .i64 0, .int .i64 0] 129)).heap[w4.heap.size]? = some (.cells (rowV (List.replicate 24 0)).toArray 129 (0, 0)) := by rw [Below.heap_alloc _ _ _ (by simp), zero24]; exact heap_alloc_new _ _
        have hq1 : ((w4.alloc (.cells #[.int .i64 0, .int .i64 0, .int .i64 0, .int .i64 0, .int .i64 0, .int .i64 0, .int .i64 0, .int .i64 0, .int .i64 0, .int .i64 0, .int .i64 0, .int .i64 0, .int .i64 0, .int .i64 0, .int .i64 0, .int .i64 0, .int .i64 0, .int .i64 0, .int .i64 0, .int .i64 0, .int .i64 0, .int .i64 0, .int .i64 0, .int .i64 0] 129)).alloc (.cells #[.int .i64 0, .int .i64 0, .int .i64 0, .int .i64 0, .int .i64 0, .int .i64 0, .int .i64 0, .int .i64 0, .int .i64 0, .int .i64 0, .int .i64 0, .int .i64 0, .int .i64 0, .int .i64 0, .int .i64 0, .int .i64 0, .int .i64 0, .int .i64 0, .int .i64 0, .int .i64 0, .int .i64 0, .int .i64 0, .int .i64 0, .int .i64 0] 129)).heap[w4.heap.size + 1]? = some (.cells (rowV (List.replicate 24 0)).toArray 129 (0, 0)) := by
          have := heap_alloc_new (w4.alloc (.cells #[.int .i64 0, .int .i64 0, .int .i64 0, .int .i64 0, .int .i64 0, .int .i64 0, .int .i64 0, .int .i64 0, .int .i64 0, .int .i64 0, .int .i64 0, .int .i64 0, .int .i64 0, .int .i64 0, .int .i64 0, .int .i64 0, .int .i64 0, .int .i64 0, .int .i64 0, .int .i64 0, .int .i64 0, .int .i64 0, .int .i64 0, .int .i64 0] 129)) (.cells #[.int .i64 0, .int .i64 0, .int .i64 0, .int .i64 0, .int .i64 0, .int .i64 0, .int .i64 0, .int .i64 0, .int .i64 0, .int .i64 0, .int .i64 0, .int .i64 0, .int .i64 0, .int .i64 0, .int .i64 0, .int .i64 0, .int .i64 0, .int .i64 0, .int .i64 0, .int .i64 0, .int .i64 0, .int .i64 0, .int .i64 0, .int .i64 0] 129)
          rw [show (w4.alloc (.cells #[.int .i64 0, .int .i64 0, .int .i64 0, .int .i64 0, .int .i64 0, .int .i64 0, .int .i64 0, .int .i64 0, .int .i64 0, .int .i64 0, .int .i64 0, .int .i64 0, .int .i64 0, .int .i64 0, .int .i64 0, .int .i64 0, .int .i64 0, .int .i64 0, .int .i64 0, .int .i64 0, .int .i64 0, .int .i64 0, .int .i64 0, .int .i64 0] 129)).heap.size = w4.heap.size + 1 by simp] at this
          rw [this, zero24]
        obtain ⟨Q1, hQ1⟩ : ∃ Q1, Q1 = ((w4.alloc (.cells #[.int .i64 0, .int .i64 0, .int .i64 0, .int .i64 0, .int .i64 0, .int .i64 0, .int .i64 0, .int .i64 0, .int .i64 0, .int .i64 0, .int .i64 0, .int .i64 0, .int .i64 0, .int .i64 0, .int .i64 0, .int .i64 0, .int .i64 0, .int .i64 0, .int .i64 0, .int .i64 0, .int .i64 0, .int .i64 0, .int .i64 0, .int .i64 0] 129)).alloc (.cells #[.int .i64 0, .int .i64 0, .int .i64 0, .int .i64 0, .int .i64 0, .int .i64 0, .int .i64 0, .int .i64 0, .int .i64 0, .int .i64 0, .int .i64 0, .int .i64 0, .int .i64 0, .int .i64 0, .int .i64 0, .int .i64 0, .int .i64 0, .int .i64 0, .int .i64 0, .int .i64 0, .int .i64 0, .int .i64 0, .int .i64 0, .int .i64 0] 129)).setRow w4.heap.size PC := ⟨_, rfl⟩
        have hq1b : Q1.heap[w4.heap.size + 1]? = some (.cells (rowV (List.replicate 24 0)).toArray 129 (0, 0)) := by rw [hQ1]; exact (setRow_other _ _ _ _ (by omega)).trans hq1
        have hq0b : Q1.heap[w4.heap.size]? = some (.cells PC 129 (0, 0)) := by rw [hQ1]; exact setRow_heap _ _ _ _ _ _ hq0
        have hbq1 : Below w4.heap.size w4 Q1 := by rw [hQ1]; exact below_setRow hb34q (Nat.le_refl _) _
        obtain ⟨Y3, hY3⟩ : ∃ Y3, Y3 = Q1.setRow (w4.heap.size + 1) PD := ⟨_, rfl⟩
        have y16 : Y3.heap[w4.heap.size]? = some (.cells PC 129 (0, 0)) := by rw [hY3]; exact (setRow_other _ _ _ _ (by omega)).trans hq0b
        have y17 : Y3.heap[w4.heap.size + 1]? = some (.cells PD 129 (0, 0)) := by rw [hY3]; exact setRow_heap _ _ _ _ _ _ hq1b
        have hb43 : Below w4.heap.size w4 Y3 := by rw [hY3]; exact below_setRow hbq1 (Nat.le_succ _) _
        have hY23 := bel_on hb4 hb43
        have hX3 := bel_on (unhide HXY2) hY23
        have y13 := (hY23.block _ (lt_of_block (unhide HYA2))).trans (unhide HYA2)
        have y0 := (hX3.block _ (lt_of_block (unhide HX0))).trans (unhide HX0)
        have y1 := (hX3.block _ (lt_of_block (unhide HX1))).trans (unhide HX1)
        have KS : Hid (∀ V : World, Below Y3.heap.size Y3 V → SMv w.heap.size w2.heap.size w4.heap.size ka kn kc a n c b m d PA PC V) := by
          intro V hv
          exact ⟨cell_later hv (cell_of y0 0 _ rfl), cell_later hv (cell_of y1 0 _ rfl), cell_later hv (cell_of y1 1 _ rfl), (hv.block _ (lt_of_block y13)).trans y13, (hv.block _ (lt_of_block y16)).trans y16, Nat.lt_of_lt_of_le (lt_of_block y1) hv.size⟩
        have HQ0 := hide hq0
        have HQ1 := hide hq1b
        have E1 : Hid (((w4.alloc (.cells #[.int .i64 0, .int .i64 0, .int .i64 0, .int .i64 0, .int .i64 0, .int .i64 0, .int .i64 0, .int .i64 0, .int .i64 0, .int .i64 0, .int .i64 0, .int .i64 0, .int .i64 0, .int .i64 0, .int .i64 0, .int .i64 0, .int .i64 0, .int .i64 0, .int .i64 0, .int .i64 0, .int .i64 0, .int .i64 0, .int .i64 0, .int .i64 0] 129)).alloc (.cells #[.int .i64 0, .int .i64 0, .int .i64 0, .int .i64 0, .int .i64 0, .int .i64 0, .int .i64 0, .int .i64 0, .int .i64 0, .int .i64 0, .int .i64 0, .int .i64 0, .int .i64 0, .int .i64 0, .int .i64 0, .int .i64 0, .int .i64 0, .int .i64 0, .int .i64 0, .int .i64 0, .int .i64 0, .int .i64 0, .int .i64 0, .int .i64 0] 129)).setRow w4.heap.size PC = Q1) := hQ1.symm
        have E2 : Hid (Q1.setRow (w4.heap.size + 1) PD = Y3) := hY3.symm
        have HX3 := hide hX3
        have Y17 := hide y17
        have Y0 := hide y0
        have Y1 := hide y1
        clear hb34q hq0 hq1 hQ1 hq1b hq0b hbq1 hY3 y16 y17 hb43 hY23 hX3 y13 y0 y1 hb4 D4 HYA2 HYB HYZ2 EY2 xl xk
        go_wp2_with (first | (refine wpList_store_row rfl 129 _ _ rfl _ rfl _ _ rfl _ (unhide HQ0) iAB sAB oAB ?_; rw [unhide E1]) | (refine wpList_store_row rfl 129 _ _ rfl _ rfl _ _ rfl _ (unhide HQ1) iBA sBA oBA ?_; rw [unhide E2]))
        refine wp_region_held_drew (S := SMv w.heap.size w2.heap.size w4.heap.size ka kn kc a n c b m d PA PC) (by kernel_rfl) ((unhide KS) _ (bel_draw1 _)) (fun hHeld => ?_)
        refine tk 0 { dst := some 48, op := Op.load 24 (Operand.tmp 5), type := 24, pos := "move.go:28", after := #[], guard := none } ?_ rfl ?_ hHeld ?_
        rotate_left
        · (intro V hSw; obtain ⟨s1, s2, s3, s4, s5, s6⟩ := hSw; clear s4 s5; go_simp; first | done | with_reducible rfl)
        (try simp only [Act.put, List.setIfInBounds_toArray, List.set_cons_zero, List.set_cons_succ])
        refine tk 1 { dst := some 49, op := Op.load 28 (Operand.tmp 6), type := 28, pos := "move.go:28", after := #[], guard := none } ?_ rfl ?_ hHeld ?_
        rotate_left
        · (intro V hSw; obtain ⟨s1, s2, s3, s4, s5, s6⟩ := hSw; clear s4 s5; go_simp; first | done | with_reducible rfl)
        (try simp only [Act.put, List.setIfInBounds_toArray, List.set_cons_zero, List.set_cons_succ])
        refine tk 2 { dst := some 50, op := Op.move (Operand.tmp 2), type := 29, pos := "move.go:28", after := #[], guard := none } ?_ rfl ?_ hHeld ?_
        rotate_left
        · (intro V hSw; obtain ⟨s1, s2, s3, s4, s5, s6⟩ := hSw; clear s4 s5; go_simp; first | done | with_reducible rfl)
        (try simp only [Act.put, List.setIfInBounds_toArray, List.set_cons_zero, List.set_cons_succ])
        refine tk 4 { dst := some 52, op := Op.load 129 (Operand.tmp 13), type := 129, pos := "move.go:28", after := #[], guard := none } (.agg PA) rfl ?_ hHeld ?_
        · (intro V hSw; exact load_yields 129 _ rfl w2.heap.size rfl PA 129 hSw.2.2.2.1 _ _ Tryz.underlying129 iA)
        (try simp only [Act.put, List.setIfInBounds_toArray, List.set_cons_zero, List.set_cons_succ])
        refine tk 5 { dst := some 53, op := Op.load 129 (Operand.tmp 16), type := 129, pos := "move.go:28", after := #[], guard := none } (.agg PC) rfl ?_ hHeld ?_
        · (intro V hSw; exact load_yields 129 _ rfl w4.heap.size rfl PC 129 hSw.2.2.2.2.1 _ _ Tryz.underlying129 iAB)
        (try simp only [Act.put, List.setIfInBounds_toArray, List.set_cons_zero, List.set_cons_succ])
        refine wpAnyH_ready (rs := [3]) (by kernel_rfl) (by simp) ?_
        refine AllReadyH.cons (o := { dst := some 51, op := Op.call { callee := Callee.value (Operand.func 66), args := #[Operand.tmp 50], argTypes := #[29] }, type := 29, pos := "move.go:28", after := #[{ on := 2, ground := Ground.data }], guard := none }) rfl (fun KQ hK => ?_) AllReadyH.nil
        refine step_call_w (by kernel_rfl) 66 #[.slice la ln lc] (by kernel_rfl) ((unhide CC) _ (bel_on (unhide HX3) (bel_draw1 _))) ?_
        rintro e V1 ⟨ca, cc, rfl, hF, scc, hbV⟩
        refine ⟨_, rfl, ?_⟩
        have hb1 : Below Y3.heap.size Y3 V1 := bel_on (bel_draw1 Y3) hbV
        have hcc : CoinsAt V1 ca ln C0 := hF _ (Gr.refl _ _)
        refine hK.out _ _ ((unhide KS) _ hb1) (fun hHeld2 => ?_)
        clear hK KQ hHeld
        have hHeld := hHeld2
        clear hHeld2
        (try simp only [Act.put, List.setIfInBounds_toArray, List.set_cons_zero, List.set_cons_succ])
        refine wpAnyH_ready (rs := [6]) (by kernel_rfl) (by simp) ?_
        refine AllReadyH.cons (o := { dst := some 54, op := Op.call { callee := Callee.value (Operand.func 65), args := #[Operand.tmp 48, Operand.tmp 49, Operand.tmp 51, Operand.tmp 52, Operand.tmp 53], argTypes := #[24, 28, 29, 129, 129] }, type := 31, pos := "move.go:28", after := #[{ on := 0, ground := Ground.data }, { on := 1, ground := Ground.data }, { on := 3, ground := Ground.data }, { on := 4, ground := Ground.data }, { on := 5, ground := Ground.data }, { on := 3, ground := Ground.chain }], guard := none }) rfl (fun KQ hK => ?_) AllReadyH.nil
        refine step_call_w (by kernel_rfl) 65 #[.agg #[.slice ka kn kc], .agg #[.slice a n c, .slice b m d], .slice ca ln cc, .agg PA, .agg PC] (by kernel_rfl) ((unhide DS) V1 ca cc (bel_on (unhide HX3) hb1) hcc scc) ?_
        rintro e V2 ⟨oa, oon, oc, rfl, hC3, sC3, hbV2⟩
        refine ⟨_, rfl, ?_⟩
        have hb2 : Below Y3.heap.size Y3 V2 := bel_on hb1 hbV2
        refine hK.out _ _ ((unhide KS) _ hb2) (fun hHeld2 => ?_)
        clear hK KQ hHeld
        have hHeld := hHeld2
        clear hHeld2
        (try simp only [Act.put, List.setIfInBounds_toArray, List.set_cons_zero, List.set_cons_succ])
        refine tk 7 { dst := some 47, op := Op.move (Operand.tmp 54), type := 31, pos := "move.go:28", after := #[{ on := 6, ground := Ground.data }], guard := none } ?_ rfl ?_ hHeld ?_
        rotate_left
        · (intro W hSw; (try dsimp only at hSw); go_simp; first | done | with_reducible rfl)
        (try simp only [Act.put, List.setIfInBounds_toArray, List.set_cons_zero, List.set_cons_succ])
        refine tk 8 { dst := some 55, op := Op.extract (Operand.tmp 47) 0, type := 29, pos := "move.go:28", after := #[{ on := 7, ground := Ground.data }], guard := none } ?_ rfl ?_ hHeld ?_
        rotate_left
        · (intro W hSw; (try dsimp only at hSw); go_simp; first | done | with_reducible rfl)
        (try simp only [Act.put, List.setIfInBounds_toArray, List.set_cons_zero, List.set_cons_succ])
        refine tk 9 { dst := some 56, op := Op.extract (Operand.tmp 47) 1, type := 30, pos := "move.go:28", after := #[{ on := 7, ground := Ground.data }, { on := 10, ground := Ground.gcOnly Departure.lateStores }], guard := none } ?_ rfl ?_ hHeld ?_
        rotate_left
        · (intro W hSw; (try dsimp only at hSw); go_simp; first | done | with_reducible rfl)
        (try simp only [Act.put, List.setIfInBounds_toArray, List.set_cons_zero, List.set_cons_succ])
        refine tk 10 { dst := some 2, op := Op.assign (Operand.tmp 55), type := 29, pos := "move.go:28", after := #[{ on := 8, ground := Ground.data }, { on := 6, ground := Ground.chain }, { on := 0, ground := Ground.phase }, { on := 1, ground := Ground.phase }, { on := 2, ground := Ground.phase }, { on := 3, ground := Ground.phase }, { on := 4, ground := Ground.phase }, { on := 5, ground := Ground.phase }, { on := 6, ground := Ground.phase }, { on := 7, ground := Ground.phase }, { on := 8, ground := Ground.phase }, { on := 9, ground := Ground.textOnly Departure.lateStores }], guard := none } ?_ rfl ?_ hHeld ?_
        rotate_left
        · (intro W hSw; (try dsimp only at hSw); go_simp; first | done | with_reducible rfl)
        (try simp only [Act.put, List.setIfInBounds_toArray, List.set_cons_zero, List.set_cons_succ])
        refine tk 11 { dst := some 14, op := Op.assign (Operand.tmp 56), type := 30, pos := "move.go:28", after := #[{ on := 9, ground := Ground.data }, { on := 10, ground := Ground.chain }, { on := 0, ground := Ground.phase }, { on := 1, ground := Ground.phase }, { on := 2, ground := Ground.phase }, { on := 3, ground := Ground.phase }, { on := 4, ground := Ground.phase }, { on := 5, ground := Ground.phase }, { on := 6, ground := Ground.phase }, { on := 7, ground := Ground.phase }, { on := 8, ground := Ground.phase }, { on := 9, ground := Ground.phase }, { on := 10, ground := Ground.phase }], guard := none } ?_ rfl ?_ hHeld ?_
        rotate_left
        · (intro W hSw; (try dsimp only at hSw); go_simp; first | done | with_reducible rfl)
        (try simp only [Act.put, List.setIfInBounds_toArray, List.set_cons_zero, List.set_cons_succ])
        refine wpAnyH_done (by kernel_rfl) ?_ _
        clear hHeld
        have hX2 := bel_on (unhide HX3) hb2
        have z0 := (hb2.block _ (lt_of_block (unhide Y0))).trans (unhide Y0)
        have z1 := (hb2.block _ (lt_of_block (unhide Y1))).trans (unhide Y1)
        have c0 := cell_of z0 0 _ rfl
        have c10 := cell_of z1 0 _ rfl
        have c11 := cell_of z1 1 _ rfl
        have l1 := lt_of_block z1
        have l0 := lt_of_block z0
        have H17 := hide ((hb2.block _ (lt_of_block (unhide Y17))).trans (unhide Y17))
        have HX2 := hide hX2
        have D5 := hide ((unhide CL) V2 oa oon oc hX2 hC3 sC3)
        clear hb1 hb2 hbV hbV2 hcc hF scc hC3 hX2 z0 z1 KS CC DS CL HQ0 HQ1 E1 E2 sC3
        by_cases hx3 : x3 = 0
        · subst hx3
          have HR5 : Hid ((x4, C4) = (x, C')) := by have := unhide HX; rw [if_neg (fun q => q rfl), if_neg (fun q => q rfl), if_neg (fun q => q rfl), if_neg (fun q => q rfl)] at this; exact this
          clear HX
          go_wp2_with (refine wpList_load_row rfl 129 _ rfl _ rfl _ _ (unhide H17) _ _ Tryz.underlying129 iBA ?_)
          refine (unhide D5).mono ?_
          rintro e w5 ⟨ra, rn, rc, cs, rfl, hC5, sC5, hUn, hb5⟩
          obtain ⟨r1, r2⟩ := Prod.mk.inj (unhide HR5)
          subst r1 r2
          have HF : Hid (CnR w w5 x4 C4 (.returned (.tuple #[.slice ra rn rc, .int .i64 x4]))) := ⟨ra, rn, rc, rfl, hC5, sC5, bel_on (unhide HBX) (bel_on (unhide HX2) hb5)⟩
          clear hC5 sC5 hUn hb5 D5 c0 c10 c11 l1 l0 HR5
          go_wp2
          go_ret2
          exact unhide HF
        · have HR5 : Hid ((x3, ([] : List CoinD)) = (x, C')) := by have := unhide HX; rw [if_neg (fun q => q rfl), if_neg (fun q => q rfl), if_neg (fun q => q rfl), if_pos hx3] at this; exact this
          have gx : (x3 != 0) = true := by simp [hx3]
          clear HX D5
          go_wp2
          go_ret2
          exact cn_err (unhide HR5) (bel_on (unhide HBX) (unhide HX2))
      · have HR5 : Hid ((y2, ([] : List CoinD)) = (x, C')) := by have := unhide HX; rw [if_neg (fun q => q rfl), if_neg (fun q => q rfl), if_pos hy2] at this; exact this
        have gy : (y2 != 0) = true := by simp [hy2]
        clear HX D4 CC DS CL
        go_wp2_with (refine wpList_store_row rfl 129 _ _ rfl _ rfl _ _ rfl _ (unhide HYZ2) iB sB oB ?_; rw [unhide EY2])
        go_ret2
        exact cn_err (unhide HR5) (bel_on (unhide HBX) (unhide HXY2))
    · have HR5 : Hid ((y, ([] : List CoinD)) = (x, C')) := by have := unhide HX; rw [if_neg (fun q => q rfl), if_pos hy] at this; exact this
      have gy : (y != 0) = true := by simp [hy]
      clear HX D3 AP CC DS CL
      go_wp2_with (refine wpList_store_row rfl 129 _ _ rfl _ rfl _ _ rfl _ (unhide HYZ) iA sA oA ?_; rw [unhide EY])
      go_ret2
      exact cn_err (unhide HR5) (bel_on (unhide HBX) (unhide HXY))
  · have HR5 : Hid ((z, ([] : List CoinD)) = (x, C')) := by have := unhide HX; rw [if_pos hz0] at this; exact this
    have gz : (z != 0) = true := by simp [hz0]
    have HW := hide (bel_on (unhide HBX) hb1)
    clear HX C1 R1 R2 AP CC DS CL hb1 x00
    go_wp2
    go_ret2
    exact cn_err (unhide HR5) (unhide HW)

end Go.Proofs.YtmomfkikogbdeaaGreatDoor
