/- What Coins answers is right, hence short; the law ChainMoves answers true (written by a program of ours: mkclaws.py). -/
import Derived.Test.YtmomfkikogbdeaaGreatDoorChnCoinsToChnChained
import Derived.Test.YtmomfkikogbdeaaGreatDoorCoinEqToBlkDisL
import Derived.Test.YtmomfkikogbdeaaGreatDoorChnMove
import Derived.Test.YtmomfkikogbdeaaGreatDoorTxMemToTxSum
import Derived.WalkKit
import Derived.ProofKit
import Derived.OpenShut
import Derived.ShutString
import Derived.ChangeOld
import Derived.Below
import Derived.Carry
import Derived.SizedLaws
import Derived.Deep.Strs
import Derived.Deep.SlicePairs
import Derived.Lib.SmallJoins
import Derived.Test.YtmomfkikogbdeaaGreatDoorBookOpenToBookName
import Derived.Test.YtmomfkikogbdeaaGreatDoorTxCheckBToBlkMem
import Derived.Test.YtmomfkikogbdeaaGreatDoorLockPrintToTxPrintB
import Derived.HandedShaped
import Derived.LaidLaws
import Derived.Test.YtmomfkikogbdeaaGreatDoorTrMemToTrClone
namespace Go.Proofs.YtmomfkikogbdeaaGreatDoor
open Go.RowKit

theorem right_nil : RightC ([] : List CoinD) := (ckCoins_zero []).1 rfl
theorem run_right {K : List ByteArray} {N : List Int} {T : List BlkD} : ∀ (P : List Int) (C M : List CoinD) (U : List (List (List CoinD))), runC K N T P C = (0, M, U) → RightC C → RightC M
  | [], C, M, U, h, hC => by
    rw [runC] at h
    obtain ⟨_, h⟩ := Prod.mk.inj h
    obtain ⟨rfl, _⟩ := Prod.mk.inj h
    exact hC
  | p :: P, C, M, U, h, hC => by
    obtain ⟨C', S, V, h1, h2, _⟩ := runC_cons h
    exact run_right P C' M V h2 (con_all h1).2.1
theorem coins_right {K : List ByteArray} {N : List Int} {T : List BlkD} {s : Int} {A : List CoinD} (h : coinsE K N T s = (0, A)) : RightC A := by
  obtain ⟨_, _, _, U, hU⟩ := coins_ok h
  exact run_right _ _ _ _ hU right_nil
theorem right_few {A : List CoinD} {w : World} {a : Option Addr} {n : Nat} (h : RightC A) (hA : CoinsAt w a n A) : n ≤ 4096 ∧ ∀ x ∈ A, (ck x).length ≤ 4096 := by
  have h1 := hA.1
  have h2 := h.len
  exact ⟨by omega, fun z hz => by have := chk_len (ck1_zero (h.one z hz)).2.2.2.2.2.2.2.2; omega⟩

set_option maxRecDepth 10000 in
set_option maxHeartbeats 12800000 in
theorem lawCMoves_any (ka : Option Addr) (kn kc : Nat) (K : List ByteArray) (a b : Option Addr) (n c m d : Nat) (N : List Int) (T : List BlkD) (s t : Int) (w : World) (hE : Env w) (hK : Bk.TextsAt w ka kn K) (hN : Tr.IntsAt w a n N) (hT : Tr.BlksAt w b m T) (sN : SlOk a n c) (sT : SlOk b m d) :
    Calls Tryz.prog 3 #[.agg #[.slice ka kn kc], .agg #[.slice a n c, .slice b m d], .int .i64 s, .int .i64 t] w fun e w' => e = .returned (.bool true) ∧ Below w.heap.size w w' := by
  obtain ⟨X, hX⟩ : ∃ X, X = (w.alloc (.cells #[.slice ka kn kc] 24)).alloc (.cells #[.slice a n c, .slice b m d] 28) := ⟨_, rfl⟩
  have hbX : Below w.heap.size w X := by rw [hX]; exact bel_on (bel_new _ _) (bel_new _ _)
  have hX0 : X.heap[w.heap.size]? = some (.cells [.slice ka kn kc].toArray 24 (0, 0)) := by rw [hX, Below.heap_alloc _ _ _ (by simp)]; exact one_heap _ _ _
  have hX1 : X.heap[w.heap.size + 1]? = some (.cells [.slice a n c, .slice b m d].toArray 28 (0, 0)) := by
    rw [hX]
    have := heap_alloc_new (w.alloc (.cells #[.slice ka kn kc] 24)) (.cells #[.slice a n c, .slice b m d] 28)
    rw [show (w.alloc (.cells #[.slice ka kn kc] 24)).heap.size = w.heap.size + 1 by simp] at this
    exact this
  have HE := hide (hE.later hbX)
  have HK := hide (hK.later hbX)
  have HN := hide (hN.later hbX)
  have HT := hide (hT.later hbX)
  have HSN := hide sN
  have HST := hide sT
  have HBX := hide hbX
  have HX0 := hide hX0
  have HX1 := hide hX1
  obtain ⟨⟨x, A⟩, hco⟩ : ∃ r, coinsE K N T s = r := ⟨_, rfl⟩
  obtain ⟨⟨y, B⟩, hco2⟩ : ∃ r, coinsE K N T t = r := ⟨_, rfl⟩
  have HR : Hid (Below X.heap.size X X) := Below.refl _ _
  have C1 := hide (coins_is ka kn kc K a b n c m d N T s x A X ((unhide HE).later (unhide HR)) ((unhide HK).later (unhide HR)) ((unhide HN).later (unhide HR)) ((unhide HT).later (unhide HR)) (unhide HSN) (unhide HST) hco)
  have HCO := hide hco
  have HCO2 := hide hco2
  have y0 := ((unhide HR).block _ (lt_of_block (unhide HX0))).trans (unhide HX0)
  have y00 := cell_of y0 0 _ rfl
  have y0l := lt_of_block y0
  clear y0
  have y1 := ((unhide HR).block _ (lt_of_block (unhide HX1))).trans (unhide HX1)
  have y10 := cell_of y1 0 _ rfl
  have y11 := cell_of y1 1 _ rfl
  have y1l := lt_of_block y1
  clear y1
  clear hE hK hN hT sN sT hbX hX0 hX1 hco hco2
  go_enter Tryz.func3, Tryz.ntmps3
  go_wp2_with fail
  rw [← hX]
  clear hX
  (try go_wp2_with fail)
  refine (unhide C1).mono ?_
  rintro e w1 ⟨oa, oon, oc, rfl, hA, sA, hb1⟩
  have HA := hide hA
  have HSA := hide sA
  have HB1 := hide hb1
  have C2 := hide (coins_is ka kn kc K a b n c m d N T t y B w1 ((unhide HE).later (unhide HB1)) ((unhide HK).later (unhide HB1)) ((unhide HN).later (unhide HB1)) ((unhide HT).later (unhide HB1)) (unhide HSN) (unhide HST) (unhide HCO2))
  clear hA sA hb1 C1 y00 y0l y10 y11 y1l
  have y0 := ((unhide HB1).block _ (lt_of_block (unhide HX0))).trans (unhide HX0)
  have y00 := cell_of y0 0 _ rfl
  have y0l := lt_of_block y0
  clear y0
  have y1 := ((unhide HB1).block _ (lt_of_block (unhide HX1))).trans (unhide HX1)
  have y10 := cell_of y1 0 _ rfl
  have y11 := cell_of y1 1 _ rfl
  have y1l := lt_of_block y1
  clear y1
  go_wp2_with fail
  refine (unhide C2).mono ?_
  rintro e w2 ⟨ua, un, uc, rfl, hB, sB, hb2⟩
  have HB := hide hB
  have HSB := hide sB
  have HB2 := hide (bel_on (unhide HB1) hb2)
  have H12 := hide hb2
  have C3 := hide (chained_yes w2 ((unhide HE).later (unhide HB2)))
  clear hB sB hb2 C2 y00 y0l y10 y11 y1l
  go_wp2_with fail
  refine (unhide C3).mono ?_
  rintro e w3 ⟨rfl, hb3⟩
  have HB3 := hide (bel_on (unhide HB2) hb3)
  have H13 := hide (bel_on (unhide H12) hb3)
  have H23 := hide hb3
  clear hb3 C3
  by_cases hxy : x = 0 ∧ y = 0
  · obtain ⟨rfl, rfl⟩ := hxy
    have hm1 := moves (unhide HCO) (unhide HCO2)
    have hm2 := moves (unhide HCO2) (unhide HCO)
    have f1 := right_few (coins_right (unhide HCO)) (unhide HA)
    have f2 := right_few (coins_right (unhide HCO2)) (unhide HB)
    have C4 := hide (move_is ka kn kc K a b n c m d N T oa oon oc A s t 0 B w3 ((unhide HE).later (unhide HB3)) ((unhide HK).later (unhide HB3)) ((unhide HN).later (unhide HB3)) ((unhide HT).later (unhide HB3)) (unhide HSN) (unhide HST) ((unhide HA).later (unhide H13)) (unhide HSA) f1.1 f1.2 hm1)
    have C5 := hide (fun W (hw : Below X.heap.size X W) (h2 : Below w2.heap.size w2 W) => move_is ka kn kc K a b n c m d N T ua un uc B t s 0 A W ((unhide HE).later hw) ((unhide HK).later hw) ((unhide HN).later hw) ((unhide HT).later hw) (unhide HSN) (unhide HST) ((unhide HB).later h2) (unhide HSB) f2.1 f2.2 hm2)
    clear hm1 hm2 f1 f2 HCO HCO2
    have y0 := ((unhide HB3).block _ (lt_of_block (unhide HX0))).trans (unhide HX0)
    have y00 := cell_of y0 0 _ rfl
    have y0l := lt_of_block y0
    clear y0
    have y1 := ((unhide HB3).block _ (lt_of_block (unhide HX1))).trans (unhide HX1)
    have y10 := cell_of y1 0 _ rfl
    have y11 := cell_of y1 1 _ rfl
    have y1l := lt_of_block y1
    clear y1
    go_wp2_with fail
    refine (unhide C4).mono ?_
    rintro e w4 ⟨va, vn, vc, rfl, hV, sV, hb4⟩
    have HV := hide hV
    have HSV := hide sV
    have HB4 := hide (bel_on (unhide HB3) hb4)
    have H14 := hide (bel_on (unhide H13) hb4)
    have H24 := hide (bel_on (unhide H23) hb4)
    have D5 := hide ((unhide C5) w4 (unhide HB4) (unhide H24))
    clear hV sV hb4 C4 C5 y00 y0l y10 y11 y1l
    have y0 := ((unhide HB4).block _ (lt_of_block (unhide HX0))).trans (unhide HX0)
    have y00 := cell_of y0 0 _ rfl
    have y0l := lt_of_block y0
    clear y0
    have y1 := ((unhide HB4).block _ (lt_of_block (unhide HX1))).trans (unhide HX1)
    have y10 := cell_of y1 0 _ rfl
    have y11 := cell_of y1 1 _ rfl
    have y1l := lt_of_block y1
    clear y1
    go_wp2_with fail
    refine (unhide D5).mono ?_
    rintro e w5 ⟨za, zn, zc, rfl, hZ, sZ, hb5⟩
    have HZ := hide hZ
    have HSZ := hide sZ
    have HB5 := hide (bel_on (unhide HB4) hb5)
    have H15 := hide (bel_on (unhide H14) hb5)
    have H25 := hide (bel_on (unhide H24) hb5)
    have C6 := hide (uSame_is va ua vn un vc uc B B true w5 (unhide HSV).len ((unhide HV).later hb5) ((unhide HB).later (unhide H25)) (sameL_yes rfl))
    clear hZ sZ hb5 D5 y00 y0l y10 y11 y1l
    go_wp2_with fail
    refine (unhide C6).mono ?_
    rintro e w6 ⟨rfl, hb6⟩
    have HB6 := hide (bel_on (unhide HB5) hb6)
    have C7 := hide (uSame_is za oa zn oon zc oc A A true w6 (unhide HSZ).len ((unhide HZ).later hb6) ((unhide HA).later (bel_on (unhide H15) hb6)) (sameL_yes rfl))
    clear hb6 C6
    go_wp2_with fail
    refine (unhide C7).mono ?_
    rintro e w7 ⟨rfl, hb7⟩
    have HW := hide (bel_on (unhide HBX) (bel_on (unhide HB6) hb7))
    clear hb7 C7
    go_wp2
    go_ret
    exact ⟨rfl, unhide HW⟩
  · have C4 := hide (chained_yes w3 ((unhide HE).later (unhide HB3)))
    by_cases hx0 : x = 0
    · have hy0 : ¬ y = 0 := fun q => hxy ⟨hx0, q⟩
      subst hx0
      have gy : (y != 0) = true := by simp [hy0]
      clear hxy
      go_wp2_with fail
      refine (unhide C4).mono ?_
      rintro e w4 ⟨rfl, hb4⟩
      have HW := hide (bel_on (unhide HBX) (bel_on (unhide HB3) hb4))
      clear hb4 C4
      go_wp2
      go_ret
      exact ⟨rfl, unhide HW⟩
    · have gx : (x != 0) = true := by simp [hx0]
      clear hxy
      go_wp2_with fail
      refine (unhide C4).mono ?_
      rintro e w4 ⟨rfl, hb4⟩
      have HW := hide (bel_on (unhide HBX) (bel_on (unhide HB3) hb4))
      clear hb4 C4
      go_wp2
      go_ret
      exact ⟨rfl, unhide HW⟩

end Go.Proofs.YtmomfkikogbdeaaGreatDoor

/- What the rows of the laws of coins have in common: coins and transactions among the arguments. -/
namespace Go.Proofs.YtmomfkikogbdeaaGreatDoor
open Go.ChangeShapes Go.WideShapes Go.ChangeAt Go.RowKit

theorem own : ownKnob Tryz.prog.godebug = none := by kernel_rfl
theorem laidOut : laidOutB Tryz.prog = true := by kernel_rfl
theorem Tryz.cellsOp : Tryz.prog.cellsOf 164 = 2 := by kernel_rfl
theorem Tryz.cells3 : Tryz.prog.cellsOf 3 = 1 := by kernel_rfl

/-- What a slice of orders that came in is to the walks. -/
theorem ops_open {H : Type} {enc : TypeId × Value → H} {W : World} {sp : Nat → Bool} {held : Bool} {fuel : Nat} {a : Option Addr} {len cap : Nat} {x : DataW H × List MemPlace}
    (h : DataW.trod enc Tryz.prog W 0 sp held fuel 48 [.slice a len cap] = some x) : (∃ l, OpsAt W a len l) ∧ (a = none → len = 0 ∧ cap = 0) := by
  rcases Deep.open_slice_pairs Tryz.underlying48 Tryz.underlying164 Tryz.cellsOp rfl rfl Tryz.cells3 Tryz.cells3 h with ⟨hcs, _⟩ | ⟨b, l, c, m, n, V0, V1, D0, D1, P0, P1, hcs, _, hl, _, hm, _, hel⟩
  · simp at hcs
    obtain ⟨rfl, rfl, rfl⟩ := hcs
    exact ⟨⟨[], rfl, fun h => absurd h (by omega)⟩, fun _ => ⟨rfl, rfl⟩⟩
  · simp at hcs
    obtain ⟨rfl, rfl, rfl⟩ := hcs
    refine ⟨?_, fun h => by cases h⟩
    have hlm : len ≤ m := by rw [hm]; split <;> omega
    have each : ∀ i, i < len → ∃ q : Int × Int, W.cell? (b.add (i * 2)) = some (.int .i64 q.1) ∧ W.cell? (b.add (i * 2 + 1)) = some (.int .i64 q.2) := fun i hi => by
      obtain ⟨h1, h2, t1, t2⟩ := hel i (by omega)
      obtain ⟨z1, e1, _, _⟩ := DataW.trod_int Tryz.underlying3 t1
      obtain ⟨z2, e2, _, _⟩ := DataW.trod_int Tryz.underlying3 t2
      simp only [List.cons.injEq, and_true] at e1 e2
      exact ⟨(z1, z2), by rw [h1, e1], by rw [h2, e2]⟩
    obtain ⟨f, hf⟩ := Deep.choose_lt each
    refine ⟨(List.range len).map f, by simp, fun hpos => ?_⟩
    obtain ⟨bb, off, spot⟩ := b
    have hspot : spot = none := by simpa [Addr.add] using World.cell?_spot (hf 0 hpos).1
    subst hspot
    refine ⟨bb, off, rfl, fun i hi => ?_⟩
    have hadd : ∀ j, (⟨bb, off, none⟩ : Addr).add j = ⟨bb, off + j, none⟩ := fun j => by unfold Addr.add; split <;> simp_all
    have h1 := hf i hi
    rw [hadd, hadd] at h1
    rw [← Nat.add_assoc] at h1
    simpa [hi] using h1

theorem Tryz.cellsTx : Tryz.prog.cellsOf 59 = 3 := by kernel_rfl
theorem Tryz.cellsIn : Tryz.prog.cellsOf 119 = 3 := by kernel_rfl
theorem Tryz.cellsOut : Tryz.prog.cellsOf 122 = 2 := by kernel_rfl
theorem Tryz.cellsPoint : Tryz.prog.cellsOf 117 = 2 := by kernel_rfl
theorem Tryz.cellsOps : Tryz.prog.cellsOf 48 = 1 := by kernel_rfl
theorem Tryz.cellsIns : Tryz.prog.cellsOf 56 = 1 := by kernel_rfl
theorem Tryz.cellsOuts : Tryz.prog.cellsOf 57 = 1 := by kernel_rfl

theorem list_two {cs : List Value} (h : cs.length = 2) : ∃ a b, cs = [a, b] := by
  match cs, h with
  | [a, b], _ => exact ⟨a, b, rfl⟩
theorem list_three {cs : List Value} (h : cs.length = 3) : ∃ a b c, cs = [a, b, c] := by
  match cs, h with
  | [a, b, c], _ => exact ⟨a, b, c, rfl⟩

section
variable {H : Type} {enc : TypeId × Value → H} {W : World} {sp : Nat → Bool} {held : Bool} {fuel : Nat}

theorem ops_full {v : Value} {x : DataW H × List MemPlace} (h : DataW.trod enc Tryz.prog W 0 sp held fuel 48 [v] = some x) : ∃ a n c l, v = .slice a n c ∧ OpsAt W a n l ∧ SlOk a n c := by
  have h' := h
  rcases Deep.open_slice Tryz.underlying48 h with ⟨hcs, _⟩ | ⟨b, l, c, m, n, D, Pl, hcs, _, hl, hm, _⟩
  · simp at hcs
    subst hcs
    exact ⟨none, 0, 0, [], rfl, ⟨rfl, fun h => absurd h (by omega)⟩, Nat.le_refl _, Nat.zero_le _, fun _ => ⟨rfl, rfl⟩⟩
  · simp at hcs
    subst hcs
    obtain ⟨⟨L, hO⟩, _⟩ := ops_open h'
    exact ⟨some b, l, c, L, rfl, hO, hl, hm, fun h => by cases h⟩

theorem in_full {cs : List Value} {x : DataW H × List MemPlace} (h : DataW.trod enc Tryz.prog W 0 sp held fuel 119 cs = some x) : ∃ x1 x2 a n c l, cs = [.int .i64 x1, .int .i64 x2, .slice a n c] ∧ OpsAt W a n l ∧ SlOk a n c := by
  obtain ⟨y0, y1, k, _, hl, h0, h1⟩ := trod_struct2 Tryz.underlying119 h
  rw [Tryz.cellsIn] at hl
  obtain ⟨c0, c1, c2, rfl⟩ := list_three hl
  simp [Tryz.cellsPoint, Tryz.cellsOps] at h0 h1
  obtain ⟨z0, z1, k2, _, _, g0, g1⟩ := trod_struct2 Tryz.underlying117 h0
  simp [Tryz.cells3] at g0 g1
  obtain ⟨x1, e1, _, _⟩ := DataW.trod_int Tryz.underlying3 g0
  obtain ⟨x2, e2, _, _⟩ := DataW.trod_int Tryz.underlying3 g1
  obtain ⟨a, n, c, l, rfl, hO, hS⟩ := ops_full h1
  simp only [List.cons.injEq, and_true] at e1 e2
  subst e1 e2
  exact ⟨x1, x2, a, n, c, l, rfl, hO, hS⟩
theorem out_full {cs : List Value} {x : DataW H × List MemPlace} (h : DataW.trod enc Tryz.prog W 0 sp held fuel 122 cs = some x) : ∃ x1 a n c l, cs = [.int .i64 x1, .slice a n c] ∧ OpsAt W a n l ∧ SlOk a n c := by
  obtain ⟨y0, y1, k, _, hl, h0, h1⟩ := trod_struct2 Tryz.underlying122 h
  rw [Tryz.cellsOut] at hl
  obtain ⟨c0, c1, rfl⟩ := list_two hl
  simp [Tryz.cells3, Tryz.cellsOps] at h0 h1
  obtain ⟨x1, e1, _, _⟩ := DataW.trod_int Tryz.underlying3 h0
  obtain ⟨a, n, c, l, rfl, hO, hS⟩ := ops_full h1
  simp only [List.cons.injEq, and_true] at e1
  subst e1
  exact ⟨x1, a, n, c, l, rfl, hO, hS⟩

end

end Go.Proofs.YtmomfkikogbdeaaGreatDoor

/- What the rows of the laws of books have in common: books and slices of texts among the arguments. -/
namespace Go.Proofs.YtmomfkikogbdeaaGreatDoor.Bk
open Go.ChangeShapes Go.WideShapes Go.ChangeAt Go.RowKit

theorem own : ownKnob Tryz.prog.godebug = none := by kernel_rfl
theorem laidOut : laidOutB Tryz.prog = true := by kernel_rfl
theorem Tryz.cells9 : Tryz.prog.cellsOf 9 = 1 := by kernel_rfl
theorem Tryz.cellsStrs : Tryz.prog.cellsOf 22 = 1 := by kernel_rfl
theorem Tryz.cellsBook : Tryz.prog.cellsOf 24 = 1 := by kernel_rfl
section
variable {H : Type} {enc : TypeId × Value → H} {W : World} {sp : Nat → Bool} {held : Bool} {fuel : Nat}

theorem strs_full {v : Value} {x : DataW H × List MemPlace} (h : DataW.trod enc Tryz.prog W 0 sp held fuel 22 [v] = some x) :
    ∃ a n c L, v = .slice a n c ∧ TextsAt W a n L ∧ SlOk a n c ∧ (n = 0 ∨ ∃ elems spare, x.1 = .slice elems spare ∧ elems.length = n) := by
  rcases Deep.open_strs Tryz.underlying22 Tryz.underlying9 Tryz.cells9 h with ⟨hcs, _⟩ | ⟨b, l, c, m, Sx, hcs, _, hl, hm, hmm, hx, hel⟩
  · simp at hcs
    subst hcs
    exact ⟨none, 0, 0, [], rfl, TextsAt.nil _ _, SlOk.nil, Or.inl rfl⟩
  · simp at hcs
    subst hcs
    have hlm : l ≤ m := by rw [hmm]; split <;> omega
    refine ⟨some b, l, c, (List.range l).map Sx, rfl, ⟨by simp, fun hpos => ?_⟩, ⟨hl, hm, fun h => by cases h⟩, Or.inr ⟨_, _, by rw [hx], by simp⟩⟩
    obtain ⟨bb, off, spot⟩ := b
    have z0 := (hel 0 (by omega)).1
    have hspot : spot = none := by simpa [Addr.add] using World.cell?_spot z0
    subst hspot
    have hadd : ∀ j, (⟨bb, off, none⟩ : Addr).add j = ⟨bb, off + j, none⟩ := fun j => by unfold Addr.add; split <;> simp_all
    refine ⟨bb, off, rfl, fun i hi => ?_⟩
    have hi' : i < l := by simpa using hi
    have q := (hel i (by omega)).1
    rw [hadd] at q
    rw [List.getElem_map, List.getElem_range]
    exact q

theorem book_full {cs : List Value} {x : DataW H × List MemPlace} (h : DataW.trod enc Tryz.prog W 0 sp held fuel 24 cs = some x) : ∃ a n c L, cs = [.slice a n c] ∧ TextsAt W a n L ∧ SlOk a n c := by
  obtain ⟨y0, k, _, hl, h0⟩ := trod_struct1 Tryz.underlying24 h
  rw [Tryz.cellsBook] at hl
  obtain ⟨c0, rfl⟩ := List.length_eq_one_iff.1 hl
  simp [Tryz.cellsStrs] at h0
  obtain ⟨a, n, c, L, rfl, hT, hS, _⟩ := strs_full h0
  exact ⟨a, n, c, L, rfl, hT, hS⟩
end

end Go.Proofs.YtmomfkikogbdeaaGreatDoor.Bk

/- What the rows of the laws of blocks have in common: blocks among the arguments; listed variables, and the sizes of what came in. -/
namespace Go.Proofs.YtmomfkikogbdeaaGreatDoor
open Go.ChangeShapes Go.WideShapes Go.ChangeAt Go.RowKit

theorem Tryz.cellsBlk : Tryz.prog.cellsOf 39 = 5 := by kernel_rfl
theorem Tryz.cellsTxs : Tryz.prog.cellsOf 37 = 1 := by kernel_rfl
theorem list_five {cs : List Value} (h : cs.length = 5) : ∃ a b c d e, cs = [a, b, c, d, e] := by
  match cs, h with
  | [a, b, c, d, e], _ => exact ⟨a, b, c, d, e, rfl⟩

section
variable {H : Type} {enc : TypeId × Value → H} {W : World} {sp : Nat → Bool} {held : Bool} {fuel : Nat}
theorem trod_struct5 {t : TypeId} {f0 f1 f2 f3 f4 : Field} {cs : List Value} {x : DataW H × List MemPlace} (ht : Tryz.prog.underlying t = some (.struct #[f0, f1, f2, f3, f4])) (h : DataW.trod enc Tryz.prog W 0 sp held fuel t cs = some x) :
    ∃ y0 y1 y2 y3 y4 n, cs.length = Tryz.prog.cellsOf t ∧ DataW.trod enc Tryz.prog W 0 sp held n f0.type ((cs.drop f0.offset).take (Tryz.prog.cellsOf f0.type)) = some y0 ∧
      DataW.trod enc Tryz.prog W 0 sp held n f1.type ((cs.drop f1.offset).take (Tryz.prog.cellsOf f1.type)) = some y1 ∧ DataW.trod enc Tryz.prog W 0 sp held n f2.type ((cs.drop f2.offset).take (Tryz.prog.cellsOf f2.type)) = some y2 ∧
      DataW.trod enc Tryz.prog W 0 sp held n f3.type ((cs.drop f3.offset).take (Tryz.prog.cellsOf f3.type)) = some y3 ∧ DataW.trod enc Tryz.prog W 0 sp held n f4.type ((cs.drop f4.offset).take (Tryz.prog.cellsOf f4.type)) = some y4 := by
  obtain ⟨xs, n, _, rfl, hl, hlen, hf⟩ := DataW.trod_struct ht h
  match xs, hlen with
  | [y0, y1, y2, y3, y4], _ => exact ⟨y0, y1, y2, y3, y4, n, hl, by simpa using hf 0 f0 rfl, by simpa using hf 1 f1 rfl, by simpa using hf 2 f2 rfl, by simpa using hf 3 f3 rfl, by simpa using hf 4 f4 rfl⟩
end

set_option maxRecDepth 100000 in
/-- A call under a condition on its memory, where what came in has Go's sizes. -/
theorem handed_sized {H : Type} {enc : TypeId × Value → H} {os : Os} {f : FuncId} {fn : Func} {s : ChangeSpec} {X : World → Prop} (hX : ∀ w w' : World, w.heap = w'.heap → X w → X w')
    (started : os.Started) (noInit : Tryz.checked.prog.inits.idxOf? f = none) (hfn : Tryz.checked.prog.funcs[f]? = some fn)
    (witness : ∃ (w : World) (tape : Tape) (i : Input), w.os = os ∧ (w.forCall tape i).Shaped Tryz.checked.prog ∧ i.vars = [] ∧ Input.okWide Tryz.checked.prog (w.forCall tape i) .any w.heap.size f i ∧
      ((s.pre enc Tryz.checked.prog fn [] false (w.forCall tape i).memory i.args ∧ X (w.forCall tape i).memory) ∧ sizedMet enc Tryz.checked.prog fn (OpenSpec.ofChange s) false (w.forCall tape i).memory i.args) ∧ ({} : Assume).holds Tryz.checked.prog (lone (Frame.enter Tryz.checked.prog f i.args .normal) [] (w.forCall tape i)))
    (contract : ∀ (W : World) (base : Nat) (args : Array Value) (ds gs : List (DataW H)) (before : List MemPlace),
      (∀ (j : Nat) t v, fn.params[j]? = some t → args[j]? = some v → Value.okWide Tryz.checked.prog W .any base t v) →
      DataW.Whole enc Tryz.checked.prog fn.params.toList s.vars false W args.toList ds gs before → X W → (DataW.weightsEach Tryz.checked.prog (fn.params.toList ++ s.plain.varTypes Tryz.checked.prog) (ds ++ gs)).all (· ≤ reachBytes) = true →
      Calls Tryz.checked.prog f args W fun e W' => ∃ v, e = .returned v ∧ s.post enc Tryz.checked.prog fn false true false false W args v W') :
    ReturnsInHanded {} Tryz.checked os f .any (fun w args => (s.pre enc Tryz.checked.prog fn [] false w args ∧ X w) ∧ sizedMet enc Tryz.checked.prog fn (OpenSpec.ofChange s) false w args) (s.post enc Tryz.checked.prog fn false true false false) := by
  refine returnsInHanded_of_calls own started noInit witness ?_
  intro w tape i _ _ _ hok hpre _
  obtain ⟨_, _, _, fn', hfn', _, _, _, _, hval⟩ := hok
  obtain rfl : fn' = fn := Option.some.inj (hfn'.symm.trans hfn)
  obtain ⟨⟨⟨ds, gs, before, hw, _⟩, hx⟩, hz⟩ := hpre
  refine (contract (w.forCall tape i) w.heap.size i.args ds gs before hval (DataW.Whole.of_heap (w' := w.forCall tape i) (by rfl) hw) (hX _ _ (by rfl) hx) (hz.weights hw)).mono fun e W' ⟨v, he, hp⟩ => ?_
  subst he
  exact ChangeSpec.post_blind hp

end Go.Proofs.YtmomfkikogbdeaaGreatDoor

/- What the rows of the laws of trees have in common: trees and blocks among the arguments. -/
namespace Go.Proofs.YtmomfkikogbdeaaGreatDoor.Tr
open Go.ChangeShapes Go.WideShapes Go.ChangeAt Go.RowKit

theorem own : ownKnob Tryz.prog.godebug = none := by kernel_rfl
theorem laidOut : laidOutB Tryz.prog = true := by kernel_rfl
theorem Tryz.cellsOp : Tryz.prog.cellsOf 164 = 2 := by kernel_rfl
theorem Tryz.cells3 : Tryz.prog.cellsOf 3 = 1 := by kernel_rfl

/-- What a slice of orders that came in is to the walks. -/
theorem ops_open {H : Type} {enc : TypeId × Value → H} {W : World} {sp : Nat → Bool} {held : Bool} {fuel : Nat} {a : Option Addr} {len cap : Nat} {x : DataW H × List MemPlace}
    (h : DataW.trod enc Tryz.prog W 0 sp held fuel 48 [.slice a len cap] = some x) : (∃ l, OpsAt W a len l) ∧ (a = none → len = 0 ∧ cap = 0) := by
  rcases Deep.open_slice_pairs Tryz.underlying48 Tryz.underlying164 Tryz.cellsOp rfl rfl Tryz.cells3 Tryz.cells3 h with ⟨hcs, _⟩ | ⟨b, l, c, m, n, V0, V1, D0, D1, P0, P1, hcs, _, hl, _, hm, _, hel⟩
  · simp at hcs
    obtain ⟨rfl, rfl, rfl⟩ := hcs
    exact ⟨⟨[], rfl, fun h => absurd h (by omega)⟩, fun _ => ⟨rfl, rfl⟩⟩
  · simp at hcs
    obtain ⟨rfl, rfl, rfl⟩ := hcs
    refine ⟨?_, fun h => by cases h⟩
    have hlm : len ≤ m := by rw [hm]; split <;> omega
    have each : ∀ i, i < len → ∃ q : Int × Int, W.cell? (b.add (i * 2)) = some (.int .i64 q.1) ∧ W.cell? (b.add (i * 2 + 1)) = some (.int .i64 q.2) := fun i hi => by
      obtain ⟨h1, h2, t1, t2⟩ := hel i (by omega)
      obtain ⟨z1, e1, _, _⟩ := DataW.trod_int Tryz.underlying3 t1
      obtain ⟨z2, e2, _, _⟩ := DataW.trod_int Tryz.underlying3 t2
      simp only [List.cons.injEq, and_true] at e1 e2
      exact ⟨(z1, z2), by rw [h1, e1], by rw [h2, e2]⟩
    obtain ⟨f, hf⟩ := Deep.choose_lt each
    refine ⟨(List.range len).map f, by simp, fun hpos => ?_⟩
    obtain ⟨bb, off, spot⟩ := b
    have hspot : spot = none := by simpa [Addr.add] using World.cell?_spot (hf 0 hpos).1
    subst hspot
    refine ⟨bb, off, rfl, fun i hi => ?_⟩
    have hadd : ∀ j, (⟨bb, off, none⟩ : Addr).add j = ⟨bb, off + j, none⟩ := fun j => by unfold Addr.add; split <;> simp_all
    have h1 := hf i hi
    rw [hadd, hadd] at h1
    rw [← Nat.add_assoc] at h1
    simpa [hi] using h1

theorem Tryz.cellsTx : Tryz.prog.cellsOf 59 = 3 := by kernel_rfl
theorem Tryz.cellsIn : Tryz.prog.cellsOf 119 = 3 := by kernel_rfl
theorem Tryz.cellsOut : Tryz.prog.cellsOf 122 = 2 := by kernel_rfl
theorem Tryz.cellsPoint : Tryz.prog.cellsOf 117 = 2 := by kernel_rfl
theorem Tryz.cellsOps : Tryz.prog.cellsOf 48 = 1 := by kernel_rfl
theorem Tryz.cellsIns : Tryz.prog.cellsOf 56 = 1 := by kernel_rfl
theorem Tryz.cellsOuts : Tryz.prog.cellsOf 57 = 1 := by kernel_rfl

theorem list_two {cs : List Value} (h : cs.length = 2) : ∃ a b, cs = [a, b] := by
  match cs, h with
  | [a, b], _ => exact ⟨a, b, rfl⟩
theorem list_three {cs : List Value} (h : cs.length = 3) : ∃ a b c, cs = [a, b, c] := by
  match cs, h with
  | [a, b, c], _ => exact ⟨a, b, c, rfl⟩

theorem Tryz.cellsBlk : Tryz.prog.cellsOf 39 = 5 := by kernel_rfl
theorem Tryz.cellsTree : Tryz.prog.cellsOf 28 = 2 := by kernel_rfl
theorem Tryz.cellsTxs : Tryz.prog.cellsOf 37 = 1 := by kernel_rfl
theorem Tryz.cellsBlks : Tryz.prog.cellsOf 26 = 1 := by kernel_rfl
theorem Tryz.cellsInts : Tryz.prog.cellsOf 25 = 1 := by kernel_rfl
theorem list_five {cs : List Value} (h : cs.length = 5) : ∃ a b c d e, cs = [a, b, c, d, e] := by
  match cs, h with
  | [a, b, c, d, e], _ => exact ⟨a, b, c, d, e, rfl⟩

section
variable {H : Type} {enc : TypeId × Value → H} {W : World} {sp : Nat → Bool} {held : Bool} {fuel : Nat}

theorem ops_full {v : Value} {x : DataW H × List MemPlace} (h : DataW.trod enc Tryz.prog W 0 sp held fuel 48 [v] = some x) : ∃ a n c l, v = .slice a n c ∧ OpsAt W a n l ∧ SlOk a n c := by
  have h' := h
  rcases Deep.open_slice Tryz.underlying48 h with ⟨hcs, _⟩ | ⟨b, l, c, m, n, D, Pl, hcs, _, hl, hm, _⟩
  · simp at hcs
    subst hcs
    exact ⟨none, 0, 0, [], rfl, ⟨rfl, fun h => absurd h (by omega)⟩, Nat.le_refl _, Nat.zero_le _, fun _ => ⟨rfl, rfl⟩⟩
  · simp at hcs
    subst hcs
    obtain ⟨⟨L, hO⟩, _⟩ := ops_open h'
    exact ⟨some b, l, c, L, rfl, hO, hl, hm, fun h => by cases h⟩

theorem in_full {cs : List Value} {x : DataW H × List MemPlace} (h : DataW.trod enc Tryz.prog W 0 sp held fuel 119 cs = some x) : ∃ x1 x2 a n c l, cs = [.int .i64 x1, .int .i64 x2, .slice a n c] ∧ OpsAt W a n l ∧ SlOk a n c := by
  obtain ⟨y0, y1, k, _, hl, h0, h1⟩ := trod_struct2 Tryz.underlying119 h
  rw [Tryz.cellsIn] at hl
  obtain ⟨c0, c1, c2, rfl⟩ := list_three hl
  simp [Tryz.cellsPoint, Tryz.cellsOps] at h0 h1
  obtain ⟨z0, z1, k2, _, _, g0, g1⟩ := trod_struct2 Tryz.underlying117 h0
  simp [Tryz.cells3] at g0 g1
  obtain ⟨x1, e1, _, _⟩ := DataW.trod_int Tryz.underlying3 g0
  obtain ⟨x2, e2, _, _⟩ := DataW.trod_int Tryz.underlying3 g1
  obtain ⟨a, n, c, l, rfl, hO, hS⟩ := ops_full h1
  simp only [List.cons.injEq, and_true] at e1 e2
  subst e1 e2
  exact ⟨x1, x2, a, n, c, l, rfl, hO, hS⟩
theorem out_full {cs : List Value} {x : DataW H × List MemPlace} (h : DataW.trod enc Tryz.prog W 0 sp held fuel 122 cs = some x) : ∃ x1 a n c l, cs = [.int .i64 x1, .slice a n c] ∧ OpsAt W a n l ∧ SlOk a n c := by
  obtain ⟨y0, y1, k, _, hl, h0, h1⟩ := trod_struct2 Tryz.underlying122 h
  rw [Tryz.cellsOut] at hl
  obtain ⟨c0, c1, rfl⟩ := list_two hl
  simp [Tryz.cells3, Tryz.cellsOps] at h0 h1
  obtain ⟨x1, e1, _, _⟩ := DataW.trod_int Tryz.underlying3 h0
  obtain ⟨a, n, c, l, rfl, hO, hS⟩ := ops_full h1
  simp only [List.cons.injEq, and_true] at e1
  subst e1
  exact ⟨x1, a, n, c, l, rfl, hO, hS⟩


/-- A slice of records that came in. -/
theorem recs_full {α : Type} [Inhabited α] (Z : Rec α) {ts t : TypeId} (hu : Tryz.prog.underlying ts = some (.slice t)) (hc : Tryz.prog.cellsOf t = Z.sz) (hpos : 0 < Z.sz)
    (hel : ∀ (fuel : Nat) (cs : List Value) (x : DataW H × List MemPlace), DataW.trod enc Tryz.prog W 0 sp held fuel t cs = some x → ∃ y, Z.C W cs y)
    {v : Value} {x : DataW H × List MemPlace} (h : DataW.trod enc Tryz.prog W 0 sp held fuel ts [v] = some x) : ∃ a n c l, v = .slice a n c ∧ RowsAt Z.R Z.sz W a n l ∧ SlOk a n c := by
  rcases Deep.open_slice hu h with ⟨hcs, _⟩ | ⟨b, l, c, m, n, D, Pl, hcs, _, hl, hm, hmm, _, hee⟩
  · simp at hcs
    subst hcs
    exact ⟨none, 0, 0, [], rfl, RowsAt.nil _ _, Nat.le_refl _, Nat.zero_le _, fun _ => ⟨rfl, rfl⟩⟩
  · simp at hcs
    subst hcs
    have hlm : l ≤ m := by rw [hmm]; split <;> omega
    have each : ∀ i, i < l → ∃ q : α, ∃ cs, (∀ j, j < Z.sz → W.cell? (b.add (i * Z.sz + j)) = cs[j]?) ∧ Z.C W cs q := fun i hi => by
      obtain ⟨cs', h1, h2⟩ := hee i (by omega)
      rw [hc] at h1
      obtain ⟨_, _, hcell⟩ := World.cells?_some h1
      obtain ⟨y, hy⟩ := hel _ _ _ h2
      exact ⟨y, cs', fun j hj => by rw [← hcell j hj, Deep.add_add], hy⟩
    obtain ⟨f, hf⟩ := Deep.choose_lt each
    refine ⟨some b, l, c, (List.range l).map f, rfl, ⟨by simp, fun hpos2 => ?_⟩, hl, hm, fun h => by cases h⟩
    obtain ⟨bb, off, spot⟩ := b
    have hadd : ∀ j, (⟨bb, off, none⟩ : Addr).add j = ⟨bb, off + j, none⟩ := fun j => by unfold Addr.add; split <;> simp_all
    obtain ⟨cs0, hc0, hC0⟩ := hf 0 hpos2
    have hw0 := Z.wide _ _ _ hC0
    have z0 := hc0 0 hpos
    have e0 : cs0[0]? = some (cs0[0]'(by omega)) := by simp [hw0, hpos]
    rw [e0] at z0
    have hspot : spot = none := by simpa [Addr.add] using World.cell?_spot z0
    subst hspot
    refine ⟨bb, off, rfl, by rw [hadd] at z0; exact World.block_lt_of_cell? _ _ z0, fun i hi => ?_⟩
    have hi' : i < l := by simpa using hi
    obtain ⟨cs, hcs, hC⟩ := hf i hi'
    rw [List.getElem_map, List.getElem_range]
    refine Z.cr _ _ _ cs _ (fun j u hj => ?_) hC
    have hjl : j < Z.sz := by rw [← Z.wide _ _ _ hC]; exact (List.getElem?_eq_some_iff.1 hj).1
    have := hcs j hjl
    rw [hadd, ← Nat.add_assoc, hj] at this
    exact this

theorem tx_full {cs : List Value} {x : DataW H × List MemPlace} (h : DataW.trod enc Tryz.prog W 0 sp held fuel 59 cs = some x) : ∃ y, txR.C W cs y := by
  obtain ⟨y0, y1, y2, k, _, hl, h0, h1, h2⟩ := Deep.trod_struct3 Tryz.underlying59 h
  rw [Tryz.cellsTx] at hl
  obtain ⟨c0, c1, c2, rfl⟩ := list_three hl
  simp [Tryz.cells3, Tryz.cellsIns, Tryz.cellsOuts] at h0 h1 h2
  obtain ⟨hh, e0, _, _⟩ := DataW.trod_int Tryz.underlying3 h0
  obtain ⟨ai, ni, ci, I, rfl, hI, sI⟩ := recs_full inR Tryz.underlying56 Tryz.cellsIn (by decide) (fun _ _ _ q => by
    obtain ⟨x1, x2, a, n, c, l, rfl, hO, hS⟩ := in_full q
    exact ⟨(x1, x2, l), a, n, c, rfl, hO, hS⟩) h1
  obtain ⟨ao, no, co, O, rfl, hO, sO⟩ := recs_full outR Tryz.underlying57 Tryz.cellsOut (by decide) (fun _ _ _ q => by
    obtain ⟨x1, a, n, c, l, rfl, hO, hS⟩ := out_full q
    exact ⟨(x1, l), a, n, c, rfl, hO, hS⟩) h2
  simp only [List.cons.injEq, and_true] at e0
  subst e0
  exact ⟨(hh, I, O), ai, ni, ci, ao, no, co, rfl, hI, sI, hO, sO⟩
theorem trod_struct5 {t : TypeId} {f0 f1 f2 f3 f4 : Field} {cs : List Value} {x : DataW H × List MemPlace} (ht : Tryz.prog.underlying t = some (.struct #[f0, f1, f2, f3, f4])) (h : DataW.trod enc Tryz.prog W 0 sp held fuel t cs = some x) :
    ∃ y0 y1 y2 y3 y4 n, cs.length = Tryz.prog.cellsOf t ∧ DataW.trod enc Tryz.prog W 0 sp held n f0.type ((cs.drop f0.offset).take (Tryz.prog.cellsOf f0.type)) = some y0 ∧
      DataW.trod enc Tryz.prog W 0 sp held n f1.type ((cs.drop f1.offset).take (Tryz.prog.cellsOf f1.type)) = some y1 ∧ DataW.trod enc Tryz.prog W 0 sp held n f2.type ((cs.drop f2.offset).take (Tryz.prog.cellsOf f2.type)) = some y2 ∧
      DataW.trod enc Tryz.prog W 0 sp held n f3.type ((cs.drop f3.offset).take (Tryz.prog.cellsOf f3.type)) = some y3 ∧ DataW.trod enc Tryz.prog W 0 sp held n f4.type ((cs.drop f4.offset).take (Tryz.prog.cellsOf f4.type)) = some y4 := by
  obtain ⟨xs, n, _, rfl, hl, hlen, hf⟩ := DataW.trod_struct ht h
  match xs, hlen with
  | [y0, y1, y2, y3, y4], _ => exact ⟨y0, y1, y2, y3, y4, n, hl, by simpa using hf 0 f0 rfl, by simpa using hf 1 f1 rfl, by simpa using hf 2 f2 rfl, by simpa using hf 3 f3 rfl, by simpa using hf 4 f4 rfl⟩
theorem blk_full {cs : List Value} {x : DataW H × List MemPlace} (h : DataW.trod enc Tryz.prog W 0 sp held fuel 39 cs = some x) : ∃ y, blkR.C W cs y := by
  obtain ⟨y0, y1, y2, y3, y4, k, hl, h0, h1, h2, h3, h4⟩ := trod_struct5 Tryz.underlying39 h
  rw [Tryz.cellsBlk] at hl
  obtain ⟨c0, c1, c2, c3, c4, rfl⟩ := list_five hl
  simp [Tryz.cells3, Tryz.cellsTxs] at h0 h1 h2 h3 h4
  obtain ⟨x0, e0, _, _⟩ := DataW.trod_int Tryz.underlying3 h0
  obtain ⟨x1, e1, _, _⟩ := DataW.trod_int Tryz.underlying3 h1
  obtain ⟨x2, e2, _, _⟩ := DataW.trod_int Tryz.underlying3 h2
  obtain ⟨x3, e3, _, _⟩ := DataW.trod_int Tryz.underlying3 h3
  obtain ⟨a, n, c, T, rfl, hT, sT⟩ := recs_full txR Tryz.underlying37 Tryz.cellsTx (by decide) (fun _ _ _ q => tx_full q) h4
  simp only [List.cons.injEq, and_true] at e0 e1 e2 e3
  subst e0 e1 e2 e3
  exact ⟨(x0, x1, x2, x3, T), a, n, c, rfl, hT, sT⟩
theorem ints_full {v : Value} {x : DataW H × List MemPlace} (h : DataW.trod enc Tryz.prog W 0 sp held fuel 25 [v] = some x) : ∃ a n c l, v = .slice a n c ∧ IntsAt W a n l ∧ SlOk a n c := by
  rcases open_ints Tryz.underlying25 Tryz.underlying3 (by kernel_rfl) h with ⟨hcs, _⟩ | ⟨b, l, c, zs, hcs, _, hl, hm, hz, _, hcell, _⟩
  · simp at hcs
    subst hcs
    exact ⟨none, 0, 0, [], rfl, IntsAt.nil _ _, Nat.le_refl _, Nat.zero_le _, fun _ => ⟨rfl, rfl⟩⟩
  · simp at hcs
    subst hcs
    have hlz : l ≤ zs.length := by rw [hz]; split <;> omega
    refine ⟨some b, l, c, zs.take l, rfl, ⟨by rw [List.length_take]; omega, fun hpos => ?_⟩, hl, hm, fun h => by cases h⟩
    obtain ⟨bb, off, spot⟩ := b
    have z0 := hcell 0 (by omega)
    have hspot : spot = none := by simpa [Addr.add] using World.cell?_spot z0
    subst hspot
    have hadd : ∀ j, (⟨bb, off, none⟩ : Addr).add j = ⟨bb, off + j, none⟩ := fun j => by unfold Addr.add; split <;> simp_all
    refine ⟨bb, off, rfl, by rw [hadd] at z0; exact World.block_lt_of_cell? _ _ z0, fun i hi => ?_⟩
    rw [List.length_take] at hi
    have := hcell i (by omega)
    rw [hadd] at this
    rw [this, List.getElem_take]
    simp [List.getD, (by omega : i < zs.length)]
/-- A tree that came in. -/
theorem tree_full {cs : List Value} {x : DataW H × List MemPlace} (h : DataW.trod enc Tryz.prog W 0 sp held fuel 28 cs = some x) : ∃ a n c b m d N T, cs = [.slice a n c, .slice b m d] ∧ IntsAt W a n N ∧ SlOk a n c ∧ BlksAt W b m T ∧ SlOk b m d := by
  obtain ⟨y0, y1, k, _, hl, h0, h1⟩ := trod_struct2 Tryz.underlying28 h
  rw [Tryz.cellsTree] at hl
  obtain ⟨c0, c1, rfl⟩ := list_two hl
  simp [Tryz.cellsInts, Tryz.cellsBlks] at h0 h1
  obtain ⟨a, n, c, N, rfl, hN, sN⟩ := ints_full h0
  obtain ⟨b, m, d, T, rfl, hT, sT⟩ := recs_full blkR Tryz.underlying26 Tryz.cellsBlk (by decide) (fun _ _ _ q => blk_full q) h1
  exact ⟨a, n, c, b, m, d, N, T, rfl, hN, sN, hT, sT⟩
end

end Go.Proofs.YtmomfkikogbdeaaGreatDoor.Tr
