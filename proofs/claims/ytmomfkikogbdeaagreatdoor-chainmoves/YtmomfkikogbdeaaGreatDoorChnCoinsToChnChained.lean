/- The contracts of Coins and Depth (written by a program of ours: mkchcoins.py). -/
import Derived.Test.YtmomfkikogbdeaaGreatDoorChnUnToBookChk
import Derived.Test.YtmomfkikogbdeaaGreatDoorTrIdxToTrCl
import Derived.Test.YtmomfkikogbdeaaGreatDoorTrBlockToTrPathsM
namespace Go.Proofs.YtmomfkikogbdeaaGreatDoor
open Go.RowKit

/-- Coins, or what is wrong. -/
def CnR (w w' : World) (x : Int) (C : List CoinD) (e : Ending) : Prop := ∃ oa oon oc, e = .returned (.tuple #[.slice oa oon oc, .int .i64 x]) ∧ CoinsAt w' oa oon C ∧ SlOk oa oon oc ∧ Below w.heap.size w w'
theorem cn_err {w w' : World} {x y : Int} {C : List CoinD} (h : ((y : Int), ([] : List CoinD)) = (x, C)) (hb : Below w.heap.size w w') : CnR w w' x C (.returned (.tuple #[.slice none 0 0, .int .i64 y])) := by
  injection h with h1 h2
  subst h1 h2
  exact ⟨none, 0, 0, rfl, ⟨rfl, fun h => absurd h (by omega)⟩, slok_nil, hb⟩
theorem path_short {N : List Int} {T : List BlkD} {s : Int} {P : List Int} {x : Int} (h : Tr.pathE N T s = (P, x)) : P.length ≤ 24 := by
  by_cases hx : x = 0
  · subst hx
    obtain ⟨h1, h2, h3⟩ := Tr.pathE_ok (s := s) (N := N) (T := T) (by rw [h])
    have := pth_24 h1 h2
    rw [← h3, h] at this
    exact this
  · unfold Tr.pathE at h
    split at h
    · injection h with h _; subst h; simp
    split at h
    · injection h with h _; subst h; simp
    injection h with _ h
    exact absurd h.symm hx

set_option maxRecDepth 10000 in
set_option maxHeartbeats 3200000 in
theorem coins_is (ka : Option Addr) (kn kc : Nat) (K : List ByteArray) (a b : Option Addr) (n c m d : Nat) (N : List Int) (T : List BlkD) (s : Int) (x : Int) (C' : List CoinD) (w : World) (hE : Env w) (hK : Bk.TextsAt w ka kn K) (hN : Tr.IntsAt w a n N) (hT : Tr.BlksAt w b m T) (sN : SlOk a n c) (sT : SlOk b m d) (hx : coinsE K N T s = (x, C')) :
    Calls Tryz.prog 16 #[.agg #[.slice ka kn kc], .agg #[.slice a n c, .slice b m d], .int .i64 s] w fun e w' => CnR w w' x C' e := by
  obtain ⟨X, hX⟩ : ∃ X, X = (w.alloc (.cells #[.slice ka kn kc] 24)).alloc (.cells #[.slice a n c, .slice b m d] 28) := ⟨_, rfl⟩
  have hbX : Below w.heap.size w X := by rw [hX]; exact bel_on (bel_new _ _) (bel_new _ _)
  have hX0 : X.heap[w.heap.size]? = some (.cells [.slice ka kn kc].toArray 24 (0, 0)) := by rw [hX, Below.heap_alloc _ _ _ (by simp)]; exact one_heap _ _ _
  have hX1 : X.heap[w.heap.size + 1]? = some (.cells [.slice a n c, .slice b m d].toArray 28 (0, 0)) := by
    rw [hX]
    have := heap_alloc_new (w.alloc (.cells #[.slice ka kn kc] 24)) (.cells #[.slice a n c, .slice b m d] 28)
    rw [show (w.alloc (.cells #[.slice ka kn kc] 24)).heap.size = w.heap.size + 1 by simp] at this
    exact this
  obtain ⟨z, hz⟩ : ∃ z, Bk.bkChk K = z := ⟨_, rfl⟩
  obtain ⟨⟨P, y⟩, hp⟩ : ∃ r, Tr.pathE N T s = r := ⟨_, rfl⟩
  obtain ⟨⟨x4, C4, U4⟩, hcl⟩ : ∃ r, clGo K N T (rowD P) [] [] = r := ⟨_, rfl⟩
  unfold coinsE at hx
  rw [hz, hp] at hx
  simp only at hx
  rw [hcl] at hx
  have hP := path_short hp
  have C1 := hide (Bk.check_is ka kn kc K X (hK.later hbX) z hz)
  have C2 := hide (fun W (hw : Below X.heap.size X W) => rowOf_is a b n c m d N T s P y W ((hN.later hbX).later hw) ((hT.later hbX).later hw) sN sT hp hP)
  have C3 := hide (fun W (hw : Below X.heap.size X W) => climb_is ka kn kc K a b n c m d N T none 0 0 [] (rowD P) x4 C4 U4 W ((hE.later hbX).later hw) ((hK.later hbX).later hw) ((hN.later hbX).later hw) ((hT.later hbX).later hw) sN sT ⟨rfl, fun h => absurd h (by omega)⟩ slok_nil (rowD_len hP) hcl)
  have x00 := cell_of hX0 0 _ rfl
  have xl := lt_of_block hX1
  have xk := lt_of_block hX0
  have HBX := hide hbX
  have HX0 := hide hX0
  have HX1 := hide hX1
  have HX := hide hx
  have HP := hide hP
  clear hE hK hN hT sN sT hbX hX0 hX1 hx hp hcl hz
  go_enter Tryz.func16, Tryz.ntmps16
  go_wp2_with fail
  rw [← hX]
  clear hX
  (try go_wp2_with fail)
  refine (unhide C1).mono ?_
  rintro e w1 ⟨rfl, hb1⟩
  by_cases hz0 : z = 0
  · subst hz0
    have h11 := (hb1.block _ (lt_of_block (unhide HX1))).trans (unhide HX1)
    have q10 := cell_of h11 0 _ rfl
    have q11 := cell_of h11 1 _ rfl
    have q1l := lt_of_block h11
    have D2 := hide ((unhide C2) w1 hb1)
    have HB1 := hide hb1
    clear hb1 h11 C1 C2 x00
    go_wp2_with fail
    refine (unhide D2).mono ?_
    rintro e w2 ⟨rfl, hb2⟩
    obtain ⟨Y, hY⟩ : ∃ Y, Y = w2.alloc (.cells (rowV (rowD P)).toArray 129) := ⟨_, rfl⟩
    have hbY : Below w2.heap.size w2 Y := by rw [hY]; exact bel_new _ _
    have hYr : Y.heap[w2.heap.size]? = some (.cells (rowV (rowD P)).toArray 129 (0, 0)) := by rw [hY]; exact heap_alloc_new _ _
    have hXY := bel_on (unhide HB1) (bel_on hb2 hbY)
    have h0 := (hXY.block _ (lt_of_block (unhide HX0))).trans (unhide HX0)
    have h1 := (hXY.block _ (lt_of_block (unhide HX1))).trans (unhide HX1)
    have hRI := row_info (rowD_len (unhide HP))
    have hR1 := rowV_one (rowD P)
    have hzs : ((rowV (List.replicate 24 0)).toArray : Array Value).size = (rowV (rowD P)).toArray.size := by simp [rowV, rowD_len (unhide HP)]
    have HYZ : Hid ((w2.alloc (.cells #[.int .i64 0, .int .i64 0, .int .i64 0, .int .i64 0, .int .i64 0, .int .i64 0, .int .i64 0, .int .i64 0, .int .i64 0, .int .i64 0, .int .i64 0, .int .i64 0, .int .i64 0, .int .i64 0, .int .i64 0, .int .i64 0, .int .i64 0, .int .i64 0, .int .i64 0, .int .i64 0, .int .i64 0, .int .i64 0, .int .i64 0, .int .i64 0] 129)).heap[w2.heap.size]? = some (.cells (rowV (List.replicate 24 0)).toArray 129 (0, 0))) := by rw [zero24]; exact heap_alloc_new _ _
    have EY : Hid ((w2.alloc (.cells #[.int .i64 0, .int .i64 0, .int .i64 0, .int .i64 0, .int .i64 0, .int .i64 0, .int .i64 0, .int .i64 0, .int .i64 0, .int .i64 0, .int .i64 0, .int .i64 0, .int .i64 0, .int .i64 0, .int .i64 0, .int .i64 0, .int .i64 0, .int .i64 0, .int .i64 0, .int .i64 0, .int .i64 0, .int .i64 0, .int .i64 0, .int .i64 0] 129)).setRow w2.heap.size (rowV (rowD P)).toArray = Y) := by show _ = _; rw [hY]; exact World.setRow_alloc_new _ _ _ _
    have D3 := hide ((unhide C3) Y hXY)
    have HXY := hide hXY
    have H0 := hide h0
    have H1 := hide h1
    have HYR := hide hYr
    clear hb2 hbY hYr hXY h0 h1 D2 C3 q10 q11 q1l hY
    obtain ⟨RR, hRR⟩ : ∃ RR, (rowV (rowD P)).toArray = RR := ⟨_, rfl⟩
    rw [hRR] at hRI hR1 hzs EY HYR D3
    rw [hRR]
    clear hRR
    have r0 := cell_of (unhide H0) 0 _ rfl
    have r1 := cell_of (unhide H1) 0 _ rfl
    have r2 := cell_of (unhide H1) 1 _ rfl
    have rl := lt_of_block (unhide H1)
    by_cases hy : y = 0
    · subst hy
      have HR5 : Hid ((x4, C4) = (x, C')) := by have := unhide HX; rw [if_neg (fun q => q rfl), if_neg (fun q => q rfl)] at this; exact this
      clear HX
      go_wp2_with (first | (refine wpList_store_row rfl 129 _ _ rfl _ rfl _ _ rfl _ (unhide HYZ) hRI hzs hR1 ?_; rw [unhide EY]) | (refine wpList_load_row rfl 129 _ rfl _ rfl _ _ (unhide HYR) _ _ Tryz.underlying129 hRI ?_))
      refine (unhide D3).mono ?_
      rintro e w3 ⟨oa, oon, oc, cs, rfl, hC, sC, hUn, hb3⟩
      obtain ⟨r1, r2⟩ := Prod.mk.inj (unhide HR5)
      subst r1 r2
      have hci := un_info hUn.1
      have hc1 := hUn.one
      have HC := hide hC
      have HSC := hide sC
      have HW := hide (bel_on (unhide HBX) (bel_on (unhide HXY) hb3))
      have hus : ((List.replicate 24 (Value.slice none 0 0)).toArray : Array Value).size = cs.toArray.size := by simp [hUn.1]
      have HZ3 : Hid ((w3.alloc (.cells #[.slice none 0 0, .slice none 0 0, .slice none 0 0, .slice none 0 0, .slice none 0 0, .slice none 0 0, .slice none 0 0, .slice none 0 0, .slice none 0 0, .slice none 0 0, .slice none 0 0, .slice none 0 0, .slice none 0 0, .slice none 0 0, .slice none 0 0, .slice none 0 0, .slice none 0 0, .slice none 0 0, .slice none 0 0, .slice none 0 0, .slice none 0 0, .slice none 0 0, .slice none 0 0, .slice none 0 0] 133)).heap[w3.heap.size]? = some (.cells (List.replicate 24 (Value.slice none 0 0)).toArray 133 (0, 0))) := by rw [zeroU24]; exact heap_alloc_new _ _
      have E3 : Hid ((w3.alloc (.cells #[.slice none 0 0, .slice none 0 0, .slice none 0 0, .slice none 0 0, .slice none 0 0, .slice none 0 0, .slice none 0 0, .slice none 0 0, .slice none 0 0, .slice none 0 0, .slice none 0 0, .slice none 0 0, .slice none 0 0, .slice none 0 0, .slice none 0 0, .slice none 0 0, .slice none 0 0, .slice none 0 0, .slice none 0 0, .slice none 0 0, .slice none 0 0, .slice none 0 0, .slice none 0 0, .slice none 0 0] 133)).setRow w3.heap.size cs.toArray = w3.alloc (.cells cs.toArray 133)) := World.setRow_alloc_new _ _ _ _
      clear hC sC hUn hb3 D3 r0 rl
      obtain ⟨CC, hCC⟩ : ∃ CC, cs.toArray = CC := ⟨_, rfl⟩
      rw [hCC] at hci hc1 hus E3
      rw [hCC]
      clear hCC
      go_wp2_with (refine wpList_store_row rfl 133 _ _ rfl _ rfl _ _ rfl _ (unhide HZ3) hci hus hc1 ?_; rw [unhide E3])
      go_ret2
      exact ⟨oa, oon, oc, rfl, (unhide HC).later (bel_new _ _), unhide HSC, bel_on (unhide HW) (bel_new _ _)⟩
    · have HR5 : Hid ((y, ([] : List CoinD)) = (x, C')) := by have := unhide HX; rw [if_neg (fun q => q rfl), if_pos hy] at this; exact this
      have gy : (y != 0) = true := by simp [hy]
      clear HX D3
      go_wp2_with (refine wpList_store_row rfl 129 _ _ rfl _ rfl _ _ rfl _ (unhide HYZ) hRI hzs hR1 ?_; rw [unhide EY])
      go_ret2
      exact cn_err (unhide HR5) (bel_on (unhide HBX) (unhide HXY))
  · have HR5 : Hid ((z, ([] : List CoinD)) = (x, C')) := by have := unhide HX; rw [if_pos hz0] at this; exact this
    have gz : (z != 0) = true := by simp [hz0]
    have HW := hide (bel_on (unhide HBX) hb1)
    clear HX C1 C2 C3 hb1 x00
    go_wp2
    go_ret2
    exact cn_err (unhide HR5) (unhide HW)

end Go.Proofs.YtmomfkikogbdeaaGreatDoor

/- The contract of Depth (written by a program of ours: mkdepth.py). -/
namespace Go.Proofs.YtmomfkikogbdeaaGreatDoor
open Go.RowKit

set_option maxRecDepth 10000 in
set_option maxHeartbeats 3200000 in
theorem depth_call (a b : Option Addr) (n c m d : Nat) (N : List Int) (T : List BlkD) (s t : Int) (z x : Int) (w : World) (hN : Tr.IntsAt w a n N) (hT : Tr.BlksAt w b m T) (sN : SlOk a n c) (sT : SlOk b m d) (hx : depthE N T s t = (z, x)) :
    Calls Tryz.prog 22 #[.agg #[.slice a n c, .slice b m d], .int .i64 s, .int .i64 t] w fun e w' => e = .returned (.tuple #[.int .i64 z, .int .i64 x]) ∧ Below w.heap.size w w' := by
  obtain ⟨X, hX⟩ : ∃ X, X = w.alloc (.cells #[.slice a n c, .slice b m d] 28) := ⟨_, rfl⟩
  have hbX : Below w.heap.size w X := by rw [hX]; exact bel_new _ _
  have hX0 : X.heap[w.heap.size]? = some (.cells [.slice a n c, .slice b m d].toArray 28 (0, 0)) := by rw [hX]; exact Tr.two_heap _ _ _ _
  obtain ⟨⟨P, y⟩, hp⟩ : ∃ r, Tr.pathE N T t = r := ⟨_, rfl⟩
  obtain ⟨i, hi⟩ : ∃ i, Tr.idxI s P 0 = i := ⟨_, rfl⟩
  obtain ⟨pn, hpn⟩ : ∃ pn, P.length = pn := ⟨_, rfl⟩
  unfold depthE at hx
  rw [hp] at hx
  simp only at hx
  rw [hi, hpn] at hx
  have hP : pn ≤ 24 := by rw [← hpn]; exact path_short hp
  have hib : i = -1 ∨ (0 ≤ i ∧ i < pn) := by
    rcases idx_at P s 0 with h | ⟨j, h1, h2⟩
    · left; rw [← hi, h]
    · right; have := (List.getElem?_eq_some_iff.1 h2).1; rw [← hi, h1]; omega
  have C1 := hide (Tr.path_is a b n c m d N T t P pn y X (hN.later hbX) (hT.later hbX) sN sT hp hpn)
  have HI := hide hi
  have x0 := cell_of hX0 0 _ rfl
  have x1 := cell_of hX0 1 _ rfl
  have xl := lt_of_block hX0
  have HBX := hide hbX
  have HX := hide hx
  clear hN hT sN sT hbX hX0 hx hp hpn hi
  go_enter Tryz.func22, Tryz.ntmps22
  go_wp2_with fail
  rw [← hX]
  clear hX
  (try go_wp2_with fail)
  refine (unhide C1).mono ?_
  rintro e w1 ⟨v, rfl, ho, hb1⟩
  obtain ⟨pa, pc, rfl, sP, hPI⟩ := Tr.ints_of_own ho
  have C2 := hide (Tr.indexInt_is pa pn pc P s i w1 (by unfold maxLen; omega) hPI (unhide HI))
  have HW1 := hide (bel_on (unhide HBX) hb1)
  clear ho hPI hb1 C1 x0 x1 HI
  by_cases hy : y = 0
  · subst hy
    have hx := unhide HX
    rw [if_neg (fun q => q rfl)] at hx
    have HX2 := hide hx
    clear hx HX
    go_wp2_with fail
    refine (unhide C2).mono ?_
    rintro e w2 ⟨rfl, rfl⟩
    have HW2 := HW1
    clear C2
    by_cases hi0 : i < 0
    · have hx := unhide HX2
      rw [if_pos hi0] at hx
      injection hx with h1 h2
      subst h1 h2
      clear HX2
      go_wp2
      go_ret2
      exact ⟨rfl, unhide HW2⟩
    · have hx := unhide HX2
      rw [if_neg hi0] at hx
      injection hx with h1 h2
      subst h1 h2
      clear HX2
      have h0 : 0 ≤ i ∧ i < pn := by omega
      clear hib
      go_wp2
      go_ret2
      exact ⟨by first | rfl | (congr 1), unhide HW2⟩
  · have hx := unhide HX
    rw [if_pos hy] at hx
    injection hx with h1 h2
    subst h1 h2
    have gy : (y != 0) = true := by simp [hy]
    clear HX C2
    go_wp2
    go_ret2
    exact ⟨rfl, unhide HW1⟩

end Go.Proofs.YtmomfkikogbdeaaGreatDoor

/- The closed fact chained answers true (written by a program of ours: mkchained.py). -/
namespace Go.Proofs.YtmomfkikogbdeaaGreatDoor
open Go.RowKit
open Tr (simB GrS)

def chK1 : List ByteArray := (nmsB [] (simB 0 1 1 5)).1
def chK2 : List ByteArray := (nmsB chK1 (simB 2 2 1 7)).1
def chC : List CoinD := (coinsE chK2 [2, 4] [simB 0 1 1 5, simB 2 2 1 7] 4).2
theorem ch1 : nmsB [] (simB 0 1 1 5) = (chK1, 2, [1], 0) := by kernel_rfl
theorem ch2 : nmsB chK1 (simB 2 2 1 7) = (chK2, 4, [3], 0) := by kernel_rfl
theorem ch3 : Tr.addE [] [] 2 (simB 0 1 1 5) = ([2], [simB 0 1 1 5], 0) := by kernel_rfl
theorem ch4 : Tr.addE [2] [simB 0 1 1 5] 4 (simB 2 2 1 7) = ([2, 4], [simB 0 1 1 5, simB 2 2 1 7], 0) := by kernel_rfl
theorem ch5 : coinsE chK2 [2, 4] [simB 0 1 1 5, simB 2 2 1 7] 4 = (0, chC) := by kernel_rfl
theorem ch6 : chC.length = 2 := by kernel_rfl
theorem ch7 : depthE [2, 4] [simB 0 1 1 5, simB 2 2 1 7] 2 4 = (1, 0) := by kernel_rfl

/-- Texts stay where a box of slices is written. -/
theorem texts_sl {W W' : World} {t : Nat} {cs : List Value} {ty : TypeId} (hv : ∀ v ∈ cs, ∃ a n c, v = .slice a n c) (ht : W.heap[t]? = some (.cells cs.toArray ty (0, 0))) (hg : Gr W W' (fun q => q = t)) {a : Option Addr} {n : Nat} {K : List ByteArray} (h : Bk.TextsAt W a n K) : Bk.TextsAt W' a n K := by
  refine ⟨h.1, fun h0 => ?_⟩
  obtain ⟨b, off, rfl, hc⟩ := h.2 h0
  refine ⟨b, off, rfl, fun i hi => hg.cell (hc i hi) ?_⟩
  intro q
  have q : b = t := q
  subst q
  have := hc i hi
  simp only [World.cell?, ht] at this
  have e : cs[off + i]? = some (.string K[i]) := by simpa using this
  obtain ⟨a', n', c', e'⟩ := hv _ (List.mem_of_getElem? e)
  cases e'
/-- A book in a box of the call's own. -/
def BkS (w : World) (t : Nat) (K : List ByteArray) (W : World) : Prop :=
  ∃ a n c, W.heap[t]? = some (.cells [.slice a n c].toArray 24 (0, 0)) ∧ Bk.TextsAt W a n K ∧ Below w.heap.size w W ∧ w.heap.size ≤ t
theorem bkS_store {w W w2 : World} {t : Nat} {K K' : List ByteArray} (h : BkS w t K W) (hb2 : Below W.heap.size W w2) {a : Option Addr} {n c : Nat} (hK : Bk.TextsAt w2 a n K') : BkS w t K' (w2.setCell ⟨t, 0, none⟩ (.slice a n c)) := by
  obtain ⟨a0, n0, c0, h1, h2, h3, h4⟩ := h
  have h5 := (hb2.block _ (lt_of_block h1)).trans h1
  have hg := (Gr.refl w2 (fun q => q = t)).one t 0 (.inl rfl) (.slice a n c)
  refine ⟨a, n, c, Tr.set_cells h5 0 _, texts_sl (fun v hv => by simp at hv; exact ⟨_, _, _, hv⟩) h5 hg hK, hg.below (bel_on h3 hb2) (by have := h3.size; have := hb2.size; omega) (fun q e => by omega), h4⟩
theorem BkS.later {w W W' : World} {t : Nat} {K : List ByteArray} (h : BkS w t K W) (hb : Below W.heap.size W W') : BkS w t K W' := by
  obtain ⟨a0, n0, c0, h1, h2, h3, h4⟩ := h
  exact ⟨a0, n0, c0, (hb.block _ (lt_of_block h1)).trans h1, h2.later hb, bel_on h3 hb, h4⟩
theorem BkS.gr {w W W' : World} {t u : Nat} {K : List ByteArray} {cs : List Value} {ty : TypeId} (h : BkS w t K W) (hv : ∀ v ∈ cs, ∃ a n c, v = .slice a n c) (hu : W.heap[u]? = some (.cells cs.toArray ty (0, 0))) (hne : t ≠ u) (hw : w.heap.size ≤ u) (hg : Gr W W' (fun q => q = u)) : BkS w t K W' := by
  obtain ⟨a0, n0, c0, h1, h2, h3, h4⟩ := h
  exact ⟨a0, n0, c0, hg.heap h1 hne, texts_sl hv hu hg h2, hg.below h3 h3.size (fun q e => by omega), h4⟩

set_option maxRecDepth 10000 in
set_option maxHeartbeats 12800000 in
theorem chained_yes (w : World) (hE : Env w) : Calls Tryz.prog 17 #[] w fun e w' => e = .returned (.bool true) ∧ Below w.heap.size w w' := by
  have snil : SlOk none 0 0 := slok_nil
  have HE := hide hE
  have S1 := hide (Tr.simple_is 0 1 1 5 w)
  have S2 := hide (fun W => Tr.simple_is 2 2 1 7 W)
  have S3 := hide (fun W => Tr.simple_is 0 1 1 5 W)
  have N1 := hide (fun W (hw : Below w.heap.size w W) a c (h : TxsAt W a 1 [(1, [], [(5, [])])]) => names_any none 0 0 [] 0 1 1 0 a 1 c [(1, [], [(5, [])])] chK1 2 [1] 0 W (hE.later hw) ⟨rfl, fun h => absurd h (by omega)⟩ h ch1)
  have N2 := hide (fun W (hw : Below w.heap.size w W) ka kn kc a c (hk : Bk.TextsAt W ka kn chK1) (h : TxsAt W a 1 [(2, [], [(7, [])])]) => names_any ka kn kc chK1 2 2 1 0 a 1 c [(2, [], [(7, [])])] chK2 4 [3] 0 W (hE.later hw) hk h ch2)
  have A1 := hide (fun W a c (h : TxsAt W a 1 [(1, [], [(5, [])])]) (hs : SlOk a 1 c) => Tr.add_is none none 0 0 0 0 [] [] 2 0 1 1 0 a 1 c [(1, [], [(5, [])])] [2] [simB 0 1 1 5] 1 0 W (Tr.IntsAt.nil _ _) (RowsAt.nil _ _) snil snil h hs ch3 rfl)
  have A2 := hide (fun W a1 c1 a2 c2 a c (h1 : Tr.IntsAt W a1 1 [2]) (h2 : Tr.BlksAt W a2 1 [simB 0 1 1 5]) (s1 : SlOk a1 1 c1) (s2 : SlOk a2 1 c2) (h : TxsAt W a 1 [(2, [], [(7, [])])]) (hs : SlOk a 1 c) => Tr.add_is a1 a2 1 c1 1 c2 [2] [simB 0 1 1 5] 4 2 2 1 0 a 1 c [(2, [], [(7, [])])] [2, 4] [simB 0 1 1 5, simB 2 2 1 7] 2 0 W h1 h2 s1 s2 h hs ch4 rfl)
  have B1 := hide (fun W (hw : Below w.heap.size w W) ka kn kc a1 c1 a2 c2 (hk : Bk.TextsAt W ka kn chK2) (h1 : Tr.IntsAt W a1 2 [2, 4]) (h2 : Tr.BlksAt W a2 2 [simB 0 1 1 5, simB 2 2 1 7]) (s1 : SlOk a1 2 c1) (s2 : SlOk a2 2 c2) => coins_is ka kn kc chK2 a1 a2 2 c1 2 c2 _ _ 4 0 chC W (hE.later hw) hk h1 h2 s1 s2 ch5)
  have B2 := hide (fun W a1 c1 a2 c2 (h1 : Tr.IntsAt W a1 2 [2, 4]) (h2 : Tr.BlksAt W a2 2 [simB 0 1 1 5, simB 2 2 1 7]) (s1 : SlOk a1 2 c1) (s2 : SlOk a2 2 c2) => depth_call a1 a2 2 c1 2 c2 _ _ 2 4 1 0 W h1 h2 s1 s2 ch7)
  clear snil hE
  go_enter Tryz.func17, Tryz.ntmps17
  go_wp2_with fail
  refine (unhide S1).mono ?_
  rintro e w1 ⟨a, c, rfl, hT1, hs1, hb1⟩
  have CA := hide ((unhide N1) w1 hb1 a c hT1)
  have HB1 := hide hb1
  clear hT1 hs1 hb1 S1 N1
  go_wp2_with fail
  refine (unhide CA).mono ?_
  rintro e w2 ⟨ka, kn, kc, na, nn, nc, rfl, hK2, sK2, hN2, hnc, hb2⟩
  have hbX := bel_new w2 (.cells #[.slice ka kn kc] 24)
  have SB : Hid (BkS w w2.heap.size chK1 (w2.alloc (.cells #[.slice ka kn kc] 24))) := ⟨ka, kn, kc, heap_alloc_new _ _, hK2.later hbX, bel_on (bel_on (unhide HB1) hb2) hbX, Nat.le_trans (unhide HB1).size hb2.size⟩
  obtain ⟨t, ht⟩ : ∃ t, t = w2.heap.size := ⟨_, rfl⟩
  obtain ⟨X, hX⟩ : ∃ X, X = w2.alloc (.cells #[.slice ka kn kc] 24) := ⟨_, rfl⟩
  rw [← hX, ← ht] at SB
  clear CA hK2 sK2 hN2 hnc hb2 hbX HB1
  go_upto_region 2 with fail
  rw [← hX, ← ht]
  clear hX ht
  go_cut [5, 6, 7] from 23 to 31 (fun s5 s6 s7 wx => s5 = .int .i64 4 ∧ (∃ qa qn qc, s6 = .slice qa qn qc) ∧ s7 = .int .i64 0 ∧ Hid (BkS w t chK2 wx))
  case first =>
    obtain ⟨ka, kn, kc, hx, hK, hbw, htw⟩ := unhide SB
    have x0 := cell_of hx 0 _ rfl
    have xl := lt_of_block hx
    have HX := hide hx
    have HK := hide hK
    have HBW := hide hbw
    clear hx hK hbw
    go_region_with (first
      | (go_at_call 62
         refine ((unhide S2) _).mono ?_
         rintro e w4 ⟨a4, c4, rfl, hT4, hs4, hb4⟩
         have hb4' := bel_on (bel_draw1 _) hb4
         have h4 := (hb4'.block _ (lt_of_block (unhide HX))).trans (unhide HX)
         have y0 := cell_of h4 0 _ rfl
         have yl := lt_of_block h4
         have CN := hide ((unhide N2) w4 (bel_on (unhide HBW) hb4') ka kn kc a4 c4 ((unhide HK).later hb4') hT4)
         have H4 := hide h4
         have HB4 := hide hb4'
         clear hT4 hs4 hb4 hb4' h4)
      | (go_at_call 27
         refine (unhide CN).mono ?_
         rintro e w5 ⟨ka5, kn5, kc5, na5, nn5, nc5, rfl, hK5, sK5, hN5, hnc5, hb5⟩
         have h5 := (hb5.block _ (lt_of_block (unhide H4))).trans (unhide H4)
         have z0 := cell_of h5 0 _ rfl
         have zf0 := frozen_of h5 0
         have zl := lt_of_block h5
         have HN := hide (bkS_store (c := kc5) (unhide SB) (bel_on (unhide HB4) hb5) hK5)
         clear hK5 sK5 hN5 hnc5 hb5 h5))
    all_goals
      go_wp2_with fail
      go_meet
      case rel => exact ⟨rfl, ⟨_, _, _, rfl⟩, rfl, HN⟩
  case rest =>
    obtain ⟨rfl, ⟨qa, qn, qc, rfl⟩, rfl, HS⟩ := hcut
    clear SB N2
    have hxl := (unhide HS)
    obtain ⟨ka3, kn3, kc3, hx3, _, hbw3, htw3⟩ := hxl
    have HBW3 := hide hbw3
    clear hx3 hbw3
    go_wp2_with fail
    refine ((unhide S3) _).mono ?_
    rintro e w4 ⟨a, c, rfl, hT4, hs4, hb4⟩
    have CA := hide ((unhide A1) w4 a c hT4 hs4)
    have HB4 := hide hb4
    clear hT4 hs4 hb4 S3 A1
    go_wp2_with fail
    refine (unhide CA).mono ?_
    rintro e w5 ⟨a1, c1, a2, c2, rfl, hF5, s1, s2, hb5⟩
    have hbX := bel_new w5 (.cells #[.slice a1 1 c1, .slice a2 1 c2] 28)
    have hw5 := bel_on (unhide HBW3) (bel_on (unhide HB4) hb5)
    have ST : Hid (GrS w w5.heap.size [2] [simB 0 1 1 5] 1 (w5.alloc (.cells #[.slice a1 1 c1, .slice a2 1 c2] 28))) :=
      ⟨a1, c1, a2, c2, Tr.two_heap _ _ _ _, hF5.now.1.later hbX, hF5.now.2.later hbX, s1, s2, bel_on hw5 hbX, hw5.size⟩
    have SK := hide ((unhide HS).later (bel_on (bel_on (unhide HB4) hb5) hbX))
    have hne : t ≠ w5.heap.size := by
      obtain ⟨_, _, _, q, _⟩ := (unhide HS).later (bel_on (unhide HB4) hb5)
      have := lt_of_block q
      omega
    obtain ⟨u, hu⟩ : ∃ u, u = w5.heap.size := ⟨_, rfl⟩
    obtain ⟨Y, hY⟩ : ∃ Y, Y = w5.alloc (.cells #[.slice a1 1 c1, .slice a2 1 c2] 28) := ⟨_, rfl⟩
    rw [← hY, ← hu] at ST
    rw [← hY] at SK
    rw [← hu] at hne
    clear CA hF5 s1 s2 hb5 hbX hw5 HB4 HBW3 HS
    go_upto_region 4 with fail
    rw [← hY, ← hu]
    clear hY hu
    go_cut [10] from 39 to 46 (fun s10 wx => s10 = .int .i64 0 ∧ Hid (GrS w u [2, 4] [simB 0 1 1 5, simB 2 2 1 7] 2 wx) ∧ Hid (BkS w t chK2 wx))
    case first =>
      obtain ⟨a1, c1, a2, c2, hx, hi, hbk, s1, s2, hbw, htw⟩ := unhide ST
      have x0 := cell_of hx 0 _ rfl
      have x1 := cell_of hx 1 _ rfl
      have xl := lt_of_block hx
      have HX := hide hx
      have HI := hide hi
      have HK := hide hbk
      have HS1 := hide s1
      have HS2 := hide s2
      have HBW := hide hbw
      clear hx hi hbk s1 s2 hbw ST
      go_region_with (first
        | (go_at_call 62
           refine ((unhide S2) _).mono ?_
           rintro e w6 ⟨a6, c6, rfl, hT6, hs6, hb6⟩
           have hb6' := bel_on (bel_draw1 _) hb6
           have h6 := (hb6'.block _ (lt_of_block (unhide HX))).trans (unhide HX)
           have y0 := cell_of h6 0 _ rfl
           have y1 := cell_of h6 1 _ rfl
           have yl := lt_of_block h6
           have CA := hide ((unhide A2) w6 _ _ _ _ a6 c6 ((unhide HI).later hb6') ((unhide HK).later hb6') (unhide HS1) (unhide HS2) hT6 hs6)
           have HB6 := hide (bel_on (unhide HBW) hb6')
           have SK6 := hide ((unhide SK).later hb6')
           have H6 := hide h6
           clear hT6 hs6 hb6 hb6' h6)
        | (go_at_call 63
           refine (unhide CA).mono ?_
           rintro e w7 ⟨b1, d1, b2, d2, rfl, hF7, t1, t2, hb7⟩
           have h7 := (hb7.block _ (lt_of_block (unhide H6))).trans (unhide H6)
           have z0 := cell_of h7 0 _ rfl
           have z1 := cell_of h7 1 _ rfl
           have zf0 := frozen_of h7 0
           have zf1 := frozen_of h7 1
           have zl := lt_of_block h7
           have HN := hide (Tr.grS_store (unhide HB6) htw yl h7 hF7 t1 t2 hb7)
           have HM := hide (BkS.gr ((unhide SK6).later hb7) (fun v hv => by simp at hv; rcases hv with rfl | rfl <;> exact ⟨_, _, _, rfl⟩) h7 hne htw (((Gr.refl w7 (fun q => q = u)).one u 0 (.inl rfl) (.slice b1 2 d1)).one u 1 (.inl rfl) (.slice b2 2 d2)))
           clear hF7 t1 t2 hb7 h7))
      all_goals
        go_wp2_with fail
        go_meet
        case rel => exact ⟨rfl, HN, HM⟩
    case rest =>
      obtain ⟨rfl, HG, HS⟩ := hcut
      clear ST SK S2 A2
      obtain ⟨a1, c1, a2, c2, hx, hi, hbk, s1, s2, hbw, htw⟩ := unhide HG
      obtain ⟨ka8, kn8, kc8, hk8, hK8, _, _⟩ := unhide HS
      have x0 := cell_of hx 0 _ rfl
      have x1 := cell_of hx 1 _ rfl
      have xl := lt_of_block hx
      have k0 := cell_of hk8 0 _ rfl
      have kl := lt_of_block hk8
      have CB := hide ((unhide B1) _ hbw ka8 kn8 kc8 a1 c1 a2 c2 hK8 hi hbk s1 s2)
      have HX := hide hx
      have HI := hide hi
      have HK := hide hbk
      have HS1 := hide s1
      have HS2 := hide s2
      have HBW := hide hbw
      clear hx hi hbk s1 s2 hbw HG B1 HS hk8 hK8
      go_wp2_with fail
      refine (unhide CB).mono ?_
      rintro e w8 ⟨oa, oon, oc, rfl, hC8, sC8, hb8⟩
      have h8 := (hb8.block _ (lt_of_block (unhide HX))).trans (unhide HX)
      have CP := hide ((unhide B2) w8 a1 c1 a2 c2 ((unhide HI).later hb8) ((unhide HK).later hb8) (unhide HS1) (unhide HS2))
      have y0 := cell_of h8 0 _ rfl
      have y1 := cell_of h8 1 _ rfl
      have yl := lt_of_block h8
      have HB8 := hide (bel_on (unhide HBW) hb8)
      obtain rfl : 2 = oon := by rw [← hC8.1]; exact ch6.symm
      clear hb8 h8 x0 x1 xl k0 kl CB B2 hC8 sC8
      go_wp2_with fail
      refine (unhide CP).mono ?_
      rintro e w9 ⟨rfl, hb9⟩
      have HB9 := hide (bel_on (unhide HB8) hb9)
      clear hb9 CP
      go_wp2
      go_ret
      exact ⟨rfl, unhide HB9⟩

end Go.Proofs.YtmomfkikogbdeaaGreatDoor
