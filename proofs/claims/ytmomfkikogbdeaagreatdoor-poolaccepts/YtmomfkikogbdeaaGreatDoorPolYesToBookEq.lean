/- The closed fact pooled answers true. -/
import Derived.Test.YtmomfkikogbdeaaGreatDoorPolMake
import Derived.Test.YtmomfkikogbdeaaGreatDoorTxPrintBToBookBase
import Derived.Test.YtmomfkikogbdeaaGreatDoorTxSameBToPolCont
import Derived.Test.YtmomfkikogbdeaaGreatDoorBookAllWToBlkReward
namespace Go.Proofs.YtmomfkikogbdeaaGreatDoor
open Go.RowKit

def plC : List CoinD := [(1, 0, 9, [], 1, false)]
def plT : TxD := (0, [(1, 0, [(1, 1)])], [(6, [])])
def plK : List ByteArray := (acE [] plC [] plT 4).2.1
def plB : BlkD := (5, 4, 1, 0, [(4, [], [(67, [])]), plT])
theorem pl1 : acE [] plC [] plT 4 = (0, plK, [plT]) := by kernel_rfl
theorem pl2 : acE plK plC [plT] plT 4 = (6, [], []) := by kernel_rfl
theorem pl3 : mkE plK plC [plT] 5 4 1 0 [] = (0, plB) := by kernel_rfl

set_option maxRecDepth 10000 in
set_option maxHeartbeats 6400000 in
theorem pooled_yes (w : World) (hE : Env w) : Calls Tryz.prog 24 #[] w fun e w' => e = .returned (.bool true) ∧ Below w.heap.size w w' := by
  obtain ⟨X, hX⟩ : ∃ X, X = allocs w [.cells #[.int .i64 1, .int .i64 0, .int .i64 9, .slice none 0 0, .int .i64 1, .bool false] 124, .cells #[.int .i64 1, .int .i64 1] 164, .cells #[.int .i64 1, .int .i64 0, .slice (some ⟨w.heap.size + 1, 0, none⟩) 1 1] 119, .cells #[.int .i64 6, .slice none 0 0] 122, .cells #[.int .i64 0, .slice (some ⟨w.heap.size + 1 + 1, 0, none⟩) 1 1, .slice (some ⟨w.heap.size + 1 + 1 + 1, 0, none⟩) 1 1] 59] := ⟨_, rfl⟩
  have hbX : Below w.heap.size w X := by rw [hX]; exact allocs_bel _ _
  have x0 : X.heap[w.heap.size]? = some (.cells [.int .i64 1, .int .i64 0, .int .i64 9, .slice none 0 0, .int .i64 1, .bool false].toArray 124 (0, 0)) := by rw [hX]; exact allocs_at _ w 0 _ rfl
  have x1 : X.heap[w.heap.size + 1]? = some (.cells [.int .i64 1, .int .i64 1].toArray 164 (0, 0)) := by rw [hX]; exact allocs_at _ w 1 _ rfl
  have x2 : X.heap[w.heap.size + 1 + 1]? = some (.cells [.int .i64 1, .int .i64 0, .slice (some ⟨w.heap.size + 1, 0, none⟩) 1 1].toArray 119 (0, 0)) := by rw [hX]; exact allocs_at _ w 2 _ rfl
  have x3 : X.heap[w.heap.size + 1 + 1 + 1]? = some (.cells [.int .i64 6, .slice none 0 0].toArray 122 (0, 0)) := by rw [hX]; exact allocs_at _ w 3 _ rfl
  have x4 : X.heap[w.heap.size + 1 + 1 + 1 + 1]? = some (.cells [.int .i64 0, .slice (some ⟨w.heap.size + 1 + 1, 0, none⟩) 1 1, .slice (some ⟨w.heap.size + 1 + 1 + 1, 0, none⟩) 1 1].toArray 59 (0, 0)) := by rw [hX]; exact allocs_at _ w 4 _ rfl
  have hX' : X = ((((w.alloc (.cells #[.int .i64 1, .int .i64 0, .int .i64 9, .slice none 0 0, .int .i64 1, .bool false] 124)).alloc (.cells #[.int .i64 1, .int .i64 1] 164)).alloc (.cells #[.int .i64 1, .int .i64 0, .slice (some ⟨w.heap.size + 1, 0, none⟩) 1 1] 119)).alloc (.cells #[.int .i64 6, .slice none 0 0] 122)).alloc (.cells #[.int .i64 0, .slice (some ⟨w.heap.size + 1 + 1, 0, none⟩) 1 1, .slice (some ⟨w.heap.size + 1 + 1 + 1, 0, none⟩) 1 1] 59) := hX
  have s1 : ∀ b : Nat, SlOk (some ⟨b, 0, none⟩) 1 1 := fun b => ⟨Nat.le_refl _, by decide, fun e => by cases e⟩
  have hC : CoinsAt X (some ⟨w.heap.size, 0, none⟩) 1 plC := ⟨rfl, fun _ => ⟨w.heap.size, 0, rfl, lt_of_block x0, fun i hi => by
    have ei : i = 0 := by simp [plC] at hi; omega
    subst ei
    exact ⟨cell_of x0 0 _ rfl, cell_of x0 1 _ rfl, cell_of x0 2 _ rfl, ⟨none, 0, 0, cell_of x0 3 _ rfl, ⟨rfl, fun h => absurd h (by omega)⟩, slok_nil⟩, cell_of x0 4 _ rfl, cell_of x0 5 _ rfl⟩⟩⟩
  have hO1 : OpsAt X (some ⟨w.heap.size + 1, 0, none⟩) 1 [(1, 1)] := ⟨rfl, fun _ => ⟨w.heap.size + 1, 0, rfl, fun i hi => by
    have ei : i = 0 := by simp at hi; omega
    subst ei
    exact ⟨cell_of x1 0 _ rfl, cell_of x1 1 _ rfl⟩⟩⟩
  have hI : InsAt X (some ⟨w.heap.size + 1 + 1, 0, none⟩) 1 [(1, 0, [(1, 1)])] := ⟨rfl, fun _ => ⟨w.heap.size + 1 + 1, 0, rfl, lt_of_block x2, fun i hi => by
    have ei : i = 0 := by simp at hi; omega
    subst ei
    exact ⟨cell_of x2 0 _ rfl, cell_of x2 1 _ rfl, _, _, _, cell_of x2 2 _ rfl, hO1, s1 _⟩⟩⟩
  have hO : OutsAt X (some ⟨w.heap.size + 1 + 1 + 1, 0, none⟩) 1 [(6, [])] := ⟨rfl, fun _ => ⟨w.heap.size + 1 + 1 + 1, 0, rfl, lt_of_block x3, fun i hi => by
    have ei : i = 0 := by simp at hi; omega
    subst ei
    exact ⟨cell_of x3 0 _ rfl, _, _, _, cell_of x3 1 _ rfl, ⟨rfl, fun h => absurd h (by omega)⟩, slok_nil⟩⟩⟩
  have A1 := hide (pAccept_is none 0 0 [] (some ⟨w.heap.size, 0, none⟩) 1 1 plC none 0 0 [] 0 (some ⟨w.heap.size + 1 + 1, 0, none⟩) (some ⟨w.heap.size + 1 + 1 + 1, 0, none⟩) 1 1 1 1 [(1, 0, [(1, 1)])] [(6, [])] 4 0 plK [plT] X (hE.later hbX) ⟨rfl, fun h => absurd h (by omega)⟩ hC (s1 _) (RowsAt.nil _ _) hI hO (s1 _) (s1 _) pl1)
  have A2 := hide (fun W (hw : Below X.heap.size X W) ka kn kc sa sc (hk : Bk.TextsAt W ka kn plK) (hs : TxsAt W sa 1 [plT]) => pAccept_is ka kn kc plK (some ⟨w.heap.size, 0, none⟩) 1 1 plC sa 1 sc [plT] 0 (some ⟨w.heap.size + 1 + 1, 0, none⟩) (some ⟨w.heap.size + 1 + 1 + 1, 0, none⟩) 1 1 1 1 [(1, 0, [(1, 1)])] [(6, [])] 4 6 [] [] W (hE.later (bel_on hbX hw)) hk (hC.later hw) (s1 _) hs (hI.later hw) (hO.later hw) (s1 _) (s1 _) pl2)
  have A3 := hide (fun W (hw : Below X.heap.size X W) ka kn kc sa sc (hk : Bk.TextsAt W ka kn plK) (hs : TxsAt W sa 1 [plT]) => pMake_is ka kn kc plK (some ⟨w.heap.size, 0, none⟩) 1 1 plC sa 1 sc [plT] 5 3 1 0 none 0 0 [] 4 0 plB W (hE.later (bel_on hbX hw)) hk (hC.later hw) (s1 _) hs ⟨rfl, fun h => absurd h (by omega)⟩ slok_nil (by omega) (by decide) pl3)
  have HBX := hide hbX
  have HX4 := hide x4
  have t0 := cell_of x4 0 _ rfl
  have t1 := cell_of x4 1 _ rfl
  have t2 := cell_of x4 2 _ rfl
  have tl := lt_of_block x4
  clear hE hbX x0 x1 x2 x3 x4 hX s1 hC hO1 hI hO
  go_enter Tryz.func24, Tryz.ntmps24
  go_wp2_with fail
  rw [← hX']
  clear hX'
  (try go_wp2_with fail)
  refine (unhide A1).mono ?_
  rintro e w1 ⟨ka, kn, kc, sa, sn, sc, rfl, hF1, _, _, hb1⟩
  obtain ⟨hK1, hS1⟩ := hF1 w1 (Gr.refl _ _)
  obtain rfl : sn = 1 := hS1.1.symm
  obtain ⟨Y, hY⟩ : ∃ Y, Y = w1.alloc (.cells #[.slice ka kn kc] 24) := ⟨_, rfl⟩
  have hbY : Below w1.heap.size w1 Y := by rw [hY]; exact bel_new _ _
  have y0 : Y.heap[w1.heap.size]? = some (.cells [.slice ka kn kc].toArray 24 (0, 0)) := by rw [hY]; exact one_heap _ _ _
  have hbXY := bel_on hb1 hbY
  have h4 := (hbXY.block _ (lt_of_block (unhide HX4))).trans (unhide HX4)
  have C2 := hide ((unhide A2) Y hbXY ka kn kc sa sc (hK1.later hbY) (hS1.later hbY))
  have h41 := (hb1.block _ (lt_of_block (unhide HX4))).trans (unhide HX4)
  have t0 := cell_of h41 0 _ rfl
  have t1 := cell_of h41 1 _ rfl
  have t2 := cell_of h41 2 _ rfl
  have tl := lt_of_block h41
  have k0 := cell_of y0 0 _ rfl
  have kl := lt_of_block y0
  have HK := hide (hK1.later hbY)
  have HS := hide (hS1.later hbY)
  have HBY := hide hbXY
  have HY0 := hide y0
  clear hF1 hb1 hK1 hS1 hbY y0 hbXY h4 h41 A1 A2
  go_wp2_with fail
  rw [← hY]
  clear hY
  (try go_wp2_with fail)
  refine (unhide C2).mono ?_
  rintro e w2 ⟨ka2, kn2, kc2, sa2, sn2, sc2, rfl, _, _, _, hb2⟩
  have hbY2 := bel_on (unhide HBY) hb2
  obtain ⟨Z, hZ⟩ : ∃ Z, Z = w2.alloc (.cells #[.slice ka2 kn2 kc2] 24) := ⟨_, rfl⟩
  have hbZ : Below w2.heap.size w2 Z := by rw [hZ]; exact bel_new _ _
  have hYZ := bel_on hb2 hbZ
  have C3 := hide ((unhide A3) Z (bel_on hbY2 hbZ) ka kn kc sa sc ((unhide HK).later hYZ) ((unhide HS).later hYZ))
  have k1 := (hb2.block _ (lt_of_block (unhide HY0))).trans (unhide HY0)
  have k10 := cell_of k1 0 _ rfl
  have k1l := lt_of_block k1
  have HBZ := hide (bel_on hbY2 hbZ)
  clear hb2 hbY2 hbZ hYZ k1 C2 A3 k0 kl t0 t1 t2 tl
  go_wp2_with fail
  rw [← hZ]
  clear hZ
  (try go_wp2_with fail)
  refine (unhide C3).mono ?_
  rintro e w3 ⟨ga, gn, gc, rfl, hF3, _, hb3⟩
  have hT := hF3 w3 (Gr.refl _ _)
  obtain rfl : gn = 2 := hT.1.symm
  obtain ⟨b, off, rfl, hbl, hrow⟩ := hT.2 (by omega)
  obtain ⟨_, _, oa, on, oc, c2, hO3, _⟩ := hrow 0 (by decide)
  obtain rfl : on = 1 := hO3.1.symm
  obtain ⟨ob, ooff, rfl, obl, orow⟩ := hO3.2 (by omega)
  have c3 := (orow 0 (by decide)).1
  have hbW := bel_new w3 (.cells #[.int .i64 plB.1, .int .i64 plB.2.1, .int .i64 plB.2.2.1, .int .i64 plB.2.2.2.1, .slice (some ⟨b, off, none⟩) 2 gc] 39)
  have HB3 := hide (bel_on (unhide HBX) (bel_on (unhide HBZ) (bel_on hb3 hbW)))
  simp only [blkV, plB, plT] at *
  simp only [Nat.zero_mul, Nat.add_zero, List.getElem_cons_zero] at c2 c3
  clear hF3 hb3 hT hrow hO3 orow hbW C3 k10 k1l
  go_wp2
  trace_state
  go_ret
  exact ⟨rfl, unhide HB3⟩

end Go.Proofs.YtmomfkikogbdeaaGreatDoor

/- Contracts of what holds transactions' rows and blocks against each other. -/
namespace Go.Proofs.YtmomfkikogbdeaaGreatDoor
open Go.RowKit

def sameTs : List TxD → List TxD → Bool
  | [], [] => true
  | x :: r, y :: q => sameT x y && sameTs r q
  | _, _ => false
theorem sameT_eq (x y : TxD) : sameT x y = true ↔ x = y := by
  obtain ⟨a, b, c⟩ := x
  obtain ⟨d, e, f⟩ := y
  unfold sameT
  simp
theorem sameTs_iff : ∀ (l k : List TxD), sameTs l k = true ↔ l = k
  | [], [] => by simp [sameTs]
  | [], y :: q => by simp [sameTs]
  | x :: r, [] => by simp [sameTs]
  | x :: r, y :: q => by rw [sameTs, Bool.and_eq_true, sameT_eq, sameTs_iff r q, List.cons.injEq]
theorem sameTs_no {l k : List TxD} (h : l ≠ k) : sameTs l k = false := by
  rw [← Bool.not_eq_true, sameTs_iff]; exact h
theorem sameTs_yes {l k : List TxD} (h : l = k) : sameTs l k = true := (sameTs_iff l k).2 h

set_option maxHeartbeats 400000 in
theorem eqTx_lens (a b : Option Addr) (n m c d : Nat) (v : Value) (w : World) (h : n ≠ m) :
    Calls Tryz.prog 29 #[.slice a n c, .slice b m d, v] w fun e w' => e = .returned (.bool false) ∧ w = w' := by
  have g : ((n : Int) != (m : Int)) = true := by simp; omega
  clear h
  go_enter Tryz.func29, Tryz.ntmps29
  go_wp2
  go_ret
  exact ⟨rfl, rfl⟩

set_option maxHeartbeats 400000 in
theorem eqTx_none (a b : Option Addr) (c d : Nat) (v : Value) (w : World) :
    Calls Tryz.prog 29 #[.slice a 0 c, .slice b 0 d, v] w fun e w' => e = .returned (.bool true) ∧ w = w' := by
  go_enter Tryz.func29, Tryz.ntmps29
  go_wp2
  refine wp_loop_rounds 1 ?_
  rw [rounds_succ]
  go_wp2
  go_ret
  exact ⟨rfl, rfl⟩

set_option maxRecDepth 10000 in
set_option maxHeartbeats 3200000 in
theorem eqTx_some (b1 o1 b2 o2 n c d : Nat) (l k : List TxD) (o : Bool) (w : World) (hn : n ≤ maxLen) (z1 : l.length = n) (z2 : k.length = n)
    (h1 : ∀ i (h : i < l.length), TxAt w b1 (o1 + i * 3) l[i]) (h2 : ∀ i (h : i < k.length), TxAt w b2 (o2 + i * 3) k[i]) (ho : sameTs l k = o) :
    Calls Tryz.prog 29 #[.slice (some ⟨b1, o1, none⟩) n c, .slice (some ⟨b2, o2, none⟩) n d, .func (.func 30) #[] #[]] w fun e w' => e = .returned (.bool o) ∧ Below w.heap.size w w' := by
  subst ho
  unfold maxLen at hn
  have H1 := hide h1
  have H2 := hide h2
  have Z1 := hide z1
  have Z2 := hide z2
  clear h1 h2 z1 z2
  go_enter Tryz.func29, Tryz.ntmps29
  go_wp2
  go_loopw [17] (fun i wr => ∃ j : Nat, j ≤ n ∧ i = .int .i64 j ∧ Below w.heap.size w wr ∧ Hid (l.take j = k.take j)) (fun i _ => n - (intOf i).toNat)
  case atStart => exact ⟨0, Nat.zero_le _, rfl, Below.refl _ _, rfl⟩
  case round =>
    obtain ⟨j, hk, rfl, hb, A⟩ := hrel
    have HB := hide hb
    by_cases hlt : j < n
    · have hl1 : j < l.length := by rw [unhide Z1]; exact hlt
      have hl2 : j < k.length := by rw [unhide Z2]; exact hlt
      have g := TxAt.kept _ _ _ _ _ hb ((unhide H1) j hl1)
      have f := TxAt.kept _ _ _ _ _ hb ((unhide H2) j hl2)
      have TS := hide (take_same hl1 hl2 (unhide A))
      have TU := hide (take_unlike hl1 hl2)
      obtain ⟨q, hq⟩ : ∃ q, l[j] = q := ⟨_, rfl⟩
      obtain ⟨r, hr⟩ : ∃ r, k[j] = r := ⟨_, rfl⟩
      rw [hq] at g
      rw [hr] at f
      rw [hq, hr] at TS TU
      obtain ⟨q1, I, O⟩ := q
      obtain ⟨r1, I', O'⟩ := r
      obtain ⟨g0, ⟨ai, ni, ci, g1, gI, sI⟩, ao, no, co, g2, gO, sO⟩ := g
      obtain ⟨f0, ⟨bi, mi, di, f1, fI, _⟩, bo, mo, eo, f2, fO, _⟩ := f
      simp only at g0 g1 g2 f0 f1 f2 gI gO fI fO
      have hb2 := bel_on (bel_new wr (.cells #[.int .i64 q1, .slice ai ni ci, .slice ao no co] 59)) (bel_new _ (.cells #[.int .i64 r1, .slice bi mi di, .slice bo mo eo] 59))
      obtain ⟨o', ho'⟩ : ∃ o', sameT (q1, I, O) (r1, I', O') = o' := ⟨_, rfl⟩
      have HC := hide (txSame_is q1 r1 ai ao bi bo ni ci no co mi di mo eo I I' O O' o' _ sI.len sO.len (gI.later hb2) (gO.later hb2) (fI.later hb2) (fO.later hb2) ho')
      have HB2 := hide (bel_on (unhide HB) hb2)
      have hrl : b2 < wr.heap.size := World.block_lt_of_cell? _ _ f0
      have hkI : (j : Int) < (n : Int) := by omega
      clear hb hb2 gI gO fI fO sI sO hq hr A
      cases o' with
      | true =>
        have T := hide ((unhide TS) ((sameT_eq _ _).1 ho'))
        clear TS TU ho'
        go_wp2_with fail
        refine (unhide HC).mono ?_
        rintro e w2 ⟨rfl, hb3⟩
        have HB3 := hide (bel_on (unhide HB2) hb3)
        clear hb3
        go_wp2
        go_roundw
        case rel => exact ⟨j + 1, by omega, by go_num, unhide HB3, T⟩
        case measure => simp [intOf]; omega
      | false =>
        have U : Hid (sameTs l k = false) := sameTs_no ((unhide TU) (fun e => by rw [(sameT_eq _ _).2 e] at ho'; cases ho'))
        clear TS TU ho'
        go_wp2_with fail
        refine (unhide HC).mono ?_
        rintro e w2 ⟨rfl, hb3⟩
        have HB3 := hide (bel_on (unhide HB2) hb3)
        clear hb3
        go_wp2
        go_ret
        exact ⟨by rw [unhide U]; rfl, unhide HB3⟩
    · have U : Hid (sameTs l k = true) := by
        have h := unhide A
        rw [List.take_of_length_le (by rw [unhide Z1]; omega), List.take_of_length_le (by rw [unhide Z2]; omega)] at h
        exact sameTs_yes h
      clear A hb
      go_wp2
      go_ret
      exact ⟨by rw [unhide U]; rfl, unhide HB⟩

theorem eqTx_any (a b : Option Addr) (n m c d : Nat) (l k : List TxD) (o : Bool) (w : World) (hn : n ≤ maxLen) (hA : TxsAt w a n l) (hB : TxsAt w b m k) (ho : sameTs l k = o) :
    Calls Tryz.prog 29 #[.slice a n c, .slice b m d, .func (.func 30) #[] #[]] w fun e w' => e = .returned (.bool o) ∧ Below w.heap.size w w' := by
  by_cases h : n = m
  · subst h
    by_cases h0 : n = 0
    · subst h0
      have e1 : l = [] := List.length_eq_zero_iff.1 hA.1
      have e2 : k = [] := List.length_eq_zero_iff.1 hB.1
      subst e1 e2
      rw [sameTs_yes rfl] at ho
      subst ho
      exact (eqTx_none a b c d _ w).mono fun e w' ⟨h1, h2⟩ => ⟨h1, h2 ▸ Below.refl _ _⟩
    · obtain ⟨b1, o1, rfl, _, h1⟩ := hA.2 (by omega)
      obtain ⟨b2, o2, rfl, _, h2⟩ := hB.2 (by omega)
      exact eqTx_some b1 o1 b2 o2 n c d l k o w hn hA.1 hB.1 h1 h2 ho
  · have e : l ≠ k := fun e => h (by rw [← hA.1, ← hB.1, e])
    rw [sameTs_no e] at ho
    subst ho
    exact (eqTx_lens a b n m c d _ w h).mono fun e w' ⟨h1, h2⟩ => ⟨h1, h2 ▸ Below.refl _ _⟩

end Go.Proofs.YtmomfkikogbdeaaGreatDoor

/- Contracts of slices.Equal at texts and at ints, of slices.Index at texts. -/
namespace Go.Proofs.YtmomfkikogbdeaaGreatDoor.Bk
open Go.RowKit Go.Maps

theorem take_more {α : Type} {L M : List α} {j : Nat} (h1 : j < L.length) (h2 : j < M.length) (h : L.take j = M.take j) (e : L[j] = M[j]) : L.take (j + 1) = M.take (j + 1) := by
  rw [List.take_succ_eq_append_getElem h1, List.take_succ_eq_append_getElem h2, h, e]
theorem take_not {α : Type} {L M : List α} {j : Nat} (h1 : j < L.length) (h2 : j < M.length) (e : L[j] ≠ M[j]) : L ≠ M := by
  intro h; subst h; exact e rfl
theorem str_ne' {s t : ByteArray} (h : s ≠ t) : s.toList ≠ t.toList := fun e => h (by
  rw [ByteArray.toList_eq, ByteArray.toList_eq] at e
  have h4 : s.data = t.data := by rw [← Array.toList_inj]; exact e
  cases s; cases t; simp_all)
theorem str_ne {s t : ByteArray} (h : s ≠ t) : (s.toList == t.toList) = false := by simp [str_ne' h]


set_option maxRecDepth 10000 in
set_option maxHeartbeats 1600000 in
theorem eqStr_some (b off b2 off2 n c d : Nat) (L M : List ByteArray) (o : Bool) (w : World) (hn : n ≤ maxLen) (hz : L.length = n) (hz2 : M.length = n)
    (hc : ∀ i (h : i < L.length), w.cell? ⟨b, off + i, none⟩ = some (.string L[i])) (hc2 : ∀ i (h : i < M.length), w.cell? ⟨b2, off2 + i, none⟩ = some (.string M[i])) (ho : decide (L = M) = o) :
    Calls Tryz.prog 31 #[.slice (some ⟨b, off, none⟩) n c, .slice (some ⟨b2, off2, none⟩) n d] w fun e w' => e = .returned (.bool o) ∧ Below w.heap.size w w' := by
  have HC := hide hc
  have HC2 := hide hc2
  have HZ := hide hz
  have HZ2 := hide hz2
  have HO := hide ho
  have g0 : ((n : Int) != (n : Int)) = false := by simp
  unfold maxLen at hn
  clear hc hc2 hz hz2 ho
  go_enter Tryz.func31, Tryz.ntmps31
  go_wp2
  go_loopw [13] (fun i wr => ∃ j m : Nat, j ≤ n ∧ i = .int .i64 j ∧ wr = w.drewN m ∧ Hid (L.take j = M.take j)) (fun i _ => n - (intOf i).toNat)
  case atStart => exact ⟨0, 0, Nat.zero_le _, rfl, rfl, rfl⟩
  case round =>
    obtain ⟨j, m, hk, rfl, rfl, A⟩ := hrel
    by_cases hlt : j < n
    · have h1 : j < L.length := by rw [unhide HZ]; exact hlt
      have h2 : j < M.length := by rw [unhide HZ2]; exact hlt
      have f1 := (unhide HC) j h1
      have f2 := (unhide HC2) j h2
      have TM := hide (take_more h1 h2 (unhide A))
      have TN := hide (take_not h1 h2)
      obtain ⟨s, hs⟩ : ∃ s, L[j] = s := ⟨_, rfl⟩
      obtain ⟨t, ht⟩ : ∃ t, M[j] = t := ⟨_, rfl⟩
      rw [hs] at f1
      rw [ht] at f2
      rw [hs, ht] at TM TN
      clear hs ht A
      by_cases e : s = t
      · subst e
        have R := hide ((unhide TM) rfl)
        clear TM TN
        go_wp2
        go_quiet (fail)
        go_wp2
        go_roundw
        case rel => exact ⟨j + 1, m + nq, by omega, by go_num, rfl, R⟩
        case measure => simp [intOf]; omega
      · have R : Hid (o = false) := by show _ = _; rw [← unhide HO]; exact decide_eq_false ((unhide TN) e)
        have g := str_ne e
        clear TM TN e
        go_wp2
        go_quiet (fail)
        go_wp2
        go_ret
        exact ⟨by rw [unhide R]; rfl, by simp only [World.drewN_drewN]; exact below_dw _ _⟩
    · have R : Hid (o = true) := by
        have h := unhide A
        rw [List.take_of_length_le (by rw [unhide HZ]; omega), List.take_of_length_le (by rw [unhide HZ2]; omega)] at h
        show _ = _; rw [← unhide HO]; exact decide_eq_true h
      clear A
      go_wp2
      go_ret
      exact ⟨by rw [unhide R]; rfl, below_dw _ _⟩

set_option maxHeartbeats 400000 in
theorem eqStr_zero (a a2 : Option Addr) (c d : Nat) (w : World) :
    Calls Tryz.prog 31 #[.slice a 0 c, .slice a2 0 d] w fun e w' => e = .returned (.bool true) ∧ Below w.heap.size w w' := by
  go_enter Tryz.func31, Tryz.ntmps31
  go_wp2
  refine wp_loop_rounds 1 ?_
  rw [rounds_succ]
  go_wp2
  go_ret
  exact ⟨rfl, Below.refl _ _⟩
set_option maxHeartbeats 400000 in
theorem eqStr_len (a a2 : Option Addr) (n m c d : Nat) (w : World) (h : n ≠ m) :
    Calls Tryz.prog 31 #[.slice a n c, .slice a2 m d] w fun e w' => e = .returned (.bool false) ∧ Below w.heap.size w w' := by
  have g : ((n : Int) != (m : Int)) = true := by simp; omega
  go_enter Tryz.func31, Tryz.ntmps31
  go_wp2
  go_ret
  exact ⟨rfl, Below.refl _ _⟩

theorem eqStr_is (a a2 : Option Addr) (n m c d : Nat) (L M : List ByteArray) (o : Bool) (w : World) (hn : n ≤ maxLen) (h : TextsAt w a n L) (h2 : TextsAt w a2 m M) (ho : decide (L = M) = o) :
    Calls Tryz.prog 31 #[.slice a n c, .slice a2 m d] w fun e w' => e = .returned (.bool o) ∧ Below w.heap.size w w' := by
  by_cases e : n = m
  · subst e
    by_cases h0 : n = 0
    · subst h0
      have e1 : L = [] := List.length_eq_zero_iff.1 h.1
      have e2 : M = [] := List.length_eq_zero_iff.1 h2.1
      subst e1 e2
      have : o = true := by rw [← ho]; rfl
      subst this
      exact eqStr_zero a a2 c d w
    · obtain ⟨b, off, rfl, hc⟩ := h.2 (by omega)
      obtain ⟨b2, off2, rfl, hc2⟩ := h2.2 (by omega)
      exact eqStr_some b off b2 off2 n c d L M o w hn h.1 h2.1 hc hc2 ho
  · have : o = false := by
      rw [← ho]
      exact decide_eq_false (fun e2 => e (by rw [← h.1, ← h2.1, e2]))
    subst this
    exact eqStr_len a a2 n m c d w e

end Go.Proofs.YtmomfkikogbdeaaGreatDoor.Bk
