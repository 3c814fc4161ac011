/- The walk of the law TreePaths. -/
import Derived.Test.YtklekpbladmjhaaRefBest
import Derived.Test.YtklekpbladmjhaaTrFork
import Derived.Test.YtklekpbladmjhaaTrGrown
import Derived.Test.YtklekpbladmjhaaRefTree
namespace Go.Proofs.Ytklekpbladmjhaa
open Go.RowKit

section
variable {N : List Int} {T : List BlkD} {s t y : Int}
theorem pathE_bad (h : chkTr N T = y) (hy : y ≠ 0) : pathE N T s = ([], y) := by unfold pathE; rw [h, if_pos hy]
theorem pathE_in (h : chkTr N T = 0) (hs : s = 0 ∨ s ∈ N) : pathE N T s = (pthD N T s, 0) := by
  unfold pathE
  rw [h, if_neg (by simp), if_neg]
  rintro ⟨h1, h2⟩
  rw [decide_eq_false_iff_not] at h2
  exact hs.elim h1 h2
theorem pathE_out (h : chkTr N T = 0) (hs : ¬ (s = 0 ∨ s ∈ N)) : pathE N T s = ([], 5) := by
  unfold pathE
  rw [h, if_neg (by simp), if_pos]
  exact ⟨fun q => hs (.inl q), decide_eq_false fun q => hs (.inr q)⟩
theorem workE_of {P : List Int} {x : Int} (h : pathE N T s = (P, x)) : workE N T s = if x ≠ 0 then (0, x) else (wkGo N T 0 P, 0) := by
  unfold workE
  rw [h]
theorem forkE_of {P Q : List Int} {x z : Int} (h : pathE N T s = (P, x)) (h2 : pathE N T t = (Q, z)) : forkE N T s t = if x ≠ 0 then (0, x) else if z ≠ 0 then (0, z) else (frkGo 0 P Q, 0) := by
  unfold forkE
  rw [h, h2]
theorem forkE_first {P : List Int} {x : Int} (h : pathE N T s = (P, x)) (hx : x ≠ 0) : forkE N T s t = (0, x) := by
  unfold forkE
  rw [h, if_pos hx]
theorem bstD_bad (h : chkTr N T = y) (hy : y ≠ 0) : bstD N T = (0, y) := by unfold bstD; rw [h, if_pos hy]
theorem bstD_ok (h : chkTr N T = 0) : bstD N T = (bstGo N T 0 0 N, 0) := by unfold bstD; rw [h, if_neg (by simp)]
end

set_option maxRecDepth 10000 in
set_option maxHeartbeats 12800000 in
theorem lawPaths_bad (a b : Option Addr) (n c m d : Nat) (N : List Int) (T : List BlkD) (s t : Int) (y : Int) (w : World) (hN : IntsAt w a n N) (hT : BlksAt w b m T) (sN : SlOk a n c) (sT : SlOk b m d) (hY : chkTr N T = y) (hy : y ≠ 0) :
    Calls Try.prog 4 #[.agg #[.slice a n c, .slice b m d], .int .i64 s, .int .i64 t] w fun e w' => e = .returned (.bool true) ∧ Below w.heap.size w w' := by
  have hP : pathE N T s = (([] : List Int), y) := pathE_bad hY hy
  have hpn : ([] : List Int).length = 0 := rfl
  have hW : workE N T s = (0, y) := by rw [workE_of hP, if_pos hy]
  have hF : forkE N T s t = (0, y) := forkE_first hP hy
  have hB := bstD_bad hY hy
  obtain ⟨X, hX⟩ : ∃ X, X = w.alloc (.cells #[.slice a n c, .slice b m d] 25) := ⟨_, rfl⟩
  have hbX : Below w.heap.size w X := by rw [hX]; exact bel_new _ _
  have hX0 : X.heap[w.heap.size]? = some (.cells [.slice a n c, .slice b m d].toArray 25 (0, 0)) := by rw [hX]; exact two_heap _ _ _ _
  have C1 := hide (path_is a b n c m d N T s [] 0 y X (hN.later hbX) (hT.later hbX) sN sT hP hpn)
  have C2 := hide (fun W (hb : Below w.heap.size w W) => work_is a b n c m d N T s 0 y W (hN.later hb) (hT.later hb) sN sT hW)
  have C3 := hide (fun W (hb : Below w.heap.size w W) => fork_is a b n c m d N T s t 0 y W (hN.later hb) (hT.later hb) sN sT hF)
  have C4 := hide (fun W (hb : Below w.heap.size w W) => best_is a b n c m d N T 0 y W (hN.later hb) (hT.later hb) sN sT hB)
  have C5 := hide (fun W (hb : Below w.heap.size w W) => rchkTree_any a b n c m d N T y W (hN.later hb) (hT.later hb) sN sT hY)
  have C6 := hide grown_yes
  have HB0 := hide hbX
  have BT0 := hide hX0
  clear hP hW hF hB hpn
  have ttt0 := cell_of (unhide BT0) 0 _ rfl
  have ttt1 := cell_of (unhide BT0) 1 _ rfl
  have tttl := lt_of_block (unhide BT0)
  have g0 : (y != 0) = true := by simp [hy]
  have g1 : (y == y) = true := by simp
  clear hN hT sN sT hbX hX0 hY hy
  go_enter Try.func4, Try.ntmps4
  go_wp2_with fail
  rw [← hX]
  clear hX
  refine (unhide C1).mono ?_
  rintro e w1 ⟨v1, rfl, ho1, hb1⟩
  obtain ⟨pa, pc, rfl, sp, hp⟩ := ints_of_own ho1
  have IP1 := hide hp
  have SP := hide sp
  have HB1 := hide (bel_on (unhide HB0) hb1)
  have BT1 := hide ((hb1.block _ (lt_of_block (unhide BT0))).trans (unhide BT0))
  clear ho1 hp sp hb1 C1
  clear ttt0 ttt1 tttl
  have ttt0 := cell_of (unhide BT1) 0 _ rfl
  have ttt1 := cell_of (unhide BT1) 1 _ rfl
  have tttl := lt_of_block (unhide BT1)
  have CC := hide ((unhide C2) w1 (unhide HB1))
  go_wp2_with fail
  refine (unhide CC).mono ?_
  rintro e w2 ⟨rfl, hb2⟩
  have HB2 := hide (bel_on (unhide HB1) hb2)
  have BT2 := hide ((hb2.block _ (lt_of_block (unhide BT1))).trans (unhide BT1))
  have IP2 := hide ((unhide IP1).later hb2)
  clear hb2 CC C2 IP1 HB1 BT1
  clear ttt0 ttt1 tttl
  have ttt0 := cell_of (unhide BT2) 0 _ rfl
  have ttt1 := cell_of (unhide BT2) 1 _ rfl
  have tttl := lt_of_block (unhide BT2)
  have CC := hide ((unhide C3) w2 (unhide HB2))
  go_wp2_with fail
  refine (unhide CC).mono ?_
  rintro e w3 ⟨rfl, hb3⟩
  have HB3 := hide (bel_on (unhide HB2) hb3)
  have BT3 := hide ((hb3.block _ (lt_of_block (unhide BT2))).trans (unhide BT2))
  have IP3 := hide ((unhide IP2).later hb3)
  clear hb3 CC C3 IP2 HB2 BT2
  clear ttt0 ttt1 tttl
  have ttt0 := cell_of (unhide BT3) 0 _ rfl
  have ttt1 := cell_of (unhide BT3) 1 _ rfl
  have tttl := lt_of_block (unhide BT3)
  have CC := hide ((unhide C4) w3 (unhide HB3))
  go_wp2_with fail
  refine (unhide CC).mono ?_
  rintro e w4 ⟨rfl, hb4⟩
  have HB4 := hide (bel_on (unhide HB3) hb4)
  have BT4 := hide ((hb4.block _ (lt_of_block (unhide BT3))).trans (unhide BT3))
  have IP4 := hide ((unhide IP3).later hb4)
  clear hb4 CC C4 IP3 HB3 BT3
  clear ttt0 ttt1 tttl
  have ttt0 := cell_of (unhide BT4) 0 _ rfl
  have ttt1 := cell_of (unhide BT4) 1 _ rfl
  have tttl := lt_of_block (unhide BT4)
  have CC := hide ((unhide C5) w4 (unhide HB4))
  go_wp2_with fail
  refine (unhide CC).mono ?_
  rintro e w5 ⟨rfl, hb5⟩
  have HB5 := hide (bel_on (unhide HB4) hb5)
  have BT5 := hide ((hb5.block _ (lt_of_block (unhide BT4))).trans (unhide BT4))
  have IP5 := hide ((unhide IP4).later hb5)
  clear hb5 CC C5 IP4 HB4 BT4
  clear ttt0 ttt1 tttl
  have ttt0 := cell_of (unhide BT5) 0 _ rfl
  have ttt1 := cell_of (unhide BT5) 1 _ rfl
  have tttl := lt_of_block (unhide BT5)
  go_wp2_with fail
  refine ((unhide C6) _).mono ?_
  rintro e w6 ⟨rfl, hb6⟩
  have HB6 := hide (bel_on (unhide HB5) hb6)
  have BT6 := hide ((hb6.block _ (lt_of_block (unhide BT5))).trans (unhide BT5))
  have IP6 := hide ((unhide IP5).later hb6)
  clear hb6 IP5 HB5 BT5
  clear ttt0 ttt1 tttl
  have ttt0 := cell_of (unhide BT6) 0 _ rfl
  have ttt1 := cell_of (unhide BT6) 1 _ rfl
  have tttl := lt_of_block (unhide BT6)
  go_wp2_with fail
  refine ((unhide C6) _).mono ?_
  rintro e w7 ⟨rfl, hb7⟩
  have HBF := hide (bel_on (unhide HB6) hb7)
  clear hb7
  go_wp2
  go_ret
  exact ⟨rfl, unhide HBF⟩
  
set_option maxRecDepth 10000 in
set_option maxHeartbeats 12800000 in
theorem lawPaths_out (a b : Option Addr) (n c m d : Nat) (N : List Int) (T : List BlkD) (s t : Int) (w : World) (hN : IntsAt w a n N) (hT : BlksAt w b m T) (sN : SlOk a n c) (sT : SlOk b m d) (hY : chkTr N T = 0) (hs : ¬ (s = 0 ∨ s ∈ N)) :
    Calls Try.prog 4 #[.agg #[.slice a n c, .slice b m d], .int .i64 s, .int .i64 t] w fun e w' => e = .returned (.bool true) ∧ Below w.heap.size w w' := by
  have hP : pathE N T s = (([] : List Int), 5) := pathE_out hY hs
  have hpn : ([] : List Int).length = 0 := rfl
  have hW : workE N T s = (0, 5) := by rw [workE_of hP, if_pos (by decide)]
  have hF : forkE N T s t = (0, 5) := forkE_first hP (by decide)
  have hB := bstD_ok hY
  obtain ⟨bb, hbb⟩ : ∃ bb, bstGo N T 0 0 N = bb := ⟨_, rfl⟩
  rw [hbb] at hB
  have hok := TrOk.of hY
  obtain ⟨hl, h24, hH, _⟩ := chkTr_ok hY
  obtain rfl : n = m := by rw [← hN.1, ← hT.1, hl]
  have hn24 : n ≤ 24 := by rw [← hN.1]; exact h24
  have hnm : n ≤ maxLen := sN.len
  have hQ1 : (if s = 0 ∨ s ∈ N then (pthD N T s, true) else (([] : List Int), false)) = ([], false) := if_neg hs
  obtain ⟨P1, hP1⟩ : ∃ P1 : List Int, [] = P1 := ⟨_, rfl⟩
  obtain ⟨P2, o2, hQ2⟩ : ∃ P2 o2, (if t = 0 ∨ t ∈ N then (pthD N T t, true) else (([] : List Int), false)) = (P2, o2) := ⟨_, _, rfl⟩
  obtain ⟨n2, hn2⟩ : ∃ n2, P2.length = n2 := ⟨_, rfl⟩
  obtain ⟨X, hX⟩ : ∃ X, X = w.alloc (.cells #[.slice a n c, .slice b n d] 25) := ⟨_, rfl⟩
  have hbX : Below w.heap.size w X := by rw [hX]; exact bel_new _ _
  have hX0 : X.heap[w.heap.size]? = some (.cells [.slice a n c, .slice b n d].toArray 25 (0, 0)) := by rw [hX]; exact two_heap _ _ _ _
  have C1 := hide (path_is a b n c n d N T s [] 0 5 X (hN.later hbX) (hT.later hbX) sN sT hP hpn)
  have C2 := hide (fun W (hb : Below w.heap.size w W) => work_is a b n c n d N T s 0 5 W (hN.later hb) (hT.later hb) sN sT hW)
  have C3 := hide (fun W (hb : Below w.heap.size w W) => fork_is a b n c n d N T s t 0 5 W (hN.later hb) (hT.later hb) sN sT hF)
  have C4 := hide (fun W (hb : Below w.heap.size w W) => best_is a b n c n d N T bb 0 W (hN.later hb) (hT.later hb) sN sT hB)
  have C5 := hide (fun W (hb : Below w.heap.size w W) => rchkTree_any a b n c n d N T 0 W (hN.later hb) (hT.later hb) sN sT hY)
  have C6 := hide grown_yes
  have HB0 := hide hbX
  have BT0 := hide hX0
  clear hP hW hF hB hpn
  have ttt0 := cell_of (unhide BT0) 0 _ rfl
  have ttt1 := cell_of (unhide BT0) 1 _ rfl
  have tttl := lt_of_block (unhide BT0)
  have HRB := hide (fun W (hb : Below w.heap.size w W) => rbest_is a b n c d N T bb W hok hn24 (hN.later hb) (hT.later hb) sN hbb)
  have HR1 := hide (fun W (hb : Below w.heap.size w W) => rpath_any a b n c d N T s [] false 0 W hok hnm (hN.later hb) (hT.later hb) hQ1 rfl)
  have HR2 := hide (fun W (hb : Below w.heap.size w W) => rpath_any a b n c d N T t P2 o2 n2 W hok hnm (hN.later hb) (hT.later hb) hQ2 hn2)
  have gbb : (bb != bb) = false := by simp
  clear hN hT sN sT hbX hX0 hY hs hok hl h24 hH hn24 hnm hQ1 hQ2 hn2 hbb hP1
  go_enter Try.func4, Try.ntmps4
  go_wp2_with fail
  rw [← hX]
  clear hX
  refine (unhide C1).mono ?_
  rintro e w1 ⟨v1, rfl, ho1, hb1⟩
  obtain ⟨pa, pc, rfl, sp, hp⟩ := ints_of_own ho1
  have IP1 := hide hp
  have SP := hide sp
  have HB1 := hide (bel_on (unhide HB0) hb1)
  have BT1 := hide ((hb1.block _ (lt_of_block (unhide BT0))).trans (unhide BT0))
  clear ho1 hp sp hb1 C1
  clear ttt0 ttt1 tttl
  have ttt0 := cell_of (unhide BT1) 0 _ rfl
  have ttt1 := cell_of (unhide BT1) 1 _ rfl
  have tttl := lt_of_block (unhide BT1)
  have CC := hide ((unhide C2) w1 (unhide HB1))
  go_wp2_with fail
  refine (unhide CC).mono ?_
  rintro e w2 ⟨rfl, hb2⟩
  have HB2 := hide (bel_on (unhide HB1) hb2)
  have BT2 := hide ((hb2.block _ (lt_of_block (unhide BT1))).trans (unhide BT1))
  have IP2 := hide ((unhide IP1).later hb2)
  clear hb2 CC C2 IP1 HB1 BT1
  clear ttt0 ttt1 tttl
  have ttt0 := cell_of (unhide BT2) 0 _ rfl
  have ttt1 := cell_of (unhide BT2) 1 _ rfl
  have tttl := lt_of_block (unhide BT2)
  have CC := hide ((unhide C3) w2 (unhide HB2))
  go_wp2_with fail
  refine (unhide CC).mono ?_
  rintro e w3 ⟨rfl, hb3⟩
  have HB3 := hide (bel_on (unhide HB2) hb3)
  have BT3 := hide ((hb3.block _ (lt_of_block (unhide BT2))).trans (unhide BT2))
  have IP3 := hide ((unhide IP2).later hb3)
  clear hb3 CC C3 IP2 HB2 BT2
  clear ttt0 ttt1 tttl
  have ttt0 := cell_of (unhide BT3) 0 _ rfl
  have ttt1 := cell_of (unhide BT3) 1 _ rfl
  have tttl := lt_of_block (unhide BT3)
  have CC := hide ((unhide C4) w3 (unhide HB3))
  go_wp2_with fail
  refine (unhide CC).mono ?_
  rintro e w4 ⟨rfl, hb4⟩
  have HB4 := hide (bel_on (unhide HB3) hb4)
  have BT4 := hide ((hb4.block _ (lt_of_block (unhide BT3))).trans (unhide BT3))
  have IP4 := hide ((unhide IP3).later hb4)
  clear hb4 CC C4 IP3 HB3 BT3
  clear ttt0 ttt1 tttl
  have ttt0 := cell_of (unhide BT4) 0 _ rfl
  have ttt1 := cell_of (unhide BT4) 1 _ rfl
  have tttl := lt_of_block (unhide BT4)
  have CC := hide ((unhide C5) w4 (unhide HB4))
  go_wp2_with fail
  refine (unhide CC).mono ?_
  rintro e w5 ⟨rfl, hb5⟩
  have HB5 := hide (bel_on (unhide HB4) hb5)
  have BT5 := hide ((hb5.block _ (lt_of_block (unhide BT4))).trans (unhide BT4))
  have IP5 := hide ((unhide IP4).later hb5)
  clear hb5 CC C5 IP4 HB4 BT4
  clear ttt0 ttt1 tttl
  have ttt0 := cell_of (unhide BT5) 0 _ rfl
  have ttt1 := cell_of (unhide BT5) 1 _ rfl
  have tttl := lt_of_block (unhide BT5)
  go_wp2_with fail
  refine ((unhide C6) _).mono ?_
  rintro e w6 ⟨rfl, hb6⟩
  have HB6 := hide (bel_on (unhide HB5) hb6)
  have BT6 := hide ((hb6.block _ (lt_of_block (unhide BT5))).trans (unhide BT5))
  have IP6 := hide ((unhide IP5).later hb6)
  clear hb6 IP5 HB5 BT5
  clear ttt0 ttt1 tttl
  have ttt0 := cell_of (unhide BT6) 0 _ rfl
  have ttt1 := cell_of (unhide BT6) 1 _ rfl
  have tttl := lt_of_block (unhide BT6)
  have CC := hide ((unhide HR1) w6 (unhide HB6))
  go_wp2_with fail
  refine (unhide CC).mono ?_
  rintro e w7 ⟨v7, rfl, ho7, hb7⟩
  obtain ⟨qa, qc, rfl, sq, hq⟩ := ints_of_own ho7
  have IQ7 := hide hq
  have SQ := hide sq
  have HB7 := hide (bel_on (unhide HB6) hb7)
  have BT7 := hide ((hb7.block _ (lt_of_block (unhide BT6))).trans (unhide BT6))
  have IP7 := hide ((unhide IP6).later hb7)
  clear ho7 hq sq hb7 CC HR1 IP6 HB6 BT6
  clear ttt0 ttt1 tttl
  have ttt0 := cell_of (unhide BT7) 0 _ rfl
  have ttt1 := cell_of (unhide BT7) 1 _ rfl
  have tttl := lt_of_block (unhide BT7)
  have CC := hide ((unhide HR2) w7 (unhide HB7))
  go_wp2_with fail
  refine (unhide CC).mono ?_
  rintro e w8 ⟨v8, rfl, ho8, hb8⟩
  obtain ⟨ra, rc, rfl, sr, hr⟩ := ints_of_own ho8
  have IR8 := hide hr
  have SR := hide sr
  have HB8 := hide (bel_on (unhide HB7) hb8)
  have BT8 := hide ((hb8.block _ (lt_of_block (unhide BT7))).trans (unhide BT7))
  have IP8 := hide ((unhide IP7).later hb8)
  have IQ8 := hide ((unhide IQ7).later hb8)
  clear ho8 hr sr hb8 CC HR2 IP7 IQ7 HB7 BT7
  clear ttt0 ttt1 tttl
  have ttt0 := cell_of (unhide BT8) 0 _ rfl
  have ttt1 := cell_of (unhide BT8) 1 _ rfl
  have tttl := lt_of_block (unhide BT8)
  have CC := hide ((unhide HRB) w8 (unhide HB8))
  go_wp2_with fail
  refine (unhide CC).mono ?_
  rintro e w9 ⟨rfl, hb9⟩
  have HB9 := hide (bel_on (unhide HB8) hb9)
  have BT9 := hide ((hb9.block _ (lt_of_block (unhide BT8))).trans (unhide BT8))
  have IP9 := hide ((unhide IP8).later hb9)
  have IQ9 := hide ((unhide IQ8).later hb9)
  have IR9 := hide ((unhide IR8).later hb9)
  clear hb9 CC HRB IP8 IQ8 IR8 HB8 BT8
  clear ttt0 ttt1 tttl
  have ttt0 := cell_of (unhide BT9) 0 _ rfl
  have ttt1 := cell_of (unhide BT9) 1 _ rfl
  have tttl := lt_of_block (unhide BT9)
  have HBF := HB9
  go_wp2
  go_ret
  exact ⟨rfl, unhide HBF⟩
  
set_option maxRecDepth 10000 in
set_option maxHeartbeats 12800000 in
theorem lawPaths_one (a b : Option Addr) (n c m d : Nat) (N : List Int) (T : List BlkD) (s t : Int) (w : World) (hN : IntsAt w a n N) (hT : BlksAt w b m T) (sN : SlOk a n c) (sT : SlOk b m d) (hY : chkTr N T = 0) (hs : s = 0 ∨ s ∈ N) (ht : ¬ (t = 0 ∨ t ∈ N)) :
    Calls Try.prog 4 #[.agg #[.slice a n c, .slice b m d], .int .i64 s, .int .i64 t] w fun e w' => e = .returned (.bool true) ∧ Below w.heap.size w w' := by
  obtain ⟨P, hPP⟩ : ∃ P, pthD N T s = P := ⟨_, rfl⟩
  obtain ⟨pn, hpn⟩ : ∃ pn, P.length = pn := ⟨_, rfl⟩
  have hP := pathE_in hY hs
  obtain ⟨wv, hwv⟩ : ∃ wv, wrkD N T s = wv := ⟨_, rfl⟩
  have hW : workE N T s = (wv, 0) := by rw [workE_of hP, if_neg (by decide), ← hwv]; rfl
  have hB := bstD_ok hY
  obtain ⟨bb, hbb⟩ : ∃ bb, bstGo N T 0 0 N = bb := ⟨_, rfl⟩
  rw [hbb] at hB
  have hF : forkE N T s t = (0, 5) := by rw [forkE_of hP (pathE_out hY ht), if_neg (by decide), if_pos (by decide)]
  have hQ1 : (if s = 0 ∨ s ∈ N then (pthD N T s, true) else (([] : List Int), false)) = (P, true) := by rw [if_pos hs, hPP]
  rw [hPP] at hP
  have hok := TrOk.of hY
  obtain ⟨hl, h24, hH, _⟩ := chkTr_ok hY
  obtain rfl : n = m := by rw [← hN.1, ← hT.1, hl]
  have hn24 : n ≤ 24 := by rw [← hN.1]; exact h24
  have hnm : n ≤ maxLen := sN.len
  have hpl : pn ≤ 1000 := by rw [← hpn, ← hPP]; exact pth_len hH s
  have hQ2 : (if t = 0 ∨ t ∈ N then (pthD N T t, true) else (([] : List Int), false)) = ([], false) := if_neg ht
  obtain ⟨X, hX⟩ : ∃ X, X = w.alloc (.cells #[.slice a n c, .slice b n d] 25) := ⟨_, rfl⟩
  have hbX : Below w.heap.size w X := by rw [hX]; exact bel_new _ _
  have hX0 : X.heap[w.heap.size]? = some (.cells [.slice a n c, .slice b n d].toArray 25 (0, 0)) := by rw [hX]; exact two_heap _ _ _ _
  have C1 := hide (path_is a b n c n d N T s P pn 0 X (hN.later hbX) (hT.later hbX) sN sT hP hpn)
  have C2 := hide (fun W (hb : Below w.heap.size w W) => work_is a b n c n d N T s wv 0 W (hN.later hb) (hT.later hb) sN sT hW)
  have C3 := hide (fun W (hb : Below w.heap.size w W) => fork_is a b n c n d N T s t 0 5 W (hN.later hb) (hT.later hb) sN sT hF)
  have C4 := hide (fun W (hb : Below w.heap.size w W) => best_is a b n c n d N T bb 0 W (hN.later hb) (hT.later hb) sN sT hB)
  have C5 := hide (fun W (hb : Below w.heap.size w W) => rchkTree_any a b n c n d N T 0 W (hN.later hb) (hT.later hb) sN sT hY)
  have C6 := hide grown_yes
  have HB0 := hide hbX
  have BT0 := hide hX0
  clear hP hW hF hB
  have ttt0 := cell_of (unhide BT0) 0 _ rfl
  have ttt1 := cell_of (unhide BT0) 1 _ rfl
  have tttl := lt_of_block (unhide BT0)
  have HRB := hide (fun W (hb : Below w.heap.size w W) => rbest_is a b n c d N T bb W hok hn24 (hN.later hb) (hT.later hb) sN hbb)
  have HR1 := hide (fun W (hb : Below w.heap.size w W) => rpath_any a b n c d N T s P true pn W hok hnm (hN.later hb) (hT.later hb) hQ1 hpn)
  have HRW := hide (fun W (hb : Below w.heap.size w W) => rwork_is a b n c d N T s wv W hok hn24 (hN.later hb) (hT.later hb) hs hwv)
  have gbb : (bb != bb) = false := by simp
  have gww : (wv != wv) = false := by simp
  have HR2 := hide (fun W (hb : Below w.heap.size w W) => rpath_any a b n c d N T t [] false 0 W hok hnm (hN.later hb) (hT.later hb) hQ2 rfl)
  clear hN hT sN sT hbX hX0 hY hs ht hok hl h24 hH hn24 hnm hQ1 hQ2 hpn hbb hPP hwv
  go_enter Try.func4, Try.ntmps4
  go_wp2_with fail
  rw [← hX]
  clear hX
  refine (unhide C1).mono ?_
  rintro e w1 ⟨v1, rfl, ho1, hb1⟩
  obtain ⟨pa, pc, rfl, sp, hp⟩ := ints_of_own ho1
  have IP1 := hide hp
  have SP := hide sp
  have HB1 := hide (bel_on (unhide HB0) hb1)
  have BT1 := hide ((hb1.block _ (lt_of_block (unhide BT0))).trans (unhide BT0))
  clear ho1 hp sp hb1 C1
  clear ttt0 ttt1 tttl
  have ttt0 := cell_of (unhide BT1) 0 _ rfl
  have ttt1 := cell_of (unhide BT1) 1 _ rfl
  have tttl := lt_of_block (unhide BT1)
  have CC := hide ((unhide C2) w1 (unhide HB1))
  go_wp2_with fail
  refine (unhide CC).mono ?_
  rintro e w2 ⟨rfl, hb2⟩
  have HB2 := hide (bel_on (unhide HB1) hb2)
  have BT2 := hide ((hb2.block _ (lt_of_block (unhide BT1))).trans (unhide BT1))
  have IP2 := hide ((unhide IP1).later hb2)
  clear hb2 CC C2 IP1 HB1 BT1
  clear ttt0 ttt1 tttl
  have ttt0 := cell_of (unhide BT2) 0 _ rfl
  have ttt1 := cell_of (unhide BT2) 1 _ rfl
  have tttl := lt_of_block (unhide BT2)
  have CC := hide ((unhide C3) w2 (unhide HB2))
  go_wp2_with fail
  refine (unhide CC).mono ?_
  rintro e w3 ⟨rfl, hb3⟩
  have HB3 := hide (bel_on (unhide HB2) hb3)
  have BT3 := hide ((hb3.block _ (lt_of_block (unhide BT2))).trans (unhide BT2))
  have IP3 := hide ((unhide IP2).later hb3)
  clear hb3 CC C3 IP2 HB2 BT2
  clear ttt0 ttt1 tttl
  have ttt0 := cell_of (unhide BT3) 0 _ rfl
  have ttt1 := cell_of (unhide BT3) 1 _ rfl
  have tttl := lt_of_block (unhide BT3)
  have CC := hide ((unhide C4) w3 (unhide HB3))
  go_wp2_with fail
  refine (unhide CC).mono ?_
  rintro e w4 ⟨rfl, hb4⟩
  have HB4 := hide (bel_on (unhide HB3) hb4)
  have BT4 := hide ((hb4.block _ (lt_of_block (unhide BT3))).trans (unhide BT3))
  have IP4 := hide ((unhide IP3).later hb4)
  clear hb4 CC C4 IP3 HB3 BT3
  clear ttt0 ttt1 tttl
  have ttt0 := cell_of (unhide BT4) 0 _ rfl
  have ttt1 := cell_of (unhide BT4) 1 _ rfl
  have tttl := lt_of_block (unhide BT4)
  have CC := hide ((unhide C5) w4 (unhide HB4))
  go_wp2_with fail
  refine (unhide CC).mono ?_
  rintro e w5 ⟨rfl, hb5⟩
  have HB5 := hide (bel_on (unhide HB4) hb5)
  have BT5 := hide ((hb5.block _ (lt_of_block (unhide BT4))).trans (unhide BT4))
  have IP5 := hide ((unhide IP4).later hb5)
  clear hb5 CC C5 IP4 HB4 BT4
  clear ttt0 ttt1 tttl
  have ttt0 := cell_of (unhide BT5) 0 _ rfl
  have ttt1 := cell_of (unhide BT5) 1 _ rfl
  have tttl := lt_of_block (unhide BT5)
  go_wp2_with fail
  refine ((unhide C6) _).mono ?_
  rintro e w6 ⟨rfl, hb6⟩
  have HB6 := hide (bel_on (unhide HB5) hb6)
  have BT6 := hide ((hb6.block _ (lt_of_block (unhide BT5))).trans (unhide BT5))
  have IP6 := hide ((unhide IP5).later hb6)
  clear hb6 IP5 HB5 BT5
  clear ttt0 ttt1 tttl
  have ttt0 := cell_of (unhide BT6) 0 _ rfl
  have ttt1 := cell_of (unhide BT6) 1 _ rfl
  have tttl := lt_of_block (unhide BT6)
  have CC := hide ((unhide HR1) w6 (unhide HB6))
  go_wp2_with fail
  refine (unhide CC).mono ?_
  rintro e w7 ⟨v7, rfl, ho7, hb7⟩
  obtain ⟨qa, qc, rfl, sq, hq⟩ := ints_of_own ho7
  have IQ7 := hide hq
  have SQ := hide sq
  have HB7 := hide (bel_on (unhide HB6) hb7)
  have BT7 := hide ((hb7.block _ (lt_of_block (unhide BT6))).trans (unhide BT6))
  have IP7 := hide ((unhide IP6).later hb7)
  clear ho7 hq sq hb7 CC HR1 IP6 HB6 BT6
  clear ttt0 ttt1 tttl
  have ttt0 := cell_of (unhide BT7) 0 _ rfl
  have ttt1 := cell_of (unhide BT7) 1 _ rfl
  have tttl := lt_of_block (unhide BT7)
  have CC := hide ((unhide HR2) w7 (unhide HB7))
  go_wp2_with fail
  refine (unhide CC).mono ?_
  rintro e w8 ⟨v8, rfl, ho8, hb8⟩
  obtain ⟨ra, rc, rfl, sr, hr⟩ := ints_of_own ho8
  have IR8 := hide hr
  have SR := hide sr
  have HB8 := hide (bel_on (unhide HB7) hb8)
  have BT8 := hide ((hb8.block _ (lt_of_block (unhide BT7))).trans (unhide BT7))
  have IP8 := hide ((unhide IP7).later hb8)
  have IQ8 := hide ((unhide IQ7).later hb8)
  clear ho8 hr sr hb8 CC HR2 IP7 IQ7 HB7 BT7
  clear ttt0 ttt1 tttl
  have ttt0 := cell_of (unhide BT8) 0 _ rfl
  have ttt1 := cell_of (unhide BT8) 1 _ rfl
  have tttl := lt_of_block (unhide BT8)
  have CC := hide ((unhide HRB) w8 (unhide HB8))
  go_wp2_with fail
  refine (unhide CC).mono ?_
  rintro e w9 ⟨rfl, hb9⟩
  have HB9 := hide (bel_on (unhide HB8) hb9)
  have BT9 := hide ((hb9.block _ (lt_of_block (unhide BT8))).trans (unhide BT8))
  have IP9 := hide ((unhide IP8).later hb9)
  have IQ9 := hide ((unhide IQ8).later hb9)
  have IR9 := hide ((unhide IR8).later hb9)
  clear hb9 CC HRB IP8 IQ8 IR8 HB8 BT8
  clear ttt0 ttt1 tttl
  have ttt0 := cell_of (unhide BT9) 0 _ rfl
  have ttt1 := cell_of (unhide BT9) 1 _ rfl
  have tttl := lt_of_block (unhide BT9)
  have CC := hide (eqInt_is pa qa pn pn pc qc P P true w9 (by unfold maxLen; omega) (unhide IP9) (unhide IQ9) (by simp))
  go_wp2_with fail
  refine (unhide CC).mono ?_
  rintro e w10 ⟨rfl, hb10⟩
  have HB10 := hide (bel_on (unhide HB9) hb10)
  have BT10 := hide ((hb10.block _ (lt_of_block (unhide BT9))).trans (unhide BT9))
  have IQ10 := hide ((unhide IQ9).later hb10)
  have IR10 := hide ((unhide IR9).later hb10)
  clear hb10 CC IP9 IQ9 IR9 HB9 BT9
  clear ttt0 ttt1 tttl
  have ttt0 := cell_of (unhide BT10) 0 _ rfl
  have ttt1 := cell_of (unhide BT10) 1 _ rfl
  have tttl := lt_of_block (unhide BT10)
  have CC := hide ((unhide HRW) w10 (unhide HB10))
  go_wp2_with fail
  refine (unhide CC).mono ?_
  rintro e w11 ⟨rfl, hb11⟩
  have HB11 := hide (bel_on (unhide HB10) hb11)
  have BT11 := hide ((hb11.block _ (lt_of_block (unhide BT10))).trans (unhide BT10))
  have IQ11 := hide ((unhide IQ10).later hb11)
  have IR11 := hide ((unhide IR10).later hb11)
  clear hb11 CC HRW IQ10 IR10 HB10 BT10 BT11
  clear ttt0 ttt1 tttl
  have HBF := HB11
  go_wp2
  go_ret
  exact ⟨rfl, unhide HBF⟩
  
set_option maxRecDepth 10000 in
set_option maxHeartbeats 12800000 in
theorem lawPaths_two (a b : Option Addr) (n c m d : Nat) (N : List Int) (T : List BlkD) (s t : Int) (w : World) (hN : IntsAt w a n N) (hT : BlksAt w b m T) (sN : SlOk a n c) (sT : SlOk b m d) (hY : chkTr N T = 0) (hs : s = 0 ∨ s ∈ N) (ht : t = 0 ∨ t ∈ N) :
    Calls Try.prog 4 #[.agg #[.slice a n c, .slice b m d], .int .i64 s, .int .i64 t] w fun e w' => e = .returned (.bool true) ∧ Below w.heap.size w w' := by
  obtain ⟨P, hPP⟩ : ∃ P, pthD N T s = P := ⟨_, rfl⟩
  obtain ⟨pn, hpn⟩ : ∃ pn, P.length = pn := ⟨_, rfl⟩
  have hP := pathE_in hY hs
  obtain ⟨wv, hwv⟩ : ∃ wv, wrkD N T s = wv := ⟨_, rfl⟩
  have hW : workE N T s = (wv, 0) := by rw [workE_of hP, if_neg (by decide), ← hwv]; rfl
  have hB := bstD_ok hY
  obtain ⟨bb, hbb⟩ : ∃ bb, bstGo N T 0 0 N = bb := ⟨_, rfl⟩
  rw [hbb] at hB
  obtain ⟨kv, hkv⟩ : ∃ kv, frkGo 0 (pthD N T s) (pthD N T t) = kv := ⟨_, rfl⟩
  have hF : forkE N T s t = (kv, 0) := by rw [forkE_of hP (pathE_in hY ht), if_neg (by decide), if_neg (by decide), hkv]
  have hQ1 : (if s = 0 ∨ s ∈ N then (pthD N T s, true) else (([] : List Int), false)) = (P, true) := by rw [if_pos hs, hPP]
  rw [hPP] at hP
  have hok := TrOk.of hY
  obtain ⟨hl, h24, hH, _⟩ := chkTr_ok hY
  obtain rfl : n = m := by rw [← hN.1, ← hT.1, hl]
  have hn24 : n ≤ 24 := by rw [← hN.1]; exact h24
  have hnm : n ≤ maxLen := sN.len
  have hpl : pn ≤ 1000 := by rw [← hpn, ← hPP]; exact pth_len hH s
  obtain ⟨P2, hP2⟩ : ∃ P2, pthD N T t = P2 := ⟨_, rfl⟩
  obtain ⟨n2, hn2⟩ : ∃ n2, P2.length = n2 := ⟨_, rfl⟩
  have hpl2 : n2 ≤ 1000 := by rw [← hn2, ← hP2]; exact pth_len hH t
  have hQ2 : (if t = 0 ∨ t ∈ N then (pthD N T t, true) else (([] : List Int), false)) = (P2, true) := by rw [if_pos ht, hP2]
  have HL : Hid (lastGo P2 0 (P.drop 0) = kv) := by show _ = _; rw [← hkv, ← hok.fork_last hs ht, hPP, hP2]; rfl
  have HZP := hide hpn
  obtain ⟨X, hX⟩ : ∃ X, X = w.alloc (.cells #[.slice a n c, .slice b n d] 25) := ⟨_, rfl⟩
  have hbX : Below w.heap.size w X := by rw [hX]; exact bel_new _ _
  have hX0 : X.heap[w.heap.size]? = some (.cells [.slice a n c, .slice b n d].toArray 25 (0, 0)) := by rw [hX]; exact two_heap _ _ _ _
  have C1 := hide (path_is a b n c n d N T s P pn 0 X (hN.later hbX) (hT.later hbX) sN sT hP hpn)
  have C2 := hide (fun W (hb : Below w.heap.size w W) => work_is a b n c n d N T s wv 0 W (hN.later hb) (hT.later hb) sN sT hW)
  have C3 := hide (fun W (hb : Below w.heap.size w W) => fork_is a b n c n d N T s t kv 0 W (hN.later hb) (hT.later hb) sN sT hF)
  have C4 := hide (fun W (hb : Below w.heap.size w W) => best_is a b n c n d N T bb 0 W (hN.later hb) (hT.later hb) sN sT hB)
  have C5 := hide (fun W (hb : Below w.heap.size w W) => rchkTree_any a b n c n d N T 0 W (hN.later hb) (hT.later hb) sN sT hY)
  have C6 := hide grown_yes
  have HB0 := hide hbX
  have BT0 := hide hX0
  clear hP hW hF hB
  have ttt0 := cell_of (unhide BT0) 0 _ rfl
  have ttt1 := cell_of (unhide BT0) 1 _ rfl
  have tttl := lt_of_block (unhide BT0)
  have HRB := hide (fun W (hb : Below w.heap.size w W) => rbest_is a b n c d N T bb W hok hn24 (hN.later hb) (hT.later hb) sN hbb)
  have HR1 := hide (fun W (hb : Below w.heap.size w W) => rpath_any a b n c d N T s P true pn W hok hnm (hN.later hb) (hT.later hb) hQ1 hpn)
  have HRW := hide (fun W (hb : Below w.heap.size w W) => rwork_is a b n c d N T s wv W hok hn24 (hN.later hb) (hT.later hb) hs hwv)
  have gbb : (bb != bb) = false := by simp
  have gww : (wv != wv) = false := by simp
  have HR2 := hide (fun W (hb : Below w.heap.size w W) => rpath_any a b n c d N T t P2 true n2 W hok hnm (hN.later hb) (hT.later hb) hQ2 hn2)
  clear hN hT sN sT hbX hX0 hY hs ht hok hl h24 hH hn24 hnm hQ1 hQ2 hpn hn2 hbb hPP hP2 hwv hkv
  go_enter Try.func4, Try.ntmps4
  go_wp2_with fail
  rw [← hX]
  clear hX
  refine (unhide C1).mono ?_
  rintro e w1 ⟨v1, rfl, ho1, hb1⟩
  obtain ⟨pa, pc, rfl, sp, hp⟩ := ints_of_own ho1
  have IP1 := hide hp
  have SP := hide sp
  have HB1 := hide (bel_on (unhide HB0) hb1)
  have BT1 := hide ((hb1.block _ (lt_of_block (unhide BT0))).trans (unhide BT0))
  clear ho1 hp sp hb1 C1
  clear ttt0 ttt1 tttl
  have ttt0 := cell_of (unhide BT1) 0 _ rfl
  have ttt1 := cell_of (unhide BT1) 1 _ rfl
  have tttl := lt_of_block (unhide BT1)
  have CC := hide ((unhide C2) w1 (unhide HB1))
  go_wp2_with fail
  refine (unhide CC).mono ?_
  rintro e w2 ⟨rfl, hb2⟩
  have HB2 := hide (bel_on (unhide HB1) hb2)
  have BT2 := hide ((hb2.block _ (lt_of_block (unhide BT1))).trans (unhide BT1))
  have IP2 := hide ((unhide IP1).later hb2)
  clear hb2 CC C2 IP1 HB1 BT1
  clear ttt0 ttt1 tttl
  have ttt0 := cell_of (unhide BT2) 0 _ rfl
  have ttt1 := cell_of (unhide BT2) 1 _ rfl
  have tttl := lt_of_block (unhide BT2)
  have CC := hide ((unhide C3) w2 (unhide HB2))
  go_wp2_with fail
  refine (unhide CC).mono ?_
  rintro e w3 ⟨rfl, hb3⟩
  have HB3 := hide (bel_on (unhide HB2) hb3)
  have BT3 := hide ((hb3.block _ (lt_of_block (unhide BT2))).trans (unhide BT2))
  have IP3 := hide ((unhide IP2).later hb3)
  clear hb3 CC C3 IP2 HB2 BT2
  clear ttt0 ttt1 tttl
  have ttt0 := cell_of (unhide BT3) 0 _ rfl
  have ttt1 := cell_of (unhide BT3) 1 _ rfl
  have tttl := lt_of_block (unhide BT3)
  have CC := hide ((unhide C4) w3 (unhide HB3))
  go_wp2_with fail
  refine (unhide CC).mono ?_
  rintro e w4 ⟨rfl, hb4⟩
  have HB4 := hide (bel_on (unhide HB3) hb4)
  have BT4 := hide ((hb4.block _ (lt_of_block (unhide BT3))).trans (unhide BT3))
  have IP4 := hide ((unhide IP3).later hb4)
  clear hb4 CC C4 IP3 HB3 BT3
  clear ttt0 ttt1 tttl
  have ttt0 := cell_of (unhide BT4) 0 _ rfl
  have ttt1 := cell_of (unhide BT4) 1 _ rfl
  have tttl := lt_of_block (unhide BT4)
  have CC := hide ((unhide C5) w4 (unhide HB4))
  go_wp2_with fail
  refine (unhide CC).mono ?_
  rintro e w5 ⟨rfl, hb5⟩
  have HB5 := hide (bel_on (unhide HB4) hb5)
  have BT5 := hide ((hb5.block _ (lt_of_block (unhide BT4))).trans (unhide BT4))
  have IP5 := hide ((unhide IP4).later hb5)
  clear hb5 CC C5 IP4 HB4 BT4
  clear ttt0 ttt1 tttl
  have ttt0 := cell_of (unhide BT5) 0 _ rfl
  have ttt1 := cell_of (unhide BT5) 1 _ rfl
  have tttl := lt_of_block (unhide BT5)
  go_wp2_with fail
  refine ((unhide C6) _).mono ?_
  rintro e w6 ⟨rfl, hb6⟩
  have HB6 := hide (bel_on (unhide HB5) hb6)
  have BT6 := hide ((hb6.block _ (lt_of_block (unhide BT5))).trans (unhide BT5))
  have IP6 := hide ((unhide IP5).later hb6)
  clear hb6 IP5 HB5 BT5
  clear ttt0 ttt1 tttl
  have ttt0 := cell_of (unhide BT6) 0 _ rfl
  have ttt1 := cell_of (unhide BT6) 1 _ rfl
  have tttl := lt_of_block (unhide BT6)
  have CC := hide ((unhide HR1) w6 (unhide HB6))
  go_wp2_with fail
  refine (unhide CC).mono ?_
  rintro e w7 ⟨v7, rfl, ho7, hb7⟩
  obtain ⟨qa, qc, rfl, sq, hq⟩ := ints_of_own ho7
  have IQ7 := hide hq
  have SQ := hide sq
  have HB7 := hide (bel_on (unhide HB6) hb7)
  have BT7 := hide ((hb7.block _ (lt_of_block (unhide BT6))).trans (unhide BT6))
  have IP7 := hide ((unhide IP6).later hb7)
  clear ho7 hq sq hb7 CC HR1 IP6 HB6 BT6
  clear ttt0 ttt1 tttl
  have ttt0 := cell_of (unhide BT7) 0 _ rfl
  have ttt1 := cell_of (unhide BT7) 1 _ rfl
  have tttl := lt_of_block (unhide BT7)
  have CC := hide ((unhide HR2) w7 (unhide HB7))
  go_wp2_with fail
  refine (unhide CC).mono ?_
  rintro e w8 ⟨v8, rfl, ho8, hb8⟩
  obtain ⟨ra, rc, rfl, sr, hr⟩ := ints_of_own ho8
  have IR8 := hide hr
  have SR := hide sr
  have HB8 := hide (bel_on (unhide HB7) hb8)
  have BT8 := hide ((hb8.block _ (lt_of_block (unhide BT7))).trans (unhide BT7))
  have IP8 := hide ((unhide IP7).later hb8)
  have IQ8 := hide ((unhide IQ7).later hb8)
  clear ho8 hr sr hb8 CC HR2 IP7 IQ7 HB7 BT7
  clear ttt0 ttt1 tttl
  have ttt0 := cell_of (unhide BT8) 0 _ rfl
  have ttt1 := cell_of (unhide BT8) 1 _ rfl
  have tttl := lt_of_block (unhide BT8)
  have CC := hide ((unhide HRB) w8 (unhide HB8))
  go_wp2_with fail
  refine (unhide CC).mono ?_
  rintro e w9 ⟨rfl, hb9⟩
  have HB9 := hide (bel_on (unhide HB8) hb9)
  have BT9 := hide ((hb9.block _ (lt_of_block (unhide BT8))).trans (unhide BT8))
  have IP9 := hide ((unhide IP8).later hb9)
  have IQ9 := hide ((unhide IQ8).later hb9)
  have IR9 := hide ((unhide IR8).later hb9)
  clear hb9 CC HRB IP8 IQ8 IR8 HB8 BT8
  clear ttt0 ttt1 tttl
  have ttt0 := cell_of (unhide BT9) 0 _ rfl
  have ttt1 := cell_of (unhide BT9) 1 _ rfl
  have tttl := lt_of_block (unhide BT9)
  have CC := hide (eqInt_is pa qa pn pn pc qc P P true w9 (by unfold maxLen; omega) (unhide IP9) (unhide IQ9) (by simp))
  go_wp2_with fail
  refine (unhide CC).mono ?_
  rintro e w10 ⟨rfl, hb10⟩
  have HB10 := hide (bel_on (unhide HB9) hb10)
  have BT10 := hide ((hb10.block _ (lt_of_block (unhide BT9))).trans (unhide BT9))
  have IQ10 := hide ((unhide IQ9).later hb10)
  have IR10 := hide ((unhide IR9).later hb10)
  clear hb10 CC IP9 IQ9 IR9 HB9 BT9
  clear ttt0 ttt1 tttl
  have ttt0 := cell_of (unhide BT10) 0 _ rfl
  have ttt1 := cell_of (unhide BT10) 1 _ rfl
  have tttl := lt_of_block (unhide BT10)
  have CC := hide ((unhide HRW) w10 (unhide HB10))
  go_wp2_with fail
  refine (unhide CC).mono ?_
  rintro e w11 ⟨rfl, hb11⟩
  have HB11 := hide (bel_on (unhide HB10) hb11)
  have BT11 := hide ((hb11.block _ (lt_of_block (unhide BT10))).trans (unhide BT10))
  have IQ11 := hide ((unhide IQ10).later hb11)
  have IR11 := hide ((unhide IR10).later hb11)
  clear hb11 CC HRW IQ10 IR10 HB10 BT10 BT11
  clear ttt0 ttt1 tttl
  go_wp2
  go_loopw [20, 167] (fun lv i wr => ∃ (k : Nat) (l : Int), k ≤ pn ∧ lv = .int .i64 l ∧ i = .int .i64 k ∧ Hid (lastGo P2 l (P.drop k) = kv) ∧ Hid (wr = w11)) (fun _ i _ => pn - (intOf i).toNat)
  case atStart => exact ⟨0, 0, Nat.zero_le _, rfl, rfl, HL, (rfl : w11 = w11)⟩
  case round =>
    obtain ⟨k, l, hk, rfl, rfl, A, HW⟩ := hrel
    obtain rfl := unhide HW
    clear HL HW
    by_cases hlt : k < pn
    · have h1 : k < P.length := by rw [unhide HZP]; exact hlt
      obtain ⟨b1, off1, rfl, hl1, hcc1⟩ := (unhide IQ11).2 (by omega)
      have fff := hcc1 k h1
      have AT := hide (lastGo_at P2 l P k h1)
      obtain ⟨y, hy⟩ : ∃ y, P[k] = y := ⟨_, rfl⟩
      obtain ⟨o, ho⟩ : ∃ o, decide (y ∈ P2) = o := ⟨_, rfl⟩
      rw [hy] at fff AT
      rw [ho] at AT
      have CC := hide (containsInt_is ra n2 rc P2 y o wr (by unfold maxLen; omega) (unhide IR11) ho)
      have hkI : (k : Int) < (pn : Int) := by omega
      clear hcc1 hy ho
      cases o with
      | true =>
        have R : Hid (lastGo P2 y (P.drop (k + 1)) = kv) := by
          show _ = _
          have := unhide AT
          rw [if_pos rfl] at this
          rw [← unhide A, this]
        clear A AT
        go_wp2_with fail
        refine (unhide CC).mono ?_
        rintro r w5 ⟨rfl, rfl⟩
        go_wp2
        go_roundw
        case rel => exact ⟨k + 1, y, by omega, rfl, by go_num, R, by first | exact rfl | exact trivial⟩
        case measure => simp [intOf]; omega
      | false =>
        have R : Hid (lastGo P2 l (P.drop (k + 1)) = kv) := by
          show _ = _
          have := unhide AT
          rw [if_neg (by decide)] at this
          rw [← unhide A, this]
        clear A AT
        go_wp2_with fail
        refine (unhide CC).mono ?_
        rintro r w5 ⟨rfl, rfl⟩
        go_wp2
        go_roundw
        case rel => exact ⟨k + 1, l, by omega, rfl, by go_num, R, by first | exact rfl | exact trivial⟩
        case measure => simp [intOf]; omega
    · have R : Hid (l = kv) := by show _ = _; rw [← unhide A, lastGo_end P2 l P k (by rw [unhide HZP]; omega)]
      have g2 : (kv == l) = true := by rw [unhide R]; simp
      have HBF := HB11
      clear A
      go_wp2
      go_ret
      exact ⟨rfl, unhide HBF⟩

theorem lawPaths_is (a b : Option Addr) (n c m d : Nat) (N : List Int) (T : List BlkD) (s t : Int) (w : World) (hN : IntsAt w a n N) (hT : BlksAt w b m T) (sN : SlOk a n c) (sT : SlOk b m d) :
    Calls Try.prog 4 #[.agg #[.slice a n c, .slice b m d], .int .i64 s, .int .i64 t] w fun e w' => e = .returned (.bool true) ∧ Below w.heap.size w w' := by
  by_cases hY : chkTr N T = 0
  · by_cases hs : s = 0 ∨ s ∈ N
    · by_cases ht : t = 0 ∨ t ∈ N
      · exact lawPaths_two a b n c m d N T s t w hN hT sN sT hY hs ht
      · exact lawPaths_one a b n c m d N T s t w hN hT sN sT hY hs ht
    · exact lawPaths_out a b n c m d N T s t w hN hT sN sT hY hs
  · exact lawPaths_bad a b n c m d N T s t _ w hN hT sN sT rfl hY

end Go.Proofs.Ytklekpbladmjhaa
