/- Contracts of what checks coins. -/
import Derived.Test.YtepmnpapdknocaaGreatDoorCoinCmp
import Derived.Test.YtepmnpapdknocaaGreatDoorTxCheck
namespace Go.Proofs.YtepmnpapdknocaaGreatDoor
open Go.RowKit

set_option maxHeartbeats 400000 in
theorem uisHeight_is (h : Int) (b : Bool) (w : World) (hb : okH h = b) :
    Calls Tryz.prog 110 #[.int .i64 h] w fun e w' => e = .returned (.bool b) ∧ w = w' := by
  have C := hide (within_is h 1 1000 b w (by rw [← hb]; rfl))
  clear hb
  go_enter Tryz.func110, Tryz.ntmps110
  go_wp2_with fail
  refine (unhide C).mono ?_
  rintro e w' ⟨rfl, rfl⟩
  go_wp2
  go_ret
  exact ⟨rfl, rfl⟩

theorem lockChk_at (a : Option Addr) (len cap : Nat) (l : List (Int × Int)) (x : Int) (w : World) (hx : chk l = x) (h : OpsAt w a len l) :
    Calls Tryz.prog 138 #[.slice a len cap] w fun e w' => e = .returned (.int .i64 x) ∧ Below w.heap.size w w' := by
  subst hx; exact check_any a len cap l w h

set_option maxRecDepth 10000 in
set_option maxHeartbeats 1600000 in
theorem checkCoin_is (x : CoinD) (a : Option Addr) (n c : Nat) (z : Int) (w : World) (hO : OpsAt w a n (ck x)) (hz : ck1 x = z) :
    Calls Tryz.prog 108 #[cnV x a n c] w fun e w' => e = .returned (.int .i64 z) ∧ Below w.heap.size w w' := by
  obtain ⟨x1, x2, x3, k, x4, x5⟩ := x
  unfold cnV
  simp only [cv, ck, ch, cr] at hO ⊢
  obtain ⟨X, hX⟩ : ∃ X, X = w.alloc (.cells #[.int .i64 x1, .int .i64 x2, .int .i64 x3, .slice a n c, .int .i64 x4, .bool x5] 88) := ⟨_, rfl⟩
  obtain ⟨n0, n1, n2, n3, n4, n5⟩ := six_new w (.int .i64 x1) (.int .i64 x2) (.int .i64 x3) (.slice a n c) (.int .i64 x4) (.bool x5) 88
  rw [← hX] at n0 n1 n2 n3 n4 n5
  have hb : Below w.heap.size w X := by rw [hX]; exact bel_new _ _
  have HB := hide hb
  have HO := hide (hO.later hb)
  have N2 := hide n2
  have N3 := hide n3
  have N4 := hide n4
  clear hO hb n5
  cases hp : okPt (x1, x2) with
  | false =>
    have e : z = 3 := by rw [← hz]; unfold ck1; rw [if_pos (by unfold okC pt; rw [hp]; rfl)]
    subst e
    have C1 := hide (isPoint_is x1 x2 false X hp)
    clear hp hz
    go_enter Tryz.func108, Tryz.ntmps108
    go_wp2_with fail
    rw [← hX]
    clear hX
    go_wp2_with fail
    refine (unhide C1).mono ?_
    rintro e w2 ⟨rfl, hb2⟩
    have HB2 := hide (bel_on (unhide HB) hb2)
    clear hb2
    go_wp2
    go_ret
    exact ⟨rfl, unhide HB2⟩
  | true =>
    have C1 := hide (isPoint_is x1 x2 true X hp)
    cases hv : okV x3 with
    | false =>
      have e : z = 3 := by rw [← hz]; unfold ck1; rw [if_pos (by unfold okC pt; rw [hp]; simp only [cv]; rw [hv]; rfl)]
      subst e
      have C2 := hide (fun w => within_is x3 1 1000000000 false w (by rw [← hv]; rfl))
      clear hp hz hv
      go_enter Tryz.func108, Tryz.ntmps108
      go_wp2_with fail
      rw [← hX]
      clear hX
      go_wp2_with fail
      refine (unhide C1).mono ?_
      rintro e w2 ⟨rfl, hb2⟩
      have m2 := cell_later hb2 (unhide N2)
      have hs2 : w.heap.size < w2.heap.size := World.block_lt_of_cell? _ _ m2
      have HB2 := hide (bel_on (unhide HB) hb2)
      clear hb2
      go_wp2_with fail
      refine ((unhide C2) _).mono ?_
      rintro e w3 ⟨rfl, rfl⟩
      go_wp2
      go_ret
      exact ⟨rfl, unhide HB2⟩
    | true =>
      have C2 := hide (fun w => within_is x3 1 1000000000 true w (by rw [← hv]; rfl))
      cases hh : okH x4 with
      | false =>
        have e : z = 3 := by rw [← hz]; unfold ck1; rw [if_pos (by unfold okC pt; rw [hp]; simp only [cv, ch]; rw [hv, hh]; rfl)]
        subst e
        have C3 := hide (fun w => uisHeight_is x4 false w hh)
        clear hp hz hv hh
        go_enter Tryz.func108, Tryz.ntmps108
        go_wp2_with fail
        rw [← hX]
        clear hX
        go_wp2_with fail
        refine (unhide C1).mono ?_
        rintro e w2 ⟨rfl, hb2⟩
        have m2 := cell_later hb2 (unhide N2)
        have m4 := cell_later hb2 (unhide N4)
        have hs2 : w.heap.size < w2.heap.size := World.block_lt_of_cell? _ _ m2
        have HB2 := hide (bel_on (unhide HB) hb2)
        clear hb2
        go_wp2_with fail
        refine ((unhide C2) _).mono ?_
        rintro e w3 ⟨rfl, rfl⟩
        go_wp2_with fail
        refine ((unhide C3) _).mono ?_
        rintro e w3 ⟨rfl, rfl⟩
        go_wp2
        go_ret
        exact ⟨rfl, unhide HB2⟩
      | true =>
        have e : chk k = z := by rw [← hz]; unfold ck1; rw [if_neg (by unfold okC pt; rw [hp]; simp only [cv, ch]; rw [hv, hh]; decide)]; rfl
        have C3 := hide (fun w => uisHeight_is x4 true w hh)
        have E := hide e
        clear hp hz hv hh e
        go_enter Tryz.func108, Tryz.ntmps108
        go_wp2_with fail
        rw [← hX]
        clear hX
        go_wp2_with fail
        refine (unhide C1).mono ?_
        rintro e w2 ⟨rfl, hb2⟩
        have m2 := cell_later hb2 (unhide N2)
        have m3 := cell_later hb2 (unhide N3)
        have m4 := cell_later hb2 (unhide N4)
        have hs2 : w.heap.size < w2.heap.size := World.block_lt_of_cell? _ _ m2
        have C4 := hide (lockChk_at a n c k z w2 (unhide E) ((unhide HO).later hb2))
        have HB2 := hide (bel_on (unhide HB) hb2)
        clear hb2
        go_wp2_with fail
        refine ((unhide C2) _).mono ?_
        rintro e w3 ⟨rfl, rfl⟩
        go_wp2_with fail
        refine ((unhide C3) _).mono ?_
        rintro e w3 ⟨rfl, rfl⟩
        go_wp2_with fail
        refine (unhide C4).mono ?_
        rintro e w4 ⟨rfl, hb4⟩
        have HB4 := hide (bel_on (unhide HB2) hb4)
        clear hb4
        go_wp2
        go_ret
        exact ⟨rfl, unhide HB4⟩

end Go.Proofs.YtepmnpapdknocaaGreatDoor
