/- The contract of Opens. -/
import Derived.Test.YtepmnpapdknocaaGreatDoorLockRunC
namespace Go.Proofs.YtepmnpapdknocaaGreatDoor
open Go.RowKit

theorem check_is (a : Option Addr) (len cap : Nat) (l : List (Int × Int)) (x : Int) (w : World) (hx : chk l = x) (h : OpsAt w a len l) :
    Calls Tryz.prog 138 #[.slice a len cap] w fun e w' => e = .returned (.int .i64 x) ∧ Below w.heap.size w w' := by
  subst hx; exact check_any a len cap l w h

theorem run_is (a az : Option Addr) (len cap lens caps : Nat) (l : List (Int × Int)) (Z : List Int) (h : Int) (x : Int) (L : List Int) (w : World) (hE : runE l Z h = x) (hS : runS l Z h = L) (hO : OpsAt w a len l) (hR : RowAt w az lens Z) :
    Calls Tryz.prog 143 #[.slice a len cap, .slice az lens caps, .int .i64 h] w fun e w' => ∃ a' cap', e = .returned (.tuple #[.slice a' L.length cap', .int .i64 x]) ∧ RowAt w' a' L.length L ∧ Below w.heap.size w w' := by
  subst hE hS; exact run_any a az len cap lens caps l Z h w hO hR

theorem bel_two {w w1 w2 : World} (h1 : Below w.heap.size w w1) (h2 : Below w1.heap.size w1 w2) : Below w.heap.size w w2 := h1.trans (h2.mono h1.size)

theorem runE_nil {h : Int} (hh : hOk h = true) : (stackOk [] && hOk h) = true := by rw [hh]; rfl

theorem index_two (a b : Option Addr) (n c m d : Nat) (w : World) :
    (Instr.index 206 (.agg #[.slice a n c, .slice b m d]) (.int .i64 0)).run Tryz.prog w = .ok (.slice a n c) w ∧
    (Instr.index 206 (.agg #[.slice a n c, .slice b m d]) (.int .i64 1)).run Tryz.prog w = .ok (.slice b m d) w := by
  constructor <;> kernel_rfl

set_option maxRecDepth 100000 in
set_option maxHeartbeats 1600000 in
theorem opens_any (a ak : Option Addr) (len cap lenk capk : Nat) (l k : List (Int × Int)) (h : Int) (w : World) (hO : OpsAt w a len l) (hK : OpsAt w ak lenk k) :
    Calls Tryz.prog 113 #[.slice a len cap, .slice ak lenk capk, .int .i64 h] w fun e w' => e = .returned (.tuple #[.bool (opensB l k h), .int .i64 (opensE l k h)]) ∧ Below w.heap.size w w' := by
  have HO := hide hO
  have HK := hide hK
  have hi0 := fun w => (index_two a ak len cap lenk capk w).1
  have hi1 := fun w => (index_two a ak len cap lenk capk w).2
  clear hO hK
  by_cases c1 : chk l = 0
  · by_cases c2 : chk k = 0
    · cases c3 : hOk h with
      | false =>
        have eE : opensE l k h = 3 := by simp [opensE, c1, c2, c3]
        have eB : opensB l k h = false := by simp [opensB, eE]
        rw [eE, eB]
        have C1 := hide c1
        have C2 := hide c2
        have C3 := hide c3
        clear c1 c2 c3 eE eB
        go_enter Tryz.func113, Tryz.ntmps113
        go_wp2
        refine wp_loop_rounds 3 ?_
        rw [rounds_succ]
        go_wp2_with fail
        refine (check_is a len cap l 0 _ (unhide C1) (unhide HO)).mono ?_
        rintro e w1 ⟨rfl, hb1⟩
        have HB1 := hide hb1
        clear hb1
        go_wp2
        rw [rounds_succ]
        go_wp2_with fail
        refine (check_is ak lenk capk k 0 _ (unhide C2) ((unhide HK).later (unhide HB1))).mono ?_
        rintro e w2 ⟨rfl, hb2⟩
        have HB2 := hide (bel_two (unhide HB1) hb2)
        clear hb2
        go_wp2
        rw [rounds_succ]
        go_wp2_with (go_at_call 142; refine (isHeight_is h false _ (unhide C3).symm).mono ?_; rintro e w' ⟨rfl, rfl⟩)
        go_ret2
        exact ⟨rfl, unhide HB2⟩
      | true =>
        have eE : opensE l k h = 0 := by simp [opensE, c1, c2, c3]
        have C1 := hide c1
        have C2 := hide c2
        have C3 := hide c3
        rw [eE]
        cases r1 : runL h k [] with
        | none =>
          have eB : opensB l k h = false := by simp [opensB, r1]
          rw [eB]
          have R1 := hide (runE_key c2 (runE_nil c3) r1)
          clear c1 c2 c3 eE eB r1
          go_enter Tryz.func113, Tryz.ntmps113
          go_wp2
          refine wp_loop_rounds 3 ?_
          rw [rounds_succ]
          go_wp2_with fail
          refine (check_is a len cap l 0 _ (unhide C1) (unhide HO)).mono ?_
          rintro e w1 ⟨rfl, hb1⟩
          have HB1 := hide hb1
          clear hb1
          go_wp2
          rw [rounds_succ]
          go_wp2_with fail
          refine (check_is ak lenk capk k 0 _ (unhide C2) ((unhide HK).later (unhide HB1))).mono ?_
          rintro e w2 ⟨rfl, hb2⟩
          have HB2 := hide (bel_two (unhide HB1) hb2)
          clear hb2
          go_wp2
          rw [rounds_succ]
          go_wp2_with (go_at_call 142; refine (isHeight_is h true _ (unhide C3).symm).mono ?_; rintro e w' ⟨rfl, rfl⟩)
          refine (run_is ak none lenk capk 0 0 k [] h 8 [] _ (unhide R1).1 (unhide R1).2 ((unhide HK).later (unhide HB2)) (RowAt.nil _ _)).mono ?_
          rintro e w3 ⟨a3, cap3, rfl, _, hb3⟩
          have HB3 := hide (bel_two (unhide HB2) hb3)
          clear hb3
          go_wp2
          go_ret2
          exact ⟨rfl, unhide HB3⟩
        | some L =>
          have sL : stackOk L = true := runL_ok (by rfl) r1
          have gL : (stackOk L && hOk h) = true := by rw [sL, c3]; rfl
          have R1 := hide (runE_fine c2 (runE_nil c3) r1)
          cases r2 : runL h l L with
          | none =>
            have eB : opensB l k h = false := by simp [opensB, r1, r2]
            rw [eB]
            have R2 := hide (runE_key c1 gL r2)
            clear c1 c2 c3 eE eB r1 r2 sL gL
            go_enter Tryz.func113, Tryz.ntmps113
            go_wp2
            refine wp_loop_rounds 3 ?_
            rw [rounds_succ]
            go_wp2_with fail
            refine (check_is a len cap l 0 _ (unhide C1) (unhide HO)).mono ?_
            rintro e w1 ⟨rfl, hb1⟩
            have HB1 := hide hb1
            clear hb1
            go_wp2
            rw [rounds_succ]
            go_wp2_with fail
            refine (check_is ak lenk capk k 0 _ (unhide C2) ((unhide HK).later (unhide HB1))).mono ?_
            rintro e w2 ⟨rfl, hb2⟩
            have HB2 := hide (bel_two (unhide HB1) hb2)
            clear hb2
            go_wp2
            rw [rounds_succ]
            go_wp2_with (go_at_call 142; refine (isHeight_is h true _ (unhide C3).symm).mono ?_; rintro e w' ⟨rfl, rfl⟩)
            refine (run_is ak none lenk capk 0 0 k [] h 0 L _ (unhide R1).1 (unhide R1).2 ((unhide HK).later (unhide HB2)) (RowAt.nil _ _)).mono ?_
            rintro e w3 ⟨a3, cap3, rfl, hrow3, hb3⟩
            have HB3 := hide (bel_two (unhide HB2) hb3)
            have HW3 := hide hrow3
            clear hb3 hrow3
            go_wp2_with fail
            refine (run_is a a3 len cap L.length cap3 l L h 8 [] _ (unhide R2).1 (unhide R2).2 ((unhide HO).later (unhide HB3)) (unhide HW3)).mono ?_
            rintro e w4 ⟨a4, cap4, rfl, _, hb4⟩
            have HB4 := hide (bel_two (unhide HB3) hb4)
            clear hb4
            go_wp2
            go_ret2
            exact ⟨rfl, unhide HB4⟩
          | some M =>
            have eB : opensB l k h = one1 M := by simp [opensB, r1, r2, eE]
            rw [eB]
            have R2 := hide (runE_fine c1 gL r2)
            clear c1 c2 c3 eE eB r1 r2 sL gL
            go_enter Tryz.func113, Tryz.ntmps113
            go_wp2
            refine wp_loop_rounds 3 ?_
            rw [rounds_succ]
            go_wp2_with fail
            refine (check_is a len cap l 0 _ (unhide C1) (unhide HO)).mono ?_
            rintro e w1 ⟨rfl, hb1⟩
            have HB1 := hide hb1
            clear hb1
            go_wp2
            rw [rounds_succ]
            go_wp2_with fail
            refine (check_is ak lenk capk k 0 _ (unhide C2) ((unhide HK).later (unhide HB1))).mono ?_
            rintro e w2 ⟨rfl, hb2⟩
            have HB2 := hide (bel_two (unhide HB1) hb2)
            clear hb2
            go_wp2
            rw [rounds_succ]
            go_wp2_with (go_at_call 142; refine (isHeight_is h true _ (unhide C3).symm).mono ?_; rintro e w' ⟨rfl, rfl⟩)
            refine (run_is ak none lenk capk 0 0 k [] h 0 L _ (unhide R1).1 (unhide R1).2 ((unhide HK).later (unhide HB2)) (RowAt.nil _ _)).mono ?_
            rintro e w3 ⟨a3, cap3, rfl, hrow3, hb3⟩
            have HB3 := hide (bel_two (unhide HB2) hb3)
            have HW3 := hide hrow3
            clear hb3 hrow3
            go_wp2_with fail
            refine (run_is a a3 len cap L.length cap3 l L h 0 M _ (unhide R2).1 (unhide R2).2 ((unhide HO).later (unhide HB3)) (unhide HW3)).mono ?_
            rintro e w4 ⟨a4, cap4, rfl, hrow4, hb4⟩
            have HB4 := hide (bel_two (unhide HB3) hb4)
            have HE : Hid (∀ b : Bool, b = one1 M → Ending.returned (.tuple #[.bool b, .int .i64 0]) = .returned (.tuple #[.bool (one1 M), .int .i64 0])) := fun b hb => by rw [hb]
            clear hb4
            by_cases m1 : M.length = 1
            · obtain ⟨y, rfl⟩ := List.length_eq_one_iff.1 m1
              obtain ⟨b4, o4, rfl, hc4⟩ := hrow4.2.2 (by simp)
              have c4 : w4.cell? ⟨b4, o4, none⟩ = some (.int .i64 y) := hc4 0 (by simp)
              have HY : Hid ((y != 0) = one1 [y]) := by simp [one1, topL, Hid]
              clear hc4 hrow4 m1
              go_wp2
              go_ret2
              exact ⟨(unhide HE) _ (unhide HY), unhide HB4⟩
            · have m2 : ((M.length : Int) == 1) = false := by simp; omega
              have HY : Hid (false = one1 M) := by simp [one1, m1, Hid]
              clear hrow4 m1
              go_wp2
              go_ret2
              exact ⟨(unhide HE) _ (unhide HY), unhide HB4⟩
    · have eE : opensE l k h = chk k := by simp [opensE, c1, c2]
      have eB : opensB l k h = false := by simp [opensB, eE, c2]
      rw [eE, eB]
      obtain ⟨x, hx⟩ : ∃ x, chk k = x := ⟨_, rfl⟩
      rw [hx] at c2 ⊢
      have g2 : (x != 0) = true := by simp [c2]
      have C1 := hide c1
      have C2 := hide hx
      clear c1 c2 hx eE eB
      go_enter Tryz.func113, Tryz.ntmps113
      go_wp2
      refine wp_loop_rounds 3 ?_
      rw [rounds_succ]
      go_wp2_with fail
      refine (check_is a len cap l 0 _ (unhide C1) (unhide HO)).mono ?_
      rintro e w1 ⟨rfl, hb1⟩
      have HB1 := hide hb1
      clear hb1
      go_wp2
      rw [rounds_succ]
      go_wp2_with fail
      refine (check_is ak lenk capk k x _ (unhide C2) ((unhide HK).later (unhide HB1))).mono ?_
      rintro e w2 ⟨rfl, hb2⟩
      have HB2 := hide (bel_two (unhide HB1) hb2)
      clear hb2
      go_wp2
      go_ret2
      exact ⟨rfl, unhide HB2⟩
  · have eE : opensE l k h = chk l := by simp [opensE, c1]
    have eB : opensB l k h = false := by simp [opensB, eE, c1]
    rw [eE, eB]
    obtain ⟨x, hx⟩ : ∃ x, chk l = x := ⟨_, rfl⟩
    rw [hx] at c1 ⊢
    have g2 : (x != 0) = true := by simp [c1]
    have C1 := hide hx
    clear c1 hx eE eB
    go_enter Tryz.func113, Tryz.ntmps113
    go_wp2
    refine wp_loop_rounds 3 ?_
    rw [rounds_succ]
    go_wp2_with fail
    refine (check_is a len cap l x _ (unhide C1) (unhide HO)).mono ?_
    rintro e w1 ⟨rfl, hb1⟩
    have HB1 := hide hb1
    clear hb1
    go_wp2
    go_ret2
    exact ⟨rfl, unhide HB1⟩

end Go.Proofs.YtepmnpapdknocaaGreatDoor
