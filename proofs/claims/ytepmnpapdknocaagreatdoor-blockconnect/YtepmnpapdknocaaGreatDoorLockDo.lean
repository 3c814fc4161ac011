/- Contracts of the machine's orders: each does to the machine what its kind says. -/
import Derived.Test.YtepmnpapdknocaaGreatDoorLockOps
namespace Go.Proofs.YtepmnpapdknocaaGreatDoor
open Go.RowKit

set_option maxHeartbeats 400000 in
theorem drop_any (p : Nat) (s : MS) (n : Int) (W w : World) (hm : Mach p s W w) :
    Calls Tryz.prog 245 #[.pointer (some ⟨p, 0, none⟩), .int .i64 n] w fun e w' => e = .returned (.tuple #[]) ∧ Mach p (s.step 4 n) W w' := by
  have HM := hide hm
  clear hm
  go_enter Tryz.func245, Tryz.ntmps245
  go_wp2_with (go_at_call 264; refine (take_any p s W _ (unhide HM)).mono ?_; rintro e w' ⟨rfl, hm'⟩)
  go_end0
  exact ⟨rfl, by assumption⟩

set_option maxHeartbeats 400000 in
theorem putHeight_any (p : Nat) (s : MS) (n : Int) (W w : World) (hm : Mach p s W w) :
    Calls Tryz.prog 256 #[.pointer (some ⟨p, 0, none⟩), .int .i64 n] w fun e w' => e = .returned (.tuple #[]) ∧ Mach p (s.step 12 n) W w' := by
  have c1 := hm.cell_h
  have HM := hide hm
  clear hm
  go_enter Tryz.func256, Tryz.ntmps256
  go_wp2_with (go_at_call 223; refine (put_any p s _ W _ (unhide HM)).mono ?_; rintro e w' ⟨rfl, hm'⟩)
  go_end0
  exact ⟨rfl, by assumption⟩

set_option maxHeartbeats 400000 in
theorem dup_any (p : Nat) (s : MS) (n : Int) (W w : World) (hm : Mach p s W w) :
    Calls Tryz.prog 243 #[.pointer (some ⟨p, 0, none⟩), .int .i64 n] w fun e w' => e = .returned (.tuple #[]) ∧ Mach p (s.step 2 n) W w' := by
  have HM := hide hm
  clear hm
  go_enter Tryz.func243, Tryz.ntmps243
  go_wp2_with fail
  refine (take_any p s W _ (unhide HM)).mono ?_
  rintro e w1 ⟨rfl, hm1⟩
  have HM1 := hide hm1
  clear hm1
  go_wp2_with fail
  refine (put_any p s.take _ W _ (unhide HM1)).mono ?_
  rintro e w2 ⟨rfl, hm2⟩
  have HM2 := hide hm2
  clear hm2
  go_wp2_with fail
  refine (put_any p (s.take.put s.top) _ W _ (unhide HM2)).mono ?_
  rintro e w3 ⟨rfl, hm3⟩
  have HM3 := hide hm3
  clear hm3
  go_wp2
  go_end0
  exact ⟨rfl, unhide HM3⟩

set_option maxHeartbeats 400000 in
theorem swap_any (p : Nat) (s : MS) (n : Int) (W w : World) (hm : Mach p s W w) :
    Calls Tryz.prog 244 #[.pointer (some ⟨p, 0, none⟩), .int .i64 n] w fun e w' => e = .returned (.tuple #[]) ∧ Mach p (s.step 3 n) W w' := by
  have HM := hide hm
  clear hm
  go_enter Tryz.func244, Tryz.ntmps244
  go_wp2_with fail
  refine (take_any p s W _ (unhide HM)).mono ?_
  rintro e w1 ⟨rfl, hm1⟩
  have HM1 := hide hm1
  clear hm1
  go_wp2_with fail
  refine (take_any p s.take W _ (unhide HM1)).mono ?_
  rintro e w2 ⟨rfl, hm2⟩
  have HM2 := hide hm2
  clear hm2
  go_wp2_with fail
  refine (put_any p s.take.take _ W _ (unhide HM2)).mono ?_
  rintro e w3 ⟨rfl, hm3⟩
  have HM3 := hide hm3
  clear hm3
  go_wp2_with fail
  refine (put_any p (s.take.take.put s.top) _ W _ (unhide HM3)).mono ?_
  rintro e w4 ⟨rfl, hm4⟩
  have HM4 := hide hm4
  clear hm4
  go_wp2
  go_end0
  exact ⟨rfl, unhide HM4⟩

set_option maxHeartbeats 400000 in
theorem verify_any (p : Nat) (s : MS) (n : Int) (W w : World) (hm : Mach p s W w) :
    Calls Tryz.prog 255 #[.pointer (some ⟨p, 0, none⟩), .int .i64 n] w fun e w' => e = .returned (.tuple #[]) ∧ Mach p (s.step 11 n) W w' := by
  have HM := hide hm
  clear hm
  by_cases h : s.top = 0
  · have e0 : s.step 11 n = s.take.fail := by simp [MS.step, h]
    have h1 : (s.top == 0) = true := by simp [h]
    rw [e0]
    clear h e0
    go_enter Tryz.func255, Tryz.ntmps255
    go_wp2_with fail
    refine (take_any p s W _ (unhide HM)).mono ?_
    rintro e w1 ⟨rfl, hm1⟩
    have HM1 := hide hm1
    clear hm1
    go_wp2_with fail
    refine (fail_any p s.take W _ (unhide HM1)).mono ?_
    rintro e w2 ⟨rfl, hm2⟩
    have HM2 := hide hm2
    clear hm2
    go_wp2
    go_end0
    exact ⟨rfl, unhide HM2⟩
  · have e0 : s.step 11 n = s.take := by simp [MS.step, h]
    have h1 : (s.top == 0) = false := by simp [h]
    rw [e0]
    clear h e0
    go_enter Tryz.func255, Tryz.ntmps255
    go_wp2_with fail
    refine (take_any p s W _ (unhide HM)).mono ?_
    rintro e w1 ⟨rfl, hm1⟩
    have HM1 := hide hm1
    clear hm1
    go_wp2
    go_end0
    exact ⟨rfl, unhide HM1⟩

end Go.Proofs.YtepmnpapdknocaaGreatDoor
