/- Contracts of the reference's small functions: fits, a truth's row. -/
import Derived.Test.YtepmnpapdknocaaGreatDoorLockCheck
import Derived.Test.YtepmnpapdknocaaGreatDoorRefCheck
import Derived.Test.YtepmnpapdknocaaGreatDoorLockRow
namespace Go.Proofs.YtepmnpapdknocaaGreatDoor
open Go.RowKit

set_option maxHeartbeats 400000 in
theorem rfits_is (n : Int) (b : Bool) (w : World) (hb : b = fit n) :
    Calls Tryz.prog 151 #[.int .i64 n] w fun e w' => e = .returned (.bool b) ∧ w = w' := by
  subst hb
  by_cases h1 : -1000000 ≤ n
  · by_cases h2 : n ≤ 1000000
    · have e : fit n = true := (fit_iff n).2 ⟨h1, h2⟩
      rw [e]
      clear e
      go_enter Tryz.func151, Tryz.ntmps151
      go_wp2
      go_ret
      exact ⟨rfl, rfl⟩
    · have e : fit n = false := (fit_not n).2 (by omega)
      have h3 : decide (n ≤ 1000000) = false := by simp; omega
      rw [e]
      clear e
      go_enter Tryz.func151, Tryz.ntmps151
      go_wp2
      go_ret
      exact ⟨rfl, rfl⟩
  · have e : fit n = false := (fit_not n).2 (by omega)
    have h3 : n < -1000000 := by omega
    rw [e]
    clear e h1
    go_enter Tryz.func151, Tryz.ntmps151
    go_wp2
    go_ret
    exact ⟨rfl, rfl⟩

set_option maxHeartbeats 400000 in
theorem is_any (b : Bool) (w : World) :
    Calls Tryz.prog 150 #[.bool b] w fun e w' => e = .returned (.slice (some ⟨w.heap.size, 0, none⟩) 1 1) ∧ w' = w.alloc (.cells #[.int .i64 (b01 b)] 3) := by
  cases b
  all_goals
    go_enter Tryz.func150, Tryz.ntmps150
    go_wp2
    go_ret
    exact ⟨rfl, rfl⟩

end Go.Proofs.YtepmnpapdknocaaGreatDoor
