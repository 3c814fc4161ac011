/- Draws turn nothing. -/
import Derived.Test.YtodgheppglchcaaGreatDoorLockRunA
import Derived.Test.YtodgheppglchcaaGreatDoorLockCheck
namespace Go.Proofs.YtodgheppglchcaaGreatDoor
open Go.RowKit

theorem below_dr (w : World) (n : Nat) : Below w.heap.size w (w.drewN n) := ⟨rfl, rfl, rfl, Nat.le_refl _, fun _ _ => rfl⟩

end Go.Proofs.YtodgheppglchcaaGreatDoor
