/- Draws turn nothing. -/
import Derived.Test.YtodgheppglchcaaDoorLockRunA
import Derived.Test.YtodgheppglchcaaDoorLockCheck
namespace Go.Proofs.YtodgheppglchcaaDoor
open Go.RowKit

theorem below_dr (w : World) (n : Nat) : Below w.heap.size w (w.drewN n) := ⟨rfl, rfl, rfl, Nat.le_refl _, fun _ _ => rfl⟩

end Go.Proofs.YtodgheppglchcaaDoor
