/- The contract of the reference's SameTx. -/
import Derived.Test.YtepmnpapdknocaaGreatDoorRefSame
import Derived.Deep.RegionHeld3
namespace Go.Proofs.YtepmnpapdknocaaGreatDoor
open Go.RowKit

theorem bel_draws (w : World) : Below w.heap.size w w.drew := ⟨rfl, rfl, rfl, Nat.le_refl _, fun _ _ => rfl⟩

end Go.Proofs.YtepmnpapdknocaaGreatDoor
