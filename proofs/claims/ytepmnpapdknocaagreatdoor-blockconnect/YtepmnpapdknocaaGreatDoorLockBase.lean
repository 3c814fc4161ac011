/- What the walks have in common. -/
import Derived.Test.YtepmnpapdknocaaGreatDoorRows
import Derived.Test.YtepmnpapdknocaaGreatDoorLockMath
import Derived.WalkKit
import Derived.WalkLawsBesides
import Derived.Deep.QuietTactic
import Derived.BigQuiet
import Derived.Deep.RegionWith
namespace Go.Proofs.YtepmnpapdknocaaGreatDoor
open Go.RowKit

theorem hide {p : Prop} (h : p) : Hid p := h
theorem unhide {p : Prop} (h : Hid p) : p := h

end Go.Proofs.YtepmnpapdknocaaGreatDoor
