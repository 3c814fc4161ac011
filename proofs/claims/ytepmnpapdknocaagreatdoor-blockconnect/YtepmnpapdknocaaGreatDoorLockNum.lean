/- Contracts of what reads a number, an order. -/
import Derived.Test.YtepmnpapdknocaaGreatDoorLockPrint
import Derived.ChangeAgain
namespace Go.Proofs.YtepmnpapdknocaaGreatDoor
open Go.RowKit

/-- What the variables hold, the errors' among them. -/
structure EnvP (w : World) : Prop where
  env : Env w
  syn : ∃ tp p, w.var? Tryz.prog "strconv.ErrSyntax" = some #[.iface tp p]
  ran : ∃ tp p, w.var? Tryz.prog "strconv.ErrRange" = some #[.iface tp p]
  shp : w.ShapedOpen Tryz.prog

theorem Tryz.gSyn : Tryz.prog.globalNamed "strconv.ErrSyntax" = some 5 := by kernel_rfl
theorem Tryz.gRan : Tryz.prog.globalNamed "strconv.ErrRange" = some 6 := by kernel_rfl

theorem EnvP.later {w w' : World} (h : EnvP w) (hb : Below w.heap.size w w') : EnvP w' where
  env := h.env.later hb
  syn := by obtain ⟨tp, p, e⟩ := h.syn; exact ⟨tp, p, Joins.var_stays Tryz.gSyn e hb (Nat.le_refl _)⟩
  ran := by obtain ⟨tp, p, e⟩ := h.ran; exact ⟨tp, p, Joins.var_stays Tryz.gRan e hb (Nat.le_refl _)⟩
  shp := h.shp.keptBut (hb.frame (fun _ => False)) (fun _ h => h.elim)

def textB (v : Int) : ByteArray := ⟨(Lib.itoa v).toArray⟩

end Go.Proofs.YtepmnpapdknocaaGreatDoor
