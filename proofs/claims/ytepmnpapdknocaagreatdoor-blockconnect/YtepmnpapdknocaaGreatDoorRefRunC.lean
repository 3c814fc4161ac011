/- RunOps, of any orders. -/
import Derived.Test.YtepmnpapdknocaaGreatDoorRefRunB
namespace Go.Proofs.YtepmnpapdknocaaGreatDoor
open Go.RowKit Go.Maps

theorem runops_any (a : Option Addr) (len cap : Nat) (l : List (Int × Int)) (az : Option Addr) (lens caps : Nat) (Z : List Int) (h : Int) (w : World) (hO : OpsAt w a len l) (hck : chk l = 0)
    (hR : RowAt w az lens Z) (hcz : az = none → caps = 0) (hZ : stackOk Z = true) (hh : hOk h = true) :
    Calls Tryz.prog 122 #[.slice a len cap, .slice az lens caps, .int .i64 h] w fun e w' => ∃ a' cap', e = .returned (.tuple #[.slice a' ((runL h l Z).getD []).length cap', .bool (runL h l Z).isSome]) ∧ RowAt w' a' ((runL h l Z).getD []).length ((runL h l Z).getD []) ∧ Below w.heap.size w w' ∧ (a' = none → cap' = 0) := by
  obtain ⟨hz, hc⟩ := hO
  have h16 : len ≤ 16 ∧ chkL l = 0 := by
    unfold chk at hck
    split at hck
    · cases hck
    · exact ⟨by omega, hck⟩
  by_cases h0 : len = 0
  · subst h0
    have e : l = [] := List.length_eq_zero_iff.1 hz
    subst e
    exact runops_none az lens caps cap a Z h w hR hcz hZ
  · obtain ⟨b, off, rfl, hcell⟩ := hc (by omega)
    exact runops_some b off len cap l az lens caps Z h w h16.1 h16.2 hz hcell (World.block_lt_of_cell? _ _ (hcell 0 (by omega)).1) hR hcz hZ hh

end Go.Proofs.YtepmnpapdknocaaGreatDoor
