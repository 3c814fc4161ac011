/- The contract of strings.CutSuffix at a line feed. -/
import Derived.Test.YtadlakolpphgnaaGreatDoorTxLine
namespace Go.Proofs.YtadlakolpphgnaaGreatDoor
open Go.RowKit

def lastB (s : ByteArray) : ByteArray := s.extract (s.size - 1) s.size
def frontB (s : ByteArray) : ByteArray := s.extract 0 (s.size - 1)
def endsB (s : ByteArray) : Bool := decide (1 ≤ s.size) && ((lastB s).toList == [10])
def bodyB (s : ByteArray) : ByteArray := if endsB s then frontB s else s

set_option maxRecDepth 10000 in
set_option maxHeartbeats 1600000 in
theorem cutSuffix_none (s : ByteArray) (h : s.size = 0) (w : World) :
    Calls Tryz.prog 48 #[.string s, .string ⟨#[10]⟩] w fun e w' => e = .returned (.tuple #[.string s, .bool false]) ∧ w = w' := by
  go_enter Tryz.func48, Tryz.ntmps48
  go_wp2
  go_ret2
  exact ⟨rfl, rfl⟩

set_option maxRecDepth 10000 in
set_option maxHeartbeats 1600000 in
theorem cutSuffix_some (s : ByteArray) (h : 1 ≤ s.size) (hs : s.size ≤ 4000) (w : World) :
    Calls Tryz.prog 48 #[.string s, .string ⟨#[10]⟩] w fun e w' => e = .returned (.tuple #[.string (bodyB s), .bool (endsB s)]) ∧ w = w' := by
  cases hq : ((s.extract (s.size - 1) s.size).toList == [10]) with
  | true =>
    have e1 : endsB s = true := by unfold endsB lastB; rw [hq, decide_eq_true h]; rfl
    have e2 : bodyB s = s.extract 0 (s.size - 1) := by unfold bodyB; rw [e1]; rfl
    rw [e1, e2]
    clear e1 e2
    go_enter Tryz.func48, Tryz.ntmps48
    go_wp2
    go_ret2
    exact ⟨rfl, rfl⟩
  | false =>
    have e1 : endsB s = false := by unfold endsB lastB; rw [hq]; exact Bool.and_false _
    have e2 : bodyB s = s := by unfold bodyB; rw [e1]; rfl
    rw [e1, e2]
    clear e1 e2
    go_enter Tryz.func48, Tryz.ntmps48
    go_wp2
    go_ret2
    exact ⟨rfl, rfl⟩

theorem cutSuffix_any (s : ByteArray) (hs : s.size ≤ 4000) (w : World) :
    Calls Tryz.prog 48 #[.string s, .string ⟨#[10]⟩] w fun e w' => e = .returned (.tuple #[.string (bodyB s), .bool (endsB s)]) ∧ w = w' := by
  by_cases h : s.size = 0
  · have e1 : endsB s = false := by unfold endsB; rw [decide_eq_false (by omega)]; rfl
    have e2 : bodyB s = s := by unfold bodyB; rw [e1]; rfl
    rw [e1, e2]
    exact cutSuffix_none s h w
  · exact cutSuffix_some s (by omega) hs w

theorem body_size (s : ByteArray) : (bodyB s).size ≤ s.size := by
  unfold bodyB frontB
  split
  · rw [ByteArray.size_extract]; omega
  · exact Nat.le_refl _

end Go.Proofs.YtadlakolpphgnaaGreatDoor
