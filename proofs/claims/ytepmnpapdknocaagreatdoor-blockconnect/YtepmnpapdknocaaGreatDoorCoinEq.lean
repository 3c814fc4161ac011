/- Contracts of what holds orders, outputs and coins against each other, whatever they are. -/
import Derived.Test.YtepmnpapdknocaaGreatDoorCoinCheckB
import Derived.Test.YtepmnpapdknocaaGreatDoorTxSame
namespace Go.Proofs.YtepmnpapdknocaaGreatDoor
open Go.RowKit

set_option maxHeartbeats 1600000 in
set_option maxHeartbeats 400000 in
set_option maxHeartbeats 400000 in
set_option maxRecDepth 10000 in
set_option maxHeartbeats 1600000 in
/-- Are two rows of coins alike? -/
def sameL : List CoinD → List CoinD → Bool
  | [], [] => true
  | x :: r, y :: q => decide (x = y) && sameL r q
  | _, _ => false
theorem sameL_iff : ∀ (l k : List CoinD), sameL l k = true ↔ l = k
  | [], [] => by simp [sameL]
  | [], y :: q => by simp [sameL]
  | x :: r, [] => by simp [sameL]
  | x :: r, y :: q => by rw [sameL, Bool.and_eq_true, decide_eq_true_eq, sameL_iff r q, List.cons.injEq]
theorem sameL_no {l k : List CoinD} (h : l ≠ k) : sameL l k = false := by
  rw [← Bool.not_eq_true, sameL_iff]; exact h
theorem sameL_yes {l k : List CoinD} (h : l = k) : sameL l k = true := (sameL_iff l k).2 h

set_option maxHeartbeats 400000 in
theorem eqCoin_lens (a b : Option Addr) (n m c d : Nat) (v : Value) (w : World) (h : n ≠ m) :
    Calls Tryz.prog 45 #[.slice a n c, .slice b m d, v] w fun e w' => e = .returned (.bool false) ∧ w = w' := by
  have g : ((n : Int) != (m : Int)) = true := by simp; omega
  clear h
  go_enter Tryz.func45, Tryz.ntmps45
  go_wp2
  go_ret
  exact ⟨rfl, rfl⟩

set_option maxHeartbeats 400000 in
theorem eqCoin_none (a b : Option Addr) (c d : Nat) (v : Value) (w : World) :
    Calls Tryz.prog 45 #[.slice a 0 c, .slice b 0 d, v] w fun e w' => e = .returned (.bool true) ∧ w = w' := by
  go_enter Tryz.func45, Tryz.ntmps45
  go_wp2
  refine wp_loop_rounds 1 ?_
  rw [rounds_succ]
  go_wp2
  go_ret
  exact ⟨rfl, rfl⟩

end Go.Proofs.YtepmnpapdknocaaGreatDoor
