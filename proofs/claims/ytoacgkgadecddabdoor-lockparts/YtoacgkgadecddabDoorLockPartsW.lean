/- The walk of the law LockParts: it returns true, whatever the orders, the stack, the height and the place. -/
import Derived.Test.YtoacgkgadecddabDoorLockLocked
import Derived.Test.YtoacgkgadecddabDoorLockBack
import Derived.Test.YtoacgkgadecddabDoorLockSame
namespace Go.Proofs.YtoacgkgadecddabDoor
open Go.RowKit

set_option maxHeartbeats 800000 in
theorem at_neg (k : Int) (n : Nat) (w : World) (hn : 0 < n) (h17 : n ≤ 17) (h3 : Int.tmod k n < 0) :
    Calls Tryd.prog 7 #[.int .i64 k, .int .i64 n] w fun e w' => e = .returned (.int .i64 ((Int.tmod k n + n).toNat : Int)) ∧ w = w' := by
  have h0 : ¬ (n : Int) = 0 := by omega
  have h1 : -(n : Int) < Int.tmod k n := by
    have := Int.lt_tmod_of_pos k (show (0 : Int) < n by omega)
    omega
  have h2 : Int.tmod k n < n := Int.tmod_lt_of_pos k (by omega)
  have e : ((Int.tmod k n + n).toNat : Int) = Int.tmod k n + n := by omega
  rw [e]
  clear e
  go_enter Tryd.func7, Tryd.ntmps7
  go_wp2
  go_ret
  exact ⟨rfl, rfl⟩

set_option maxHeartbeats 800000 in
theorem at_pos (k : Int) (n : Nat) (w : World) (hn : 0 < n) (h17 : n ≤ 17) (h3 : ¬ Int.tmod k n < 0) :
    Calls Tryd.prog 7 #[.int .i64 k, .int .i64 n] w fun e w' => e = .returned (.int .i64 ((Int.tmod k n).toNat : Int)) ∧ w = w' := by
  have h0 : ¬ (n : Int) = 0 := by omega
  have h2 : Int.tmod k n < n := Int.tmod_lt_of_pos k (by omega)
  have e : ((Int.tmod k n).toNat : Int) = Int.tmod k n := by omega
  rw [e]
  clear e
  go_enter Tryd.func7, Tryd.ntmps7
  go_wp2
  go_ret
  exact ⟨rfl, rfl⟩

/-- The first m orders; those behind them. -/
theorem OpsAt.take {w : World} {a : Option Addr} {len : Nat} {l : List (Int × Int)} (h : OpsAt w a len l) (m : Nat) (hm : m ≤ len) : OpsAt w a m (l.take m) := by
  refine ⟨by rw [List.length_take, h.1]; omega, fun hp => ?_⟩
  obtain ⟨b, off, rfl, hc⟩ := h.2 (by omega)
  refine ⟨b, off, rfl, fun i hi => ?_⟩
  have := hc i (by omega)
  have hg : (l.take m).getD i (0, 0) = l.getD i (0, 0) := by simp [hi]
  rw [hg]; exact this
theorem OpsAt.drop {w : World} {a b : Option Addr} {len : Nat} {l : List (Int × Int)} (h : OpsAt w a len l) (m : Nat) (hm : m ≤ len) (hb : m < len → ∀ x, a = some x → b = some (x.add (m * 2))) : OpsAt w b (len - m) (l.drop m) := by
  refine ⟨by rw [List.length_drop, h.1], fun hp => ?_⟩
  obtain ⟨bb, off, rfl, hc⟩ := h.2 (by omega)
  have hadd : (⟨bb, off, none⟩ : Addr).add (m * 2) = ⟨bb, off + m * 2, none⟩ := by unfold Addr.add; split <;> simp_all
  refine ⟨bb, off + m * 2, by rw [hb (by omega) _ rfl, hadd], fun i hi => ?_⟩
  have := hc (m + i) (by omega)
  have hg : (l.drop m).getD i (0, 0) = l.getD (m + i) (0, 0) := by simp [List.getElem?_drop]
  have e1 : off + m * 2 + i * 2 = off + (m + i) * 2 := by omega
  rw [hg, e1]; exact this

theorem ops_none_drop (l : List (Int × Int)) (w : World) (a : Option Addr) : OpsAt w a 0 (l.drop l.length) := by
  rw [List.drop_length]; exact OpsAt.nil _ _
theorem prT_ok {l : List (Int × Int)} (h : chk l = 0) : prT l = opsText l := by unfold prT; rw [if_pos h]
theorem parse_is (s : ByteArray) (x : Int) (l : List (Int × Int)) (w : World) (h1 : prE s = x) (h2 : prL s = l) (hE : EnvP w) :
    Calls Tryd.prog 9 #[.string s] w fun e w' => ∃ a cap, e = .returned (.tuple #[.slice a l.length cap, .int .i64 x]) ∧ OpsAt w' a l.length l ∧ Below w.heap.size w w' := by
  subst h1 h2; exact parse_any s w hE
theorem parse_is0 (s : ByteArray) (x : Int) (l : List (Int × Int)) (w : World) (hl : l.length = 0) (h1 : prE s = x) (h2 : prL s = l) (hE : EnvP w) :
    Calls Tryd.prog 9 #[.string s] w fun e w' => ∃ a cap, e = .returned (.tuple #[.slice a 0 cap, .int .i64 x]) ∧ OpsAt w' a 0 l ∧ Below w.heap.size w w' := by
  have := parse_is s x l w h1 h2 hE
  rw [hl] at this
  exact this

end Go.Proofs.YtoacgkgadecddabDoor
