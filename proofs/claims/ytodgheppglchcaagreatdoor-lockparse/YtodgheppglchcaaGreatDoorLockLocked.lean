/- The contract of the closed fact that the laws of lock ask for first. -/
import Derived.Test.YtodgheppglchcaaGreatDoorLockOpen
import Derived.Test.YtodgheppglchcaaGreatDoorLockPrint
namespace Go.Proofs.YtodgheppglchcaaGreatDoor
open Go.RowKit

theorem opens_is (a ak : Option Addr) (len cap lenk capk : Nat) (l k : List (Int × Int)) (h : Int) (b : Bool) (x : Int) (w : World) (hb : opensB l k h = b) (hx : opensE l k h = x) (hO : OpsAt w a len l) (hK : OpsAt w ak lenk k) :
    Calls Tryz.prog 16 #[.slice a len cap, .slice ak lenk capk, .int .i64 h] w fun e w' => e = .returned (.tuple #[.bool b, .int .i64 x]) ∧ Below w.heap.size w w' := by
  subst hb hx; exact opens_any a ak len cap lenk capk l k h w hO hK

theorem print_is (a : Option Addr) (len cap : Nat) (l : List (Int × Int)) (t : ByteArray) (x : Int) (w : World) (ht : prT l = t) (hx : chk l = x) (hE : Env w) (hO : OpsAt w a len l) :
    Calls Tryz.prog 4 #[.slice a len cap] w fun e w' => e = .returned (.tuple #[.string t, .int .i64 x]) ∧ Below w.heap.size w w' := by
  subst ht hx; exact print_any a len cap l w hE hO

/-- Orders in the block that was made last. -/
theorem ops_new1 (w : World) (b : Nat) (hb : w.heap.size = b) (k n : Int) (t : TypeId) : OpsAt (w.alloc (.cells #[.int .i64 k, .int .i64 n] t)) (some ⟨b, 0, none⟩) 1 [(k, n)] := by
  subst hb
  refine ⟨rfl, fun _ => ⟨w.heap.size, 0, rfl, fun i hi => ?_⟩⟩
  obtain rfl : i = 0 := by omega
  exact ⟨by rw [World.cell?_alloc_at _ _ _ _ rfl]; rfl, by rw [World.cell?_alloc_at _ _ _ _ rfl]; rfl⟩
theorem ops_new2 (w : World) (b : Nat) (hb : w.heap.size = b) (k n k1 n1 : Int) (t : TypeId) : OpsAt (w.alloc (.cells #[.int .i64 k, .int .i64 n, .int .i64 k1, .int .i64 n1] t)) (some ⟨b, 0, none⟩) 2 [(k, n), (k1, n1)] := by
  subst hb
  refine ⟨rfl, fun _ => ⟨w.heap.size, 0, rfl, fun i hi => ?_⟩⟩
  match i, hi with
  | 0, _ => exact ⟨by rw [World.cell?_alloc_at _ _ _ _ rfl]; rfl, by rw [World.cell?_alloc_at _ _ _ _ rfl]; rfl⟩
  | 1, _ => exact ⟨by rw [World.cell?_alloc_at _ _ _ _ rfl]; rfl, by rw [World.cell?_alloc_at _ _ _ _ rfl]; rfl⟩
theorem ops_new3 (w : World) (b : Nat) (hb : w.heap.size = b) (k n k1 n1 k2 n2 : Int) (t : TypeId) : OpsAt (w.alloc (.cells #[.int .i64 k, .int .i64 n, .int .i64 k1, .int .i64 n1, .int .i64 k2, .int .i64 n2] t)) (some ⟨b, 0, none⟩) 3 [(k, n), (k1, n1), (k2, n2)] := by
  subst hb
  refine ⟨rfl, fun _ => ⟨w.heap.size, 0, rfl, fun i hi => ?_⟩⟩
  match i, hi with
  | 0, _ => exact ⟨by rw [World.cell?_alloc_at _ _ _ _ rfl]; rfl, by rw [World.cell?_alloc_at _ _ _ _ rfl]; rfl⟩
  | 1, _ => exact ⟨by rw [World.cell?_alloc_at _ _ _ _ rfl]; rfl, by rw [World.cell?_alloc_at _ _ _ _ rfl]; rfl⟩
  | 2, _ => exact ⟨by rw [World.cell?_alloc_at _ _ _ _ rfl]; rfl, by rw [World.cell?_alloc_at _ _ _ _ rfl]; rfl⟩
theorem OpsAt.nil (w : World) (a : Option Addr) : OpsAt w a 0 [] := ⟨rfl, fun h => absurd h (by omega)⟩
theorem alloc_below (w : World) (o : Obj) : Below w.heap.size w (w.alloc o) := (Below.refl _ _).alloc (Nat.le_refl _) _

theorem prT_seven : prT [(1, 7), (7, 0)] = ⟨#[55, 32, 115, 97, 109, 101]⟩ := by
  have h : chk [(1, 7), (7, 0)] = 0 := by decide
  unfold prT
  rw [if_pos h]
  unfold opsText opText
  have e : Lib.itoa 7 = [55] := by decide +kernel
  simp [e, Lib.join, nameB, namesL, List.intercalate]

set_option maxHeartbeats 1600000 in
theorem locked_yes (w : World) (hE : Env w) :
    Calls Tryz.prog 7 #[] w fun e w' => e = .returned (.bool true) ∧ Below w.heap.size w w' := by
  have HE := hide hE
  clear hE
  go_enter Tryz.func7, Tryz.ntmps7
  go_wp2_with fail
  have b0 := alloc_below w (.cells #[.int .i64 1, .int .i64 7, .int .i64 7, .int .i64 0] 33)
  have b1 := bel_two b0 (alloc_below (w.alloc (.cells #[.int .i64 1, .int .i64 7, .int .i64 7, .int .i64 0] 33)) (.cells #[.int .i64 1, .int .i64 7] 33))
  have o0 := ops_new2 w w.heap.size rfl 1 7 7 0 33
  have o1 := o0.later (alloc_below _ (.cells #[.int .i64 1, .int .i64 7] 33))
  refine (opens_is _ _ 2 2 1 1 [(1, 7), (7, 0)] [(1, 7)] 1 true 0 _ (by decide +kernel) (by decide +kernel) o1 (ops_new1 _ (w.heap.size + 1) (by simp) 1 7 33)).mono ?_
  rintro e w1 ⟨rfl, hb1⟩
  have HB1 := hide (bel_two b1 hb1)
  have HO1 := hide (o1.later hb1)
  clear b0 b1 o0 o1 hb1
  go_wp2_with fail
  have o2 := (unhide HO1).later (alloc_below w1 (.cells #[.int .i64 1, .int .i64 3, .int .i64 1, .int .i64 4, .int .i64 5, .int .i64 0] 33))
  refine (opens_is _ _ 2 2 3 3 [(1, 7), (7, 0)] [(1, 3), (1, 4), (5, 0)] 1 true 0 _ (by decide +kernel) (by decide +kernel) o2 (ops_new3 w1 w1.heap.size rfl 1 3 1 4 5 0 33)).mono ?_
  rintro e w2 ⟨rfl, hb2⟩
  have HO2 := hide (o2.later hb2)
  have HB2 := hide (bel_two (unhide HB1) (bel_two (alloc_below w1 _) hb2))
  clear o2 hb2
  go_wp2_with fail
  refine (opens_is _ none 2 2 0 0 [(1, 7), (7, 0)] [] 1 false 0 _ (by decide +kernel) (by decide +kernel) (unhide HO2) (OpsAt.nil _ _)).mono ?_
  rintro e w3 ⟨rfl, hb3⟩
  have HO3 := hide ((unhide HO2).later hb3)
  have HB3 := hide (bel_two (unhide HB2) hb3)
  clear hb3
  go_wp2_with fail
  refine (print_is _ 2 2 [(1, 7), (7, 0)] _ 0 _ prT_seven (by decide +kernel) ((unhide HE).later (unhide HB3)) (unhide HO3)).mono ?_
  rintro e w4 ⟨rfl, hb4⟩
  have HB4 := hide (bel_two (unhide HB3) hb4)
  clear hb4
  go_wp2
  go_ret
  exact ⟨rfl, unhide HB4⟩

end Go.Proofs.YtodgheppglchcaaGreatDoor
