/- A way of the law LockParts. -/
import Derived.Test.YtoacgkgadecddabDoorLockPartsW
namespace Go.Proofs.YtoacgkgadecddabDoor
open Go.RowKit

set_option maxRecDepth 10000 in
set_option maxHeartbeats 3200000 in
theorem parts_one (x : Addr) (az : Option Addr) (cap lens caps : Nat) (l : List (Int × Int)) (Z : List Int) (h k : Int) (m : Nat) (w : World) (hE : EnvP w) (hO : OpsAt w (some x) l.length l) (hR : RowAt w az lens Z)
    (hcap : l.length ≤ cap) (hm : m ≤ l.length) (hck : chk l = 0) (hlen : l.length ≤ 16)
    (f1 : runE l Z h = 8) (f2 : runS l Z h = []) (g1 : runE (l.take m) Z h = 8) (g2 : runS (l.take m) Z h = [])
    (hat : ∀ w, Calls Tryd.prog 7 #[.int .i64 k, .int .i64 ((l.length : Int) + 1)] w fun e w' => e = .returned (.int .i64 m) ∧ w = w') :
    Calls Tryd.prog 3 #[.slice (some x) l.length cap, .slice az lens caps, .int .i64 h, .int .i64 k] w fun e w' => e = .returned (.bool true) ∧ Below w.heap.size w w' := by
  have R0 := hide (run_is (some x) az l.length cap lens caps l Z h 8 [] w f1 f2 hO hR)
  have F := hide (And.intro f1 f2)
  have HAT := hide hat
  have HE := hide hE
  have HO := hide hO
  have HR := hide hR
  have HCK := hide hck
  have G := hide (And.intro g1 g2)
  clear hE hO hR hck f1 f2 g1 g2 hat
  go_enter Tryd.func3, Tryd.ntmps3
  go_wp2_with fail
  refine (unhide R0).mono ?_
  rintro e w1 ⟨a1, c1, rfl, hw1, hb1⟩
  have HW1 := hide hw1
  have HB1 := hide hb1
  clear hw1 hb1
  go_wp2_with fail
  refine (locked_yes _ ((unhide HE).later (unhide HB1)).env).mono ?_
  rintro e w2 ⟨rfl, hb2⟩
  have HW2 := hide ((unhide HW1).later hb2)
  have HB2 := hide (bel_two (unhide HB1) hb2)
  clear hb2
  go_wp2_with fail
  refine ((unhide HAT) _).mono ?_
  rintro e w' ⟨rfl, rfl⟩
  go_wp2_with fail
  refine (run_is (some x) az m cap lens caps (l.take m) Z h 8 [] _ (unhide G).1 (unhide G).2 (((unhide HO).later (unhide HB2)).take m hm) ((unhide HR).later (unhide HB2))).mono ?_
  rintro e w3 ⟨a3, c3, rfl, hw3, hb3⟩
  have HWa := hide hw3
  have HB := hide (bel_two (unhide HB2) hb3)
  have HWs := hide ((unhide HW2).later hb3)
  clear hw3 hb3
  go_wp2_with fail
  refine (print_is (some x) l.length cap l _ 0 _ (prT_ok (unhide HCK)) (unhide HCK) ((unhide HE).later (unhide HB)).env ((unhide HO).later (unhide HB))).mono ?_
  rintro e w5 ⟨rfl, hb5⟩
  have HBp := hide (bel_two (unhide HB) hb5)
  have HWsp := hide ((unhide HWs).later hb5)
  have HWap := hide ((unhide HWa).later hb5)
  clear hb5
  go_wp2_with fail
  refine (parse_is (opsText l) 0 l _ (read_back l (unhide HCK)).1 (read_back l (unhide HCK)).2 ((unhide HE).later (unhide HBp))).mono ?_
  rintro e w6 ⟨a6, c6, rfl, ho6, hb6⟩
  have HBq := hide (bel_two (unhide HBp) hb6)
  have HWsq := hide ((unhide HWsp).later hb6)
  have HWaq := hide ((unhide HWap).later hb6)
  have HO6 := hide ho6
  clear hb6 ho6
  go_wp2_with fail
  refine (run_is a6 az l.length c6 lens caps l Z h 8 [] _ (unhide F).1 (unhide F).2 (unhide HO6) ((unhide HR).later (unhide HBq))).mono ?_
  rintro e w7 ⟨a7, c7, rfl, hw7, hb7⟩
  have HBr := hide (bel_two (unhide HBq) hb7)
  have HWsr := hide ((unhide HWsq).later hb7)
  have HWar := hide ((unhide HWaq).later hb7)
  have HO7 := hide ((unhide HO6).later hb7)
  have HW7 := hide hw7
  clear hb7 hw7
  go_wp2_with fail
  refine (equal_ints _ _ _ _ _ [] _ (unhide HWar) (unhide HWsr)).mono ?_
  rintro e w8 ⟨rfl, hb8⟩
  have HBs := hide (bel_two (unhide HBr) hb8)
  have HWss := hide ((unhide HWsr).later hb8)
  have HW8 := hide ((unhide HW7).later hb8)
  have HO8 := hide ((unhide HO7).later hb8)
  clear hb8
  go_wp2_with fail
  refine (equal_ints _ _ _ _ _ [] _ (unhide HW8) (unhide HWss)).mono ?_
  rintro e w9 ⟨rfl, hb9⟩
  have HBt := hide (bel_two (unhide HBs) hb9)
  have HO9 := hide ((unhide HO8).later hb9)
  clear hb9
  have EQ := hide (equal_ops (some x) a6 l.length cap c6 l w9 hlen ((unhide HO).later (unhide HBt)) (by have h1 := unhide HO9; rw [(unhide HO).1] at h1; exact h1))
  rw [show l.length = l.length from (unhide HO).1.symm] at EQ
  go_wp2_with fail
  refine (unhide EQ).mono ?_
  rintro e wA ⟨rfl, hbA⟩
  have HBu := hide (bel_two (unhide HBt) hbA)
  clear hbA
  go_wp2
  go_ret
  exact ⟨rfl, unhide HBu⟩

end Go.Proofs.YtoacgkgadecddabDoor
