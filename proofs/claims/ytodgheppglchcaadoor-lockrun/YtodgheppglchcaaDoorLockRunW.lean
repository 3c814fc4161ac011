/- The walk of the law LockRun: it returns true, whatever the orders, the stack, the height and the key. -/
import Derived.Test.YtodgheppglchcaaDoorLockSameI
import Derived.Test.YtodgheppglchcaaDoorLockLocked
import Derived.Test.YtodgheppglchcaaDoorRefOpened
import Derived.Test.YtodgheppglchcaaDoorLockRunD
namespace Go.Proofs.YtodgheppglchcaaDoor
open Go.RowKit

theorem opensE_mk {l k : List (Int × Int)} {h : Int} (h1 : chk l = 0) (h2 : chk k = 0) (h3 : hOk h = true) : opensE l k h = 0 := by
  unfold opensE; rw [if_pos h1, if_pos h2, if_pos h3]
theorem opens_l {l k : List (Int × Int)} {h x : Int} (hx : chk l = x) (h0 : x ≠ 0) : opensE l k h = x ∧ opensB l k h = false := by
  have e : opensE l k h = x := by unfold opensE; rw [if_neg (by rw [hx]; exact h0), hx]
  exact ⟨e, by unfold opensB; rw [e]; simp [h0]⟩
theorem opens_k {l k : List (Int × Int)} {h y : Int} (hl : chk l = 0) (hx : chk k = y) (h0 : y ≠ 0) : opensE l k h = y ∧ opensB l k h = false := by
  have e : opensE l k h = y := by unfold opensE; rw [if_pos hl, if_neg (by rw [hx]; exact h0), hx]
  exact ⟨e, by unfold opensB; rw [e]; simp [h0]⟩
theorem opens_h {l k : List (Int × Int)} {h : Int} (hl : chk l = 0) (hk : chk k = 0) (hh : hOk h = false) : opensE l k h = 3 ∧ opensB l k h = false := by
  have e : opensE l k h = 3 := by unfold opensE; rw [if_pos hl, if_pos hk, hh]; rfl
  exact ⟨e, by unfold opensB; rw [e]; rfl⟩
theorem opens_o {l k : List (Int × Int)} {h : Int} (hl : chk l = 0) (hk : chk k = 0) (hh : hOk h = true) : opensB l k h = openedB l k h := by
  have e := opensE_mk hl hk hh
  unfold opensB openedB; rw [e]; rfl
theorem stackOk_len {Z : List Int} (h : 16 < Z.length) : stackOk Z = false := by unfold stackOk; rw [decide_eq_false (by omega)]; rfl
theorem stackOk_off {Z : List Int} (h : Z.all fit = false) : stackOk Z = false := by unfold stackOk; rw [h]; exact Bool.and_false _
theorem stackOk_mk {Z : List Int} (h : Z.length ≤ 16) (g : Z.all fit = true) : stackOk Z = true := by unfold stackOk; rw [g, decide_eq_true h]; rfl
theorem hOk_lo {h : Int} (hh : h < 0) : hOk h = false := by unfold hOk; simp; omega
theorem hOk_hi {h : Int} (hh : 1000 < h) : hOk h = false := by unfold hOk; simp; omega
theorem hOk_mid {h : Int} (h1 : 0 ≤ h) (h2 : h ≤ 1000) : hOk h = true := by unfold hOk; simp; omega
theorem rcheck_is (a : Option Addr) (len cap : Nat) (l : List (Int × Int)) (x : Int) (w : World) (hx : chk l = x) (h : OpsAt w a len l) :
    Calls Tryd.prog 6 #[.slice a len cap] w fun e w' => e = .returned (.int .i64 x) ∧ Below w.heap.size w w' := by
  subst hx; exact rcheck_any a len cap l w h
theorem opened_is (a b : Option Addr) (lena capa lenb capb : Nat) (l k : List (Int × Int)) (h : Int) (o : Bool) (w : World) (ho : opensB l k h = o) (hO : OpsAt w a lena l) (hK : OpsAt w b lenb k) (hcl : chk l = 0) (hck : chk k = 0) (hh : hOk h = true) :
    Calls Tryd.prog 9 #[.slice a lena capa, .slice b lenb capb, .int .i64 h] w fun e w' => e = .returned (.bool o) ∧ Below w.heap.size w w' := by
  subst ho; rw [opens_o hcl hck hh]; exact opened_any a b lena capa lenb capb l k h w hO hK hcl hck hh


set_option maxRecDepth 10000 in
set_option maxHeartbeats 3200000 in
theorem lr_l (a az ak : Option Addr) (len cap lens caps lenk capk : Nat) (l k : List (Int × Int)) (Z : List Int) (h : Int) (w : World) (hE : Env w) (hO : OpsAt w a len l) (hR : RowAt w az lens Z) (hK : OpsAt w ak lenk k) (hcz : az = none → caps = 0) (x : Int) (hx : chk l = x) (h0 : x ≠ 0) :
    Calls Tryd.prog 3 #[.slice a len cap, .slice az lens caps, .int .i64 h, .slice ak lenk capk] w fun e w' => e = .returned (.bool true) ∧ Below w.heap.size w w' := by
  have RE := hide (runE_bad (l := l) (Z := Z) (h := h) (by rw [hx]; exact h0))
  rw [hx] at RE
  have OE := hide (opens_l (k := k) (h := h) hx h0)
  have CL := hide hx
  have g1 : (x == 0) = false := by simp [h0]
  have g2 : (x != 0) = true := by simp [h0]
  clear hx h0
  have HE := hide hE
  have HO := hide hO
  have HR := hide hR
  have HK := hide hK
  have HZ := hide hcz
  clear hE hO hR hK hcz
  go_enter Tryd.func3, Tryd.ntmps3
  go_wp2_with fail
  refine (run_is a az len cap lens caps l Z h (x) [] _ (unhide RE).1 (unhide RE).2 (unhide HO) (unhide HR)).mono ?_
  rintro e w1 ⟨a1, cap1, rfl, hr1, hb1⟩
  have HB1 := hide hb1
  have HR1 := hide hr1
  clear hb1 hr1
  go_wp2_with fail
  refine (opens_is a ak len cap lenk capk l k h false (x) _ (unhide OE).2 (unhide OE).1 ((unhide HO).later (unhide HB1)) ((unhide HK).later (unhide HB1))).mono ?_
  rintro e w2 ⟨rfl, hb2⟩
  have HR2 := hide ((unhide HR1).later hb2)
  have HB2 := hide (bel_two (unhide HB1) hb2)
  clear hb2
  go_wp2_with fail
  refine (rcheck_is a len cap l (x) _ (unhide CL) ((unhide HO).later (unhide HB2))).mono ?_
  rintro e w3 ⟨rfl, hb3⟩
  have HR3 := hide ((unhide HR2).later hb3)
  have HB3 := hide (bel_two (unhide HB2) hb3)
  clear hb3
  go_wp2_with fail
  refine (locked_yes _ ((unhide HE).later (unhide HB3))).mono ?_
  rintro e w4 ⟨rfl, hb4⟩
  have HR4 := hide ((unhide HR3).later hb4)
  have HB4 := hide (bel_two (unhide HB3) hb4)
  clear hb4
  go_wp2_with fail
  refine (check_is a len cap l (x) _ (unhide CL) ((unhide HO).later (unhide HB4))).mono ?_
  rintro e w5 ⟨rfl, hb5⟩
  have HR5 := hide ((unhide HR4).later hb5)
  have HB5 := hide (bel_two (unhide HB4) hb5)
  clear hb5
  go_wp2
  go_ret
  exact ⟨rfl, unhide HB5⟩

set_option maxRecDepth 10000 in
set_option maxHeartbeats 3200000 in
theorem lr_k_lo (a az ak : Option Addr) (len cap lens caps lenk capk : Nat) (l k : List (Int × Int)) (Z : List Int) (h : Int) (w : World) (hE : Env w) (hO : OpsAt w a len l) (hR : RowAt w az lens Z) (hK : OpsAt w ak lenk k) (hcz : az = none → caps = 0) (hh : h < 0) (y : Int) (hl : chk l = 0) (hy : chk k = y) (y0 : y ≠ 0) :
    Calls Tryd.prog 3 #[.slice a len cap, .slice az lens caps, .int .i64 h, .slice ak lenk capk] w fun e w' => e = .returned (.bool true) ∧ Below w.heap.size w w' := by
  have HB := hOk_lo hh
  have OE := hide (opens_k (h := h) hl hy y0)
  have CL := hide hl
  have CK := hide hy
  have g1 : (y == 0) = false := by simp [y0]
  have g2 : (y != 0) = true := by simp [y0]
  have RE := hide (runE_range (Z := Z) hl (by rw [HB]; exact Bool.and_false _))
  clear HB hl hy y0
  have HE := hide hE
  have HO := hide hO
  have HR := hide hR
  have HK := hide hK
  have HZ := hide hcz
  clear hE hO hR hK hcz
  go_enter Tryd.func3, Tryd.ntmps3
  go_wp2_with fail
  refine (run_is a az len cap lens caps l Z h (3) [] _ (unhide RE).1 (unhide RE).2 (unhide HO) (unhide HR)).mono ?_
  rintro e w1 ⟨a1, cap1, rfl, hr1, hb1⟩
  have HB1 := hide hb1
  have HR1 := hide hr1
  clear hb1 hr1
  go_wp2_with fail
  refine (opens_is a ak len cap lenk capk l k h false (y) _ (unhide OE).2 (unhide OE).1 ((unhide HO).later (unhide HB1)) ((unhide HK).later (unhide HB1))).mono ?_
  rintro e w2 ⟨rfl, hb2⟩
  have HR2 := hide ((unhide HR1).later hb2)
  have HB2 := hide (bel_two (unhide HB1) hb2)
  clear hb2
  go_wp2_with fail
  refine (rcheck_is a len cap l (0) _ (unhide CL) ((unhide HO).later (unhide HB2))).mono ?_
  rintro e w3 ⟨rfl, hb3⟩
  have HR3 := hide ((unhide HR2).later hb3)
  have HB3 := hide (bel_two (unhide HB2) hb3)
  clear hb3
  go_wp2_with fail
  refine (locked_yes _ ((unhide HE).later (unhide HB3))).mono ?_
  rintro e w4 ⟨rfl, hb4⟩
  have HR4 := hide ((unhide HR3).later hb4)
  have HB4 := hide (bel_two (unhide HB3) hb4)
  clear hb4
  go_wp2_with fail
  refine (check_is a len cap l (0) _ (unhide CL) ((unhide HO).later (unhide HB4))).mono ?_
  rintro e w5 ⟨rfl, hb5⟩
  have HR5 := hide ((unhide HR4).later hb5)
  have HB5 := hide (bel_two (unhide HB4) hb5)
  clear hb5
  go_wp2_with fail
  refine (rcheck_is ak lenk capk k (y) _ (unhide CK) ((unhide HK).later (unhide HB5))).mono ?_
  rintro e w6 ⟨rfl, hb6⟩
  have HR6 := hide ((unhide HR5).later hb6)
  have HB6 := hide (bel_two (unhide HB5) hb6)
  clear hb6
  go_wp2
  go_ret
  exact ⟨rfl, unhide HB6⟩

set_option maxRecDepth 10000 in
set_option maxHeartbeats 3200000 in
theorem lr_k_hi (a az ak : Option Addr) (len cap lens caps lenk capk : Nat) (l k : List (Int × Int)) (Z : List Int) (h : Int) (w : World) (hE : Env w) (hO : OpsAt w a len l) (hR : RowAt w az lens Z) (hK : OpsAt w ak lenk k) (hcz : az = none → caps = 0) (h1 : 0 ≤ h) (hh : 1000 < h) (y : Int) (hl : chk l = 0) (hy : chk k = y) (y0 : y ≠ 0) :
    Calls Tryd.prog 3 #[.slice a len cap, .slice az lens caps, .int .i64 h, .slice ak lenk capk] w fun e w' => e = .returned (.bool true) ∧ Below w.heap.size w w' := by
  have HB := hOk_hi hh
  have OE := hide (opens_k (h := h) hl hy y0)
  have CL := hide hl
  have CK := hide hy
  have g1 : (y == 0) = false := by simp [y0]
  have g2 : (y != 0) = true := by simp [y0]
  have RE := hide (runE_range (Z := Z) hl (by rw [HB]; exact Bool.and_false _))
  clear HB hl hy y0
  have HE := hide hE
  have HO := hide hO
  have HR := hide hR
  have HK := hide hK
  have HZ := hide hcz
  clear hE hO hR hK hcz
  go_enter Tryd.func3, Tryd.ntmps3
  go_wp2_with fail
  refine (run_is a az len cap lens caps l Z h (3) [] _ (unhide RE).1 (unhide RE).2 (unhide HO) (unhide HR)).mono ?_
  rintro e w1 ⟨a1, cap1, rfl, hr1, hb1⟩
  have HB1 := hide hb1
  have HR1 := hide hr1
  clear hb1 hr1
  go_wp2_with fail
  refine (opens_is a ak len cap lenk capk l k h false (y) _ (unhide OE).2 (unhide OE).1 ((unhide HO).later (unhide HB1)) ((unhide HK).later (unhide HB1))).mono ?_
  rintro e w2 ⟨rfl, hb2⟩
  have HR2 := hide ((unhide HR1).later hb2)
  have HB2 := hide (bel_two (unhide HB1) hb2)
  clear hb2
  go_wp2_with fail
  refine (rcheck_is a len cap l (0) _ (unhide CL) ((unhide HO).later (unhide HB2))).mono ?_
  rintro e w3 ⟨rfl, hb3⟩
  have HR3 := hide ((unhide HR2).later hb3)
  have HB3 := hide (bel_two (unhide HB2) hb3)
  clear hb3
  go_wp2_with fail
  refine (locked_yes _ ((unhide HE).later (unhide HB3))).mono ?_
  rintro e w4 ⟨rfl, hb4⟩
  have HR4 := hide ((unhide HR3).later hb4)
  have HB4 := hide (bel_two (unhide HB3) hb4)
  clear hb4
  go_wp2_with fail
  refine (check_is a len cap l (0) _ (unhide CL) ((unhide HO).later (unhide HB4))).mono ?_
  rintro e w5 ⟨rfl, hb5⟩
  have HR5 := hide ((unhide HR4).later hb5)
  have HB5 := hide (bel_two (unhide HB4) hb5)
  clear hb5
  go_wp2_with fail
  refine (rcheck_is ak lenk capk k (y) _ (unhide CK) ((unhide HK).later (unhide HB5))).mono ?_
  rintro e w6 ⟨rfl, hb6⟩
  have HR6 := hide ((unhide HR5).later hb6)
  have HB6 := hide (bel_two (unhide HB5) hb6)
  clear hb6
  go_wp2
  go_ret
  exact ⟨rfl, unhide HB6⟩

set_option maxRecDepth 10000 in
set_option maxHeartbeats 3200000 in
theorem lr_k_len (a az ak : Option Addr) (len cap lens caps lenk capk : Nat) (l k : List (Int × Int)) (Z : List Int) (h : Int) (w : World) (hE : Env w) (hO : OpsAt w a len l) (hR : RowAt w az lens Z) (hK : OpsAt w ak lenk k) (hcz : az = none → caps = 0) (h1 : 0 ≤ h) (h2 : h ≤ 1000) (y : Int) (hl : chk l = 0) (hy : chk k = y) (y0 : y ≠ 0) (hs : 16 < lens) :
    Calls Tryd.prog 3 #[.slice a len cap, .slice az lens caps, .int .i64 h, .slice ak lenk capk] w fun e w' => e = .returned (.bool true) ∧ Below w.heap.size w w' := by
  have OE := hide (opens_k (h := h) hl hy y0)
  have CL := hide hl
  have CK := hide hy
  have g1 : (y == 0) = false := by simp [y0]
  have g2 : (y != 0) = true := by simp [y0]
  have HH := hide (hOk_mid h1 h2)
  have RE := hide (runE_range (Z := Z) (h := h) hl (by rw [stackOk_len (by have := hR.1; omega)]; rfl))
  have gs : (16 : Int) < (lens : Int) := by omega
  clear hl hy y0
  have HE := hide hE
  have HO := hide hO
  have HR := hide hR
  have HK := hide hK
  have HZ := hide hcz
  clear hE hO hR hK hcz
  go_enter Tryd.func3, Tryd.ntmps3
  go_wp2_with fail
  refine (run_is a az len cap lens caps l Z h (3) [] _ (unhide RE).1 (unhide RE).2 (unhide HO) (unhide HR)).mono ?_
  rintro e w1 ⟨a1, cap1, rfl, hr1, hb1⟩
  have HB1 := hide hb1
  have HR1 := hide hr1
  clear hb1 hr1
  go_wp2_with fail
  refine (opens_is a ak len cap lenk capk l k h false (y) _ (unhide OE).2 (unhide OE).1 ((unhide HO).later (unhide HB1)) ((unhide HK).later (unhide HB1))).mono ?_
  rintro e w2 ⟨rfl, hb2⟩
  have HR2 := hide ((unhide HR1).later hb2)
  have HB2 := hide (bel_two (unhide HB1) hb2)
  clear hb2
  go_wp2_with fail
  refine (rcheck_is a len cap l (0) _ (unhide CL) ((unhide HO).later (unhide HB2))).mono ?_
  rintro e w3 ⟨rfl, hb3⟩
  have HR3 := hide ((unhide HR2).later hb3)
  have HB3 := hide (bel_two (unhide HB2) hb3)
  clear hb3
  go_wp2_with fail
  refine (locked_yes _ ((unhide HE).later (unhide HB3))).mono ?_
  rintro e w4 ⟨rfl, hb4⟩
  have HR4 := hide ((unhide HR3).later hb4)
  have HB4 := hide (bel_two (unhide HB3) hb4)
  clear hb4
  go_wp2_with fail
  refine (check_is a len cap l (0) _ (unhide CL) ((unhide HO).later (unhide HB4))).mono ?_
  rintro e w5 ⟨rfl, hb5⟩
  have HR5 := hide ((unhide HR4).later hb5)
  have HB5 := hide (bel_two (unhide HB4) hb5)
  clear hb5
  go_wp2_with fail
  refine (rcheck_is ak lenk capk k (y) _ (unhide CK) ((unhide HK).later (unhide HB5))).mono ?_
  rintro e w6 ⟨rfl, hb6⟩
  have HR6 := hide ((unhide HR5).later hb6)
  have HB6 := hide (bel_two (unhide HB5) hb6)
  clear hb6
  go_wp2
  go_ret
  exact ⟨rfl, unhide HB6⟩

set_option maxRecDepth 10000 in
set_option maxHeartbeats 3200000 in
theorem lr_k_off (a az ak : Option Addr) (len cap lens caps lenk capk : Nat) (l k : List (Int × Int)) (Z : List Int) (h : Int) (w : World) (hE : Env w) (hO : OpsAt w a len l) (hR : RowAt w az lens Z) (hK : OpsAt w ak lenk k) (hcz : az = none → caps = 0) (h1 : 0 ≤ h) (h2 : h ≤ 1000) (y : Int) (hl : chk l = 0) (hy : chk k = y) (y0 : y ≠ 0) (hs : lens ≤ 16) (hz : Z.all fit = false) :
    Calls Tryd.prog 3 #[.slice a len cap, .slice az lens caps, .int .i64 h, .slice ak lenk capk] w fun e w' => e = .returned (.bool true) ∧ Below w.heap.size w w' := by
  have OE := hide (opens_k (h := h) hl hy y0)
  have CL := hide hl
  have CK := hide hy
  have g1 : (y == 0) = false := by simp [y0]
  have g2 : (y != 0) = true := by simp [y0]
  have HH := hide (hOk_mid h1 h2)
  have RE := hide (runE_range (Z := Z) (h := h) hl (by rw [stackOk_off hz]; rfl))
  have ZA : Hid (Z.all fit = !true) := hz
  have gs : ¬ (16 : Int) < (lens : Int) := by omega
  clear hz hl hy y0
  have HE := hide hE
  have HO := hide hO
  have HR := hide hR
  have HK := hide hK
  have HZ := hide hcz
  clear hE hO hR hK hcz
  go_enter Tryd.func3, Tryd.ntmps3
  go_wp2_with fail
  refine (run_is a az len cap lens caps l Z h (3) [] _ (unhide RE).1 (unhide RE).2 (unhide HO) (unhide HR)).mono ?_
  rintro e w1 ⟨a1, cap1, rfl, hr1, hb1⟩
  have HB1 := hide hb1
  have HR1 := hide hr1
  clear hb1 hr1
  go_wp2_with fail
  refine (opens_is a ak len cap lenk capk l k h false (y) _ (unhide OE).2 (unhide OE).1 ((unhide HO).later (unhide HB1)) ((unhide HK).later (unhide HB1))).mono ?_
  rintro e w2 ⟨rfl, hb2⟩
  have HR2 := hide ((unhide HR1).later hb2)
  have HB2 := hide (bel_two (unhide HB1) hb2)
  clear hb2
  go_wp2_with fail
  refine (rcheck_is a len cap l (0) _ (unhide CL) ((unhide HO).later (unhide HB2))).mono ?_
  rintro e w3 ⟨rfl, hb3⟩
  have HR3 := hide ((unhide HR2).later hb3)
  have HB3 := hide (bel_two (unhide HB2) hb3)
  clear hb3
  go_wp2_with fail
  refine (locked_yes _ ((unhide HE).later (unhide HB3))).mono ?_
  rintro e w4 ⟨rfl, hb4⟩
  have HR4 := hide ((unhide HR3).later hb4)
  have HB4 := hide (bel_two (unhide HB3) hb4)
  clear hb4
  go_wp2_with fail
  refine (check_is a len cap l (0) _ (unhide CL) ((unhide HO).later (unhide HB4))).mono ?_
  rintro e w5 ⟨rfl, hb5⟩
  have HR5 := hide ((unhide HR4).later hb5)
  have HB5 := hide (bel_two (unhide HB4) hb5)
  clear hb5
  go_wp2_with fail
  refine (rcheck_is ak lenk capk k (y) _ (unhide CK) ((unhide HK).later (unhide HB5))).mono ?_
  rintro e w6 ⟨rfl, hb6⟩
  have HR6 := hide ((unhide HR5).later hb6)
  have HB6 := hide (bel_two (unhide HB5) hb6)
  clear hb6
  go_wp2_with fail
  refine (contf_is az lens caps Z true _ (unhide ZA) ((unhide HR).later (unhide HB6))).mono ?_
  rintro e w7 ⟨rfl, rfl⟩
  go_wp2
  go_ret
  exact ⟨rfl, unhide HB6⟩

set_option maxRecDepth 10000 in
set_option maxHeartbeats 3200000 in
theorem lr_k_key (a az ak : Option Addr) (len cap lens caps lenk capk : Nat) (l k : List (Int × Int)) (Z : List Int) (h : Int) (w : World) (hE : Env w) (hO : OpsAt w a len l) (hR : RowAt w az lens Z) (hK : OpsAt w ak lenk k) (hcz : az = none → caps = 0) (h1 : 0 ≤ h) (h2 : h ≤ 1000) (y : Int) (hl : chk l = 0) (hy : chk k = y) (y0 : y ≠ 0) (hs : lens ≤ 16) (hz : Z.all fit = true) (rl : runL h l Z = none) :
    Calls Tryd.prog 3 #[.slice a len cap, .slice az lens caps, .int .i64 h, .slice ak lenk capk] w fun e w' => e = .returned (.bool true) ∧ Below w.heap.size w w' := by
  have OE := hide (opens_k (h := h) hl hy y0)
  have CL := hide hl
  have CK := hide hy
  have g1 : (y == 0) = false := by simp [y0]
  have g2 : (y != 0) = true := by simp [y0]
  have HH := hide (hOk_mid h1 h2)
  have sk : stackOk Z = true := stackOk_mk (by have := hR.1; omega) hz
  have SK := hide sk
  have ZA : Hid (Z.all fit = !false) := hz
  have RL := hide rl
  have RE := hide (runE_key hl (by rw [sk, unhide HH]; rfl) rl)
  have gs : ¬ (16 : Int) < (lens : Int) := by omega
  clear hz sk rl hl hy y0
  have HE := hide hE
  have HO := hide hO
  have HR := hide hR
  have HK := hide hK
  have HZ := hide hcz
  clear hE hO hR hK hcz
  go_enter Tryd.func3, Tryd.ntmps3
  go_wp2_with fail
  refine (run_is a az len cap lens caps l Z h (8) [] _ (unhide RE).1 (unhide RE).2 (unhide HO) (unhide HR)).mono ?_
  rintro e w1 ⟨a1, cap1, rfl, hr1, hb1⟩
  have HB1 := hide hb1
  have HR1 := hide hr1
  clear hb1 hr1
  go_wp2_with fail
  refine (opens_is a ak len cap lenk capk l k h false (y) _ (unhide OE).2 (unhide OE).1 ((unhide HO).later (unhide HB1)) ((unhide HK).later (unhide HB1))).mono ?_
  rintro e w2 ⟨rfl, hb2⟩
  have HR2 := hide ((unhide HR1).later hb2)
  have HB2 := hide (bel_two (unhide HB1) hb2)
  clear hb2
  go_wp2_with fail
  refine (rcheck_is a len cap l (0) _ (unhide CL) ((unhide HO).later (unhide HB2))).mono ?_
  rintro e w3 ⟨rfl, hb3⟩
  have HR3 := hide ((unhide HR2).later hb3)
  have HB3 := hide (bel_two (unhide HB2) hb3)
  clear hb3
  go_wp2_with fail
  refine (locked_yes _ ((unhide HE).later (unhide HB3))).mono ?_
  rintro e w4 ⟨rfl, hb4⟩
  have HR4 := hide ((unhide HR3).later hb4)
  have HB4 := hide (bel_two (unhide HB3) hb4)
  clear hb4
  go_wp2_with fail
  refine (check_is a len cap l (0) _ (unhide CL) ((unhide HO).later (unhide HB4))).mono ?_
  rintro e w5 ⟨rfl, hb5⟩
  have HR5 := hide ((unhide HR4).later hb5)
  have HB5 := hide (bel_two (unhide HB4) hb5)
  clear hb5
  go_wp2_with fail
  refine (rcheck_is ak lenk capk k (y) _ (unhide CK) ((unhide HK).later (unhide HB5))).mono ?_
  rintro e w6 ⟨rfl, hb6⟩
  have HR6 := hide ((unhide HR5).later hb6)
  have HB6 := hide (bel_two (unhide HB5) hb6)
  clear hb6
  go_wp2_with fail
  refine (contf_is az lens caps Z false _ (unhide ZA) ((unhide HR).later (unhide HB6))).mono ?_
  rintro e w7 ⟨rfl, rfl⟩
  go_wp2_with fail
  refine (runops_any a len cap l az lens caps Z h _ ((unhide HO).later (unhide HB6)) (unhide CL) ((unhide HR).later (unhide HB6)) (unhide HZ) (unhide SK) (unhide HH)).mono ?_
  rw [unhide RL]
  rintro e w7 ⟨a7, cap7, rfl, hr7, hb7, _⟩
  have HR7 := hide ((unhide HR6).later hb7)
  have HS7 := hide hr7
  have HB7 := hide (bel_two (unhide HB6) hb7)
  clear hb7 hr7
  go_wp2
  go_ret
  exact ⟨rfl, unhide HB7⟩

set_option maxRecDepth 10000 in
set_option maxHeartbeats 3200000 in
theorem lr_k_fine (a az ak : Option Addr) (len cap lens caps lenk capk : Nat) (l k : List (Int × Int)) (Z : List Int) (h : Int) (w : World) (hE : Env w) (hO : OpsAt w a len l) (hR : RowAt w az lens Z) (hK : OpsAt w ak lenk k) (hcz : az = none → caps = 0) (h1 : 0 ≤ h) (h2 : h ≤ 1000) (y : Int) (hl : chk l = 0) (hy : chk k = y) (y0 : y ≠ 0) (hs : lens ≤ 16) (L : List Int) (hz : Z.all fit = true) (rl : runL h l Z = some L) :
    Calls Tryd.prog 3 #[.slice a len cap, .slice az lens caps, .int .i64 h, .slice ak lenk capk] w fun e w' => e = .returned (.bool true) ∧ Below w.heap.size w w' := by
  have OE := hide (opens_k (h := h) hl hy y0)
  have CL := hide hl
  have CK := hide hy
  have g1 : (y == 0) = false := by simp [y0]
  have g2 : (y != 0) = true := by simp [y0]
  have HH := hide (hOk_mid h1 h2)
  have sk : stackOk Z = true := stackOk_mk (by have := hR.1; omega) hz
  have SK := hide sk
  have ZA : Hid (Z.all fit = !false) := hz
  have RL := hide rl
  have RE := hide (runE_fine hl (by rw [sk, unhide HH]; rfl) rl)
  have gs : ¬ (16 : Int) < (lens : Int) := by omega
  clear hz sk rl hl hy y0
  have HE := hide hE
  have HO := hide hO
  have HR := hide hR
  have HK := hide hK
  have HZ := hide hcz
  clear hE hO hR hK hcz
  go_enter Tryd.func3, Tryd.ntmps3
  go_wp2_with fail
  refine (run_is a az len cap lens caps l Z h (0) L _ (unhide RE).1 (unhide RE).2 (unhide HO) (unhide HR)).mono ?_
  rintro e w1 ⟨a1, cap1, rfl, hr1, hb1⟩
  have HB1 := hide hb1
  have HR1 := hide hr1
  clear hb1 hr1
  go_wp2_with fail
  refine (opens_is a ak len cap lenk capk l k h false (y) _ (unhide OE).2 (unhide OE).1 ((unhide HO).later (unhide HB1)) ((unhide HK).later (unhide HB1))).mono ?_
  rintro e w2 ⟨rfl, hb2⟩
  have HR2 := hide ((unhide HR1).later hb2)
  have HB2 := hide (bel_two (unhide HB1) hb2)
  clear hb2
  go_wp2_with fail
  refine (rcheck_is a len cap l (0) _ (unhide CL) ((unhide HO).later (unhide HB2))).mono ?_
  rintro e w3 ⟨rfl, hb3⟩
  have HR3 := hide ((unhide HR2).later hb3)
  have HB3 := hide (bel_two (unhide HB2) hb3)
  clear hb3
  go_wp2_with fail
  refine (locked_yes _ ((unhide HE).later (unhide HB3))).mono ?_
  rintro e w4 ⟨rfl, hb4⟩
  have HR4 := hide ((unhide HR3).later hb4)
  have HB4 := hide (bel_two (unhide HB3) hb4)
  clear hb4
  go_wp2_with fail
  refine (check_is a len cap l (0) _ (unhide CL) ((unhide HO).later (unhide HB4))).mono ?_
  rintro e w5 ⟨rfl, hb5⟩
  have HR5 := hide ((unhide HR4).later hb5)
  have HB5 := hide (bel_two (unhide HB4) hb5)
  clear hb5
  go_wp2_with fail
  refine (rcheck_is ak lenk capk k (y) _ (unhide CK) ((unhide HK).later (unhide HB5))).mono ?_
  rintro e w6 ⟨rfl, hb6⟩
  have HR6 := hide ((unhide HR5).later hb6)
  have HB6 := hide (bel_two (unhide HB5) hb6)
  clear hb6
  go_wp2_with fail
  refine (contf_is az lens caps Z false _ (unhide ZA) ((unhide HR).later (unhide HB6))).mono ?_
  rintro e w7 ⟨rfl, rfl⟩
  go_wp2_with fail
  refine (runops_any a len cap l az lens caps Z h _ ((unhide HO).later (unhide HB6)) (unhide CL) ((unhide HR).later (unhide HB6)) (unhide HZ) (unhide SK) (unhide HH)).mono ?_
  rw [unhide RL]
  rintro e w7 ⟨a7, cap7, rfl, hr7, hb7, _⟩
  have HR7 := hide ((unhide HR6).later hb7)
  have HS7 := hide hr7
  have HB7 := hide (bel_two (unhide HB6) hb7)
  clear hb7 hr7
  go_wp2_with fail
  refine (equal_ints a1 a7 L.length cap1 cap7 L _ (unhide HR7) (unhide HS7)).mono ?_
  rintro e w8 ⟨rfl, hb8⟩
  have HB8 := hide (bel_two (unhide HB7) hb8)
  clear hb8
  go_wp2
  go_ret
  exact ⟨rfl, unhide HB8⟩

set_option maxRecDepth 10000 in
set_option maxHeartbeats 3200000 in
theorem lr_h_lo (a az ak : Option Addr) (len cap lens caps lenk capk : Nat) (l k : List (Int × Int)) (Z : List Int) (h : Int) (w : World) (hE : Env w) (hO : OpsAt w a len l) (hR : RowAt w az lens Z) (hK : OpsAt w ak lenk k) (hcz : az = none → caps = 0) (hh : h < 0) (hl : chk l = 0) (hy : chk k = 0) :
    Calls Tryd.prog 3 #[.slice a len cap, .slice az lens caps, .int .i64 h, .slice ak lenk capk] w fun e w' => e = .returned (.bool true) ∧ Below w.heap.size w w' := by
  have HB := hOk_lo hh
  have OE := hide (opens_h hl hy HB)
  have CL := hide hl
  have CK := hide hy
  have RE := hide (runE_range (Z := Z) hl (by rw [HB]; exact Bool.and_false _))
  clear HB hl hy
  have HE := hide hE
  have HO := hide hO
  have HR := hide hR
  have HK := hide hK
  have HZ := hide hcz
  clear hE hO hR hK hcz
  go_enter Tryd.func3, Tryd.ntmps3
  go_wp2_with fail
  refine (run_is a az len cap lens caps l Z h (3) [] _ (unhide RE).1 (unhide RE).2 (unhide HO) (unhide HR)).mono ?_
  rintro e w1 ⟨a1, cap1, rfl, hr1, hb1⟩
  have HB1 := hide hb1
  have HR1 := hide hr1
  clear hb1 hr1
  go_wp2_with fail
  refine (opens_is a ak len cap lenk capk l k h false (3) _ (unhide OE).2 (unhide OE).1 ((unhide HO).later (unhide HB1)) ((unhide HK).later (unhide HB1))).mono ?_
  rintro e w2 ⟨rfl, hb2⟩
  have HR2 := hide ((unhide HR1).later hb2)
  have HB2 := hide (bel_two (unhide HB1) hb2)
  clear hb2
  go_wp2_with fail
  refine (rcheck_is a len cap l (0) _ (unhide CL) ((unhide HO).later (unhide HB2))).mono ?_
  rintro e w3 ⟨rfl, hb3⟩
  have HR3 := hide ((unhide HR2).later hb3)
  have HB3 := hide (bel_two (unhide HB2) hb3)
  clear hb3
  go_wp2_with fail
  refine (locked_yes _ ((unhide HE).later (unhide HB3))).mono ?_
  rintro e w4 ⟨rfl, hb4⟩
  have HR4 := hide ((unhide HR3).later hb4)
  have HB4 := hide (bel_two (unhide HB3) hb4)
  clear hb4
  go_wp2_with fail
  refine (check_is a len cap l (0) _ (unhide CL) ((unhide HO).later (unhide HB4))).mono ?_
  rintro e w5 ⟨rfl, hb5⟩
  have HR5 := hide ((unhide HR4).later hb5)
  have HB5 := hide (bel_two (unhide HB4) hb5)
  clear hb5
  go_wp2_with fail
  refine (rcheck_is ak lenk capk k (0) _ (unhide CK) ((unhide HK).later (unhide HB5))).mono ?_
  rintro e w6 ⟨rfl, hb6⟩
  have HR6 := hide ((unhide HR5).later hb6)
  have HB6 := hide (bel_two (unhide HB5) hb6)
  clear hb6
  go_wp2
  go_ret
  exact ⟨rfl, unhide HB6⟩

set_option maxRecDepth 10000 in
set_option maxHeartbeats 3200000 in
theorem lr_h_hi (a az ak : Option Addr) (len cap lens caps lenk capk : Nat) (l k : List (Int × Int)) (Z : List Int) (h : Int) (w : World) (hE : Env w) (hO : OpsAt w a len l) (hR : RowAt w az lens Z) (hK : OpsAt w ak lenk k) (hcz : az = none → caps = 0) (h1 : 0 ≤ h) (hh : 1000 < h) (hl : chk l = 0) (hy : chk k = 0) :
    Calls Tryd.prog 3 #[.slice a len cap, .slice az lens caps, .int .i64 h, .slice ak lenk capk] w fun e w' => e = .returned (.bool true) ∧ Below w.heap.size w w' := by
  have HB := hOk_hi hh
  have OE := hide (opens_h hl hy HB)
  have CL := hide hl
  have CK := hide hy
  have RE := hide (runE_range (Z := Z) hl (by rw [HB]; exact Bool.and_false _))
  clear HB hl hy
  have HE := hide hE
  have HO := hide hO
  have HR := hide hR
  have HK := hide hK
  have HZ := hide hcz
  clear hE hO hR hK hcz
  go_enter Tryd.func3, Tryd.ntmps3
  go_wp2_with fail
  refine (run_is a az len cap lens caps l Z h (3) [] _ (unhide RE).1 (unhide RE).2 (unhide HO) (unhide HR)).mono ?_
  rintro e w1 ⟨a1, cap1, rfl, hr1, hb1⟩
  have HB1 := hide hb1
  have HR1 := hide hr1
  clear hb1 hr1
  go_wp2_with fail
  refine (opens_is a ak len cap lenk capk l k h false (3) _ (unhide OE).2 (unhide OE).1 ((unhide HO).later (unhide HB1)) ((unhide HK).later (unhide HB1))).mono ?_
  rintro e w2 ⟨rfl, hb2⟩
  have HR2 := hide ((unhide HR1).later hb2)
  have HB2 := hide (bel_two (unhide HB1) hb2)
  clear hb2
  go_wp2_with fail
  refine (rcheck_is a len cap l (0) _ (unhide CL) ((unhide HO).later (unhide HB2))).mono ?_
  rintro e w3 ⟨rfl, hb3⟩
  have HR3 := hide ((unhide HR2).later hb3)
  have HB3 := hide (bel_two (unhide HB2) hb3)
  clear hb3
  go_wp2_with fail
  refine (locked_yes _ ((unhide HE).later (unhide HB3))).mono ?_
  rintro e w4 ⟨rfl, hb4⟩
  have HR4 := hide ((unhide HR3).later hb4)
  have HB4 := hide (bel_two (unhide HB3) hb4)
  clear hb4
  go_wp2_with fail
  refine (check_is a len cap l (0) _ (unhide CL) ((unhide HO).later (unhide HB4))).mono ?_
  rintro e w5 ⟨rfl, hb5⟩
  have HR5 := hide ((unhide HR4).later hb5)
  have HB5 := hide (bel_two (unhide HB4) hb5)
  clear hb5
  go_wp2_with fail
  refine (rcheck_is ak lenk capk k (0) _ (unhide CK) ((unhide HK).later (unhide HB5))).mono ?_
  rintro e w6 ⟨rfl, hb6⟩
  have HR6 := hide ((unhide HR5).later hb6)
  have HB6 := hide (bel_two (unhide HB5) hb6)
  clear hb6
  go_wp2
  go_ret
  exact ⟨rfl, unhide HB6⟩

set_option maxRecDepth 10000 in
set_option maxHeartbeats 3200000 in
theorem lr_o_len (a az ak : Option Addr) (len cap lens caps lenk capk : Nat) (l k : List (Int × Int)) (Z : List Int) (h : Int) (w : World) (hE : Env w) (hO : OpsAt w a len l) (hR : RowAt w az lens Z) (hK : OpsAt w ak lenk k) (hcz : az = none → caps = 0) (h1 : 0 ≤ h) (h2 : h ≤ 1000) (o : Bool) (ho : opensB l k h = o) (hl : chk l = 0) (hy : chk k = 0) (hs : 16 < lens) :
    Calls Tryd.prog 3 #[.slice a len cap, .slice az lens caps, .int .i64 h, .slice ak lenk capk] w fun e w' => e = .returned (.bool true) ∧ Below w.heap.size w w' := by
  have OE : Hid (opensE l k h = 0 ∧ opensB l k h = o) := ⟨opensE_mk hl hy (hOk_mid h1 h2), ho⟩
  have CL := hide hl
  have CK := hide hy
  have HH := hide (hOk_mid h1 h2)
  have RE := hide (runE_range (Z := Z) (h := h) hl (by rw [stackOk_len (by have := hR.1; omega)]; rfl))
  have gs : (16 : Int) < (lens : Int) := by omega
  clear hl hy ho
  have HE := hide hE
  have HO := hide hO
  have HR := hide hR
  have HK := hide hK
  have HZ := hide hcz
  clear hE hO hR hK hcz
  go_enter Tryd.func3, Tryd.ntmps3
  go_wp2_with fail
  refine (run_is a az len cap lens caps l Z h (3) [] _ (unhide RE).1 (unhide RE).2 (unhide HO) (unhide HR)).mono ?_
  rintro e w1 ⟨a1, cap1, rfl, hr1, hb1⟩
  have HB1 := hide hb1
  have HR1 := hide hr1
  clear hb1 hr1
  go_wp2_with fail
  refine (opens_is a ak len cap lenk capk l k h o (0) _ (unhide OE).2 (unhide OE).1 ((unhide HO).later (unhide HB1)) ((unhide HK).later (unhide HB1))).mono ?_
  rintro e w2 ⟨rfl, hb2⟩
  have HR2 := hide ((unhide HR1).later hb2)
  have HB2 := hide (bel_two (unhide HB1) hb2)
  clear hb2
  go_wp2_with fail
  refine (rcheck_is a len cap l (0) _ (unhide CL) ((unhide HO).later (unhide HB2))).mono ?_
  rintro e w3 ⟨rfl, hb3⟩
  have HR3 := hide ((unhide HR2).later hb3)
  have HB3 := hide (bel_two (unhide HB2) hb3)
  clear hb3
  go_wp2_with fail
  refine (locked_yes _ ((unhide HE).later (unhide HB3))).mono ?_
  rintro e w4 ⟨rfl, hb4⟩
  have HR4 := hide ((unhide HR3).later hb4)
  have HB4 := hide (bel_two (unhide HB3) hb4)
  clear hb4
  go_wp2_with fail
  refine (check_is a len cap l (0) _ (unhide CL) ((unhide HO).later (unhide HB4))).mono ?_
  rintro e w5 ⟨rfl, hb5⟩
  have HR5 := hide ((unhide HR4).later hb5)
  have HB5 := hide (bel_two (unhide HB4) hb5)
  clear hb5
  go_wp2_with fail
  refine (rcheck_is ak lenk capk k (0) _ (unhide CK) ((unhide HK).later (unhide HB5))).mono ?_
  rintro e w6 ⟨rfl, hb6⟩
  have HR6 := hide ((unhide HR5).later hb6)
  have HB6 := hide (bel_two (unhide HB5) hb6)
  clear hb6
  go_wp2_with fail
  refine (opened_is a ak len cap lenk capk l k h o _ (unhide OE).2 ((unhide HO).later (unhide HB6)) ((unhide HK).later (unhide HB6)) (unhide CL) (unhide CK) (unhide HH)).mono ?_
  rintro e w7 ⟨rfl, hb7⟩
  have HR7 := hide ((unhide HR6).later hb7)
  have HB7 := hide (bel_two (unhide HB6) hb7)
  clear hb7
  go_wp2
  go_ret
  exact ⟨rfl, unhide HB7⟩

set_option maxRecDepth 10000 in
set_option maxHeartbeats 3200000 in
theorem lr_o_off (a az ak : Option Addr) (len cap lens caps lenk capk : Nat) (l k : List (Int × Int)) (Z : List Int) (h : Int) (w : World) (hE : Env w) (hO : OpsAt w a len l) (hR : RowAt w az lens Z) (hK : OpsAt w ak lenk k) (hcz : az = none → caps = 0) (h1 : 0 ≤ h) (h2 : h ≤ 1000) (o : Bool) (ho : opensB l k h = o) (hl : chk l = 0) (hy : chk k = 0) (hs : lens ≤ 16) (hz : Z.all fit = false) :
    Calls Tryd.prog 3 #[.slice a len cap, .slice az lens caps, .int .i64 h, .slice ak lenk capk] w fun e w' => e = .returned (.bool true) ∧ Below w.heap.size w w' := by
  have OE : Hid (opensE l k h = 0 ∧ opensB l k h = o) := ⟨opensE_mk hl hy (hOk_mid h1 h2), ho⟩
  have CL := hide hl
  have CK := hide hy
  have HH := hide (hOk_mid h1 h2)
  have RE := hide (runE_range (Z := Z) (h := h) hl (by rw [stackOk_off hz]; rfl))
  have ZA : Hid (Z.all fit = !true) := hz
  have gs : ¬ (16 : Int) < (lens : Int) := by omega
  clear hz hl hy ho
  have HE := hide hE
  have HO := hide hO
  have HR := hide hR
  have HK := hide hK
  have HZ := hide hcz
  clear hE hO hR hK hcz
  go_enter Tryd.func3, Tryd.ntmps3
  go_wp2_with fail
  refine (run_is a az len cap lens caps l Z h (3) [] _ (unhide RE).1 (unhide RE).2 (unhide HO) (unhide HR)).mono ?_
  rintro e w1 ⟨a1, cap1, rfl, hr1, hb1⟩
  have HB1 := hide hb1
  have HR1 := hide hr1
  clear hb1 hr1
  go_wp2_with fail
  refine (opens_is a ak len cap lenk capk l k h o (0) _ (unhide OE).2 (unhide OE).1 ((unhide HO).later (unhide HB1)) ((unhide HK).later (unhide HB1))).mono ?_
  rintro e w2 ⟨rfl, hb2⟩
  have HR2 := hide ((unhide HR1).later hb2)
  have HB2 := hide (bel_two (unhide HB1) hb2)
  clear hb2
  go_wp2_with fail
  refine (rcheck_is a len cap l (0) _ (unhide CL) ((unhide HO).later (unhide HB2))).mono ?_
  rintro e w3 ⟨rfl, hb3⟩
  have HR3 := hide ((unhide HR2).later hb3)
  have HB3 := hide (bel_two (unhide HB2) hb3)
  clear hb3
  go_wp2_with fail
  refine (locked_yes _ ((unhide HE).later (unhide HB3))).mono ?_
  rintro e w4 ⟨rfl, hb4⟩
  have HR4 := hide ((unhide HR3).later hb4)
  have HB4 := hide (bel_two (unhide HB3) hb4)
  clear hb4
  go_wp2_with fail
  refine (check_is a len cap l (0) _ (unhide CL) ((unhide HO).later (unhide HB4))).mono ?_
  rintro e w5 ⟨rfl, hb5⟩
  have HR5 := hide ((unhide HR4).later hb5)
  have HB5 := hide (bel_two (unhide HB4) hb5)
  clear hb5
  go_wp2_with fail
  refine (rcheck_is ak lenk capk k (0) _ (unhide CK) ((unhide HK).later (unhide HB5))).mono ?_
  rintro e w6 ⟨rfl, hb6⟩
  have HR6 := hide ((unhide HR5).later hb6)
  have HB6 := hide (bel_two (unhide HB5) hb6)
  clear hb6
  go_wp2_with fail
  refine (opened_is a ak len cap lenk capk l k h o _ (unhide OE).2 ((unhide HO).later (unhide HB6)) ((unhide HK).later (unhide HB6)) (unhide CL) (unhide CK) (unhide HH)).mono ?_
  rintro e w7 ⟨rfl, hb7⟩
  have HR7 := hide ((unhide HR6).later hb7)
  have HB7 := hide (bel_two (unhide HB6) hb7)
  clear hb7
  go_wp2_with fail
  refine (contf_is az lens caps Z true _ (unhide ZA) ((unhide HR).later (unhide HB7))).mono ?_
  rintro e w8 ⟨rfl, rfl⟩
  go_wp2
  go_ret
  exact ⟨rfl, unhide HB7⟩

set_option maxRecDepth 10000 in
set_option maxHeartbeats 3200000 in
theorem lr_o_key (a az ak : Option Addr) (len cap lens caps lenk capk : Nat) (l k : List (Int × Int)) (Z : List Int) (h : Int) (w : World) (hE : Env w) (hO : OpsAt w a len l) (hR : RowAt w az lens Z) (hK : OpsAt w ak lenk k) (hcz : az = none → caps = 0) (h1 : 0 ≤ h) (h2 : h ≤ 1000) (o : Bool) (ho : opensB l k h = o) (hl : chk l = 0) (hy : chk k = 0) (hs : lens ≤ 16) (hz : Z.all fit = true) (rl : runL h l Z = none) :
    Calls Tryd.prog 3 #[.slice a len cap, .slice az lens caps, .int .i64 h, .slice ak lenk capk] w fun e w' => e = .returned (.bool true) ∧ Below w.heap.size w w' := by
  have OE : Hid (opensE l k h = 0 ∧ opensB l k h = o) := ⟨opensE_mk hl hy (hOk_mid h1 h2), ho⟩
  have CL := hide hl
  have CK := hide hy
  have HH := hide (hOk_mid h1 h2)
  have sk : stackOk Z = true := stackOk_mk (by have := hR.1; omega) hz
  have SK := hide sk
  have ZA : Hid (Z.all fit = !false) := hz
  have RL := hide rl
  have RE := hide (runE_key hl (by rw [sk, unhide HH]; rfl) rl)
  have gs : ¬ (16 : Int) < (lens : Int) := by omega
  clear hz sk rl hl hy ho
  have HE := hide hE
  have HO := hide hO
  have HR := hide hR
  have HK := hide hK
  have HZ := hide hcz
  clear hE hO hR hK hcz
  go_enter Tryd.func3, Tryd.ntmps3
  go_wp2_with fail
  refine (run_is a az len cap lens caps l Z h (8) [] _ (unhide RE).1 (unhide RE).2 (unhide HO) (unhide HR)).mono ?_
  rintro e w1 ⟨a1, cap1, rfl, hr1, hb1⟩
  have HB1 := hide hb1
  have HR1 := hide hr1
  clear hb1 hr1
  go_wp2_with fail
  refine (opens_is a ak len cap lenk capk l k h o (0) _ (unhide OE).2 (unhide OE).1 ((unhide HO).later (unhide HB1)) ((unhide HK).later (unhide HB1))).mono ?_
  rintro e w2 ⟨rfl, hb2⟩
  have HR2 := hide ((unhide HR1).later hb2)
  have HB2 := hide (bel_two (unhide HB1) hb2)
  clear hb2
  go_wp2_with fail
  refine (rcheck_is a len cap l (0) _ (unhide CL) ((unhide HO).later (unhide HB2))).mono ?_
  rintro e w3 ⟨rfl, hb3⟩
  have HR3 := hide ((unhide HR2).later hb3)
  have HB3 := hide (bel_two (unhide HB2) hb3)
  clear hb3
  go_wp2_with fail
  refine (locked_yes _ ((unhide HE).later (unhide HB3))).mono ?_
  rintro e w4 ⟨rfl, hb4⟩
  have HR4 := hide ((unhide HR3).later hb4)
  have HB4 := hide (bel_two (unhide HB3) hb4)
  clear hb4
  go_wp2_with fail
  refine (check_is a len cap l (0) _ (unhide CL) ((unhide HO).later (unhide HB4))).mono ?_
  rintro e w5 ⟨rfl, hb5⟩
  have HR5 := hide ((unhide HR4).later hb5)
  have HB5 := hide (bel_two (unhide HB4) hb5)
  clear hb5
  go_wp2_with fail
  refine (rcheck_is ak lenk capk k (0) _ (unhide CK) ((unhide HK).later (unhide HB5))).mono ?_
  rintro e w6 ⟨rfl, hb6⟩
  have HR6 := hide ((unhide HR5).later hb6)
  have HB6 := hide (bel_two (unhide HB5) hb6)
  clear hb6
  go_wp2_with fail
  refine (opened_is a ak len cap lenk capk l k h o _ (unhide OE).2 ((unhide HO).later (unhide HB6)) ((unhide HK).later (unhide HB6)) (unhide CL) (unhide CK) (unhide HH)).mono ?_
  rintro e w7 ⟨rfl, hb7⟩
  have HR7 := hide ((unhide HR6).later hb7)
  have HB7 := hide (bel_two (unhide HB6) hb7)
  clear hb7
  go_wp2_with fail
  refine (contf_is az lens caps Z false _ (unhide ZA) ((unhide HR).later (unhide HB7))).mono ?_
  rintro e w8 ⟨rfl, rfl⟩
  go_wp2_with fail
  refine (runops_any a len cap l az lens caps Z h _ ((unhide HO).later (unhide HB7)) (unhide CL) ((unhide HR).later (unhide HB7)) (unhide HZ) (unhide SK) (unhide HH)).mono ?_
  rw [unhide RL]
  rintro e w8 ⟨a8, cap8, rfl, hr8, hb8, _⟩
  have HR8 := hide ((unhide HR7).later hb8)
  have HS8 := hide hr8
  have HB8 := hide (bel_two (unhide HB7) hb8)
  clear hb8 hr8
  go_wp2
  go_ret
  exact ⟨rfl, unhide HB8⟩

set_option maxRecDepth 10000 in
set_option maxHeartbeats 3200000 in
theorem lr_o_fine (a az ak : Option Addr) (len cap lens caps lenk capk : Nat) (l k : List (Int × Int)) (Z : List Int) (h : Int) (w : World) (hE : Env w) (hO : OpsAt w a len l) (hR : RowAt w az lens Z) (hK : OpsAt w ak lenk k) (hcz : az = none → caps = 0) (h1 : 0 ≤ h) (h2 : h ≤ 1000) (o : Bool) (ho : opensB l k h = o) (hl : chk l = 0) (hy : chk k = 0) (hs : lens ≤ 16) (L : List Int) (hz : Z.all fit = true) (rl : runL h l Z = some L) :
    Calls Tryd.prog 3 #[.slice a len cap, .slice az lens caps, .int .i64 h, .slice ak lenk capk] w fun e w' => e = .returned (.bool true) ∧ Below w.heap.size w w' := by
  have OE : Hid (opensE l k h = 0 ∧ opensB l k h = o) := ⟨opensE_mk hl hy (hOk_mid h1 h2), ho⟩
  have CL := hide hl
  have CK := hide hy
  have HH := hide (hOk_mid h1 h2)
  have sk : stackOk Z = true := stackOk_mk (by have := hR.1; omega) hz
  have SK := hide sk
  have ZA : Hid (Z.all fit = !false) := hz
  have RL := hide rl
  have RE := hide (runE_fine hl (by rw [sk, unhide HH]; rfl) rl)
  have gs : ¬ (16 : Int) < (lens : Int) := by omega
  clear hz sk rl hl hy ho
  have HE := hide hE
  have HO := hide hO
  have HR := hide hR
  have HK := hide hK
  have HZ := hide hcz
  clear hE hO hR hK hcz
  go_enter Tryd.func3, Tryd.ntmps3
  go_wp2_with fail
  refine (run_is a az len cap lens caps l Z h (0) L _ (unhide RE).1 (unhide RE).2 (unhide HO) (unhide HR)).mono ?_
  rintro e w1 ⟨a1, cap1, rfl, hr1, hb1⟩
  have HB1 := hide hb1
  have HR1 := hide hr1
  clear hb1 hr1
  go_wp2_with fail
  refine (opens_is a ak len cap lenk capk l k h o (0) _ (unhide OE).2 (unhide OE).1 ((unhide HO).later (unhide HB1)) ((unhide HK).later (unhide HB1))).mono ?_
  rintro e w2 ⟨rfl, hb2⟩
  have HR2 := hide ((unhide HR1).later hb2)
  have HB2 := hide (bel_two (unhide HB1) hb2)
  clear hb2
  go_wp2_with fail
  refine (rcheck_is a len cap l (0) _ (unhide CL) ((unhide HO).later (unhide HB2))).mono ?_
  rintro e w3 ⟨rfl, hb3⟩
  have HR3 := hide ((unhide HR2).later hb3)
  have HB3 := hide (bel_two (unhide HB2) hb3)
  clear hb3
  go_wp2_with fail
  refine (locked_yes _ ((unhide HE).later (unhide HB3))).mono ?_
  rintro e w4 ⟨rfl, hb4⟩
  have HR4 := hide ((unhide HR3).later hb4)
  have HB4 := hide (bel_two (unhide HB3) hb4)
  clear hb4
  go_wp2_with fail
  refine (check_is a len cap l (0) _ (unhide CL) ((unhide HO).later (unhide HB4))).mono ?_
  rintro e w5 ⟨rfl, hb5⟩
  have HR5 := hide ((unhide HR4).later hb5)
  have HB5 := hide (bel_two (unhide HB4) hb5)
  clear hb5
  go_wp2_with fail
  refine (rcheck_is ak lenk capk k (0) _ (unhide CK) ((unhide HK).later (unhide HB5))).mono ?_
  rintro e w6 ⟨rfl, hb6⟩
  have HR6 := hide ((unhide HR5).later hb6)
  have HB6 := hide (bel_two (unhide HB5) hb6)
  clear hb6
  go_wp2_with fail
  refine (opened_is a ak len cap lenk capk l k h o _ (unhide OE).2 ((unhide HO).later (unhide HB6)) ((unhide HK).later (unhide HB6)) (unhide CL) (unhide CK) (unhide HH)).mono ?_
  rintro e w7 ⟨rfl, hb7⟩
  have HR7 := hide ((unhide HR6).later hb7)
  have HB7 := hide (bel_two (unhide HB6) hb7)
  clear hb7
  go_wp2_with fail
  refine (contf_is az lens caps Z false _ (unhide ZA) ((unhide HR).later (unhide HB7))).mono ?_
  rintro e w8 ⟨rfl, rfl⟩
  go_wp2_with fail
  refine (runops_any a len cap l az lens caps Z h _ ((unhide HO).later (unhide HB7)) (unhide CL) ((unhide HR).later (unhide HB7)) (unhide HZ) (unhide SK) (unhide HH)).mono ?_
  rw [unhide RL]
  rintro e w8 ⟨a8, cap8, rfl, hr8, hb8, _⟩
  have HR8 := hide ((unhide HR7).later hb8)
  have HS8 := hide hr8
  have HB8 := hide (bel_two (unhide HB7) hb8)
  clear hb8 hr8
  go_wp2_with fail
  refine (equal_ints a1 a8 L.length cap1 cap8 L _ (unhide HR8) (unhide HS8)).mono ?_
  rintro e w9 ⟨rfl, hb9⟩
  have HB9 := hide (bel_two (unhide HB8) hb9)
  clear hb9
  go_wp2
  go_ret
  exact ⟨rfl, unhide HB9⟩

theorem lockRun_any (a az ak : Option Addr) (len cap lens caps lenk capk : Nat) (l k : List (Int × Int)) (Z : List Int) (h : Int) (w : World) (hE : Env w) (hO : OpsAt w a len l) (hR : RowAt w az lens Z) (hK : OpsAt w ak lenk k) (hcz : az = none → caps = 0) :
    Calls Tryd.prog 3 #[.slice a len cap, .slice az lens caps, .int .i64 h, .slice ak lenk capk] w fun e w' => e = .returned (.bool true) ∧ Below w.heap.size w w' := by
  by_cases hl : chk l = 0
  · by_cases hy : chk k = 0
    · by_cases h1 : h < 0
      · exact lr_h_lo a az ak len cap lens caps lenk capk l k Z h w hE hO hR hK hcz h1 hl hy
      · by_cases h2 : 1000 < h
        · exact lr_h_hi a az ak len cap lens caps lenk capk l k Z h w hE hO hR hK hcz (by omega) h2 hl hy
        · by_cases hs : 16 < lens
          · exact lr_o_len a az ak len cap lens caps lenk capk l k Z h w hE hO hR hK hcz (by omega) (by omega) _ rfl hl hy hs
          · cases hz : Z.all fit with
            | false => exact lr_o_off a az ak len cap lens caps lenk capk l k Z h w hE hO hR hK hcz (by omega) (by omega) _ rfl hl hy (by omega) hz
            | true =>
              cases rl : runL h l Z with
              | none => exact lr_o_key a az ak len cap lens caps lenk capk l k Z h w hE hO hR hK hcz (by omega) (by omega) _ rfl hl hy (by omega) hz rl
              | some L => exact lr_o_fine a az ak len cap lens caps lenk capk l k Z h w hE hO hR hK hcz (by omega) (by omega) _ rfl hl hy (by omega) L hz rl
    · by_cases h1 : h < 0
      · exact lr_k_lo a az ak len cap lens caps lenk capk l k Z h w hE hO hR hK hcz h1 _ hl rfl hy
      · by_cases h2 : 1000 < h
        · exact lr_k_hi a az ak len cap lens caps lenk capk l k Z h w hE hO hR hK hcz (by omega) h2 _ hl rfl hy
        · by_cases hs : 16 < lens
          · exact lr_k_len a az ak len cap lens caps lenk capk l k Z h w hE hO hR hK hcz (by omega) (by omega) _ hl rfl hy hs
          · cases hz : Z.all fit with
            | false => exact lr_k_off a az ak len cap lens caps lenk capk l k Z h w hE hO hR hK hcz (by omega) (by omega) _ hl rfl hy (by omega) hz
            | true =>
              cases rl : runL h l Z with
              | none => exact lr_k_key a az ak len cap lens caps lenk capk l k Z h w hE hO hR hK hcz (by omega) (by omega) _ hl rfl hy (by omega) hz rl
              | some L => exact lr_k_fine a az ak len cap lens caps lenk capk l k Z h w hE hO hR hK hcz (by omega) (by omega) _ hl rfl hy (by omega) L hz rl
  · exact lr_l a az ak len cap lens caps lenk capk l k Z h w hE hO hR hK hcz _ rfl hl

end Go.Proofs.YtodgheppglchcaaDoor
