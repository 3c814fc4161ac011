/- The walk of the law LockParse: it returns true, whatever the orders and the text. -/
import Derived.Test.YtodgheppglchcaaGreatDoorLockSameO
import Derived.Test.YtodgheppglchcaaGreatDoorLockLocked
import Derived.Test.YtodgheppglchcaaGreatDoorRefRead
namespace Go.Proofs.YtodgheppglchcaaGreatDoor
open Go.RowKit

theorem rcheck_is (a : Option Addr) (len cap : Nat) (l : List (Int × Int)) (x : Int) (w : World) (hx : chk l = x) (h : OpsAt w a len l) :
    Calls Tryz.prog 6 #[.slice a len cap] w fun e w' => e = .returned (.int .i64 x) ∧ Below w.heap.size w w' := by
  subst hx; exact rcheck_any a len cap l w h
theorem prL_len (s : ByteArray) : (prL s).length ≤ 16 := by
  unfold prL
  split
  · simp
  · cases parseAll (wordsOf s) with
    | none => simp
    | some l =>
      show (if chk l = 0 then l else []).length ≤ 16
      split
      · rename_i h
        unfold chk at h
        split at h
        · cases h
        · omega
      · simp
theorem prL_long {s : ByteArray} (h : 4000 < s.size) : prL s = [] ∧ prE s = 2 := by
  unfold prL prE; rw [if_pos h, if_pos h]; exact ⟨rfl, rfl⟩
theorem prT_zero {l : List (Int × Int)} (h : chk l = 0) : prT l = opsText l := by unfold prT; rw [if_pos h]
theorem prT_bad {l : List (Int × Int)} (h : chk l ≠ 0) : prT l = ⟨#[]⟩ := by unfold prT; rw [if_neg h]
theorem parse_is (s : ByteArray) (L : List (Int × Int)) (x : Int) (n : Nat) (w : World) (hE : EnvP w) (hL : prL s = L) (hx : prE s = x) (hn : L.length = n) :
    Calls Tryz.prog 5 #[.string s] w fun e w' => ∃ a cap, e = .returned (.tuple #[.slice a n cap, .int .i64 x]) ∧ OpsAt w' a n L ∧ Below w.heap.size w w' := by
  subst hL hx hn; exact parse_any s w hE
theorem readops_is (s : ByteArray) (L : List (Int × Int)) (x : Int) (n : Nat) (hs : s.size ≤ 4000) (w : World) (hE : EnvF w) (hL : prL s = L) (hx : prE s = x) (hn : L.length = n) :
    Calls Tryz.prog 9 #[.string s] w fun e w' => ∃ a cap, e = .returned (.tuple #[.slice a n cap, .int .i64 x]) ∧ OpsAt w' a n L ∧ Below w.heap.size w w' := by
  subst hL hx hn; exact readops_any s hs w hE
theorem opstext_is (a : Option Addr) (len cap : Nat) (l : List (Int × Int)) (t : ByteArray) (w : World) (hE : EnvF w) (hO : OpsAt w a len l) (hck : chk l = 0) (ht : prT l = t) :
    Calls Tryz.prog 8 #[.slice a len cap] w fun e w' => e = .returned (.string t) ∧ Below w.heap.size w w' := by
  subst ht; rw [prT_zero hck]; exact opstext_any a len cap l w hE hO hck


set_option maxRecDepth 10000 in
set_option maxHeartbeats 3200000 in
theorem lp_ok_long (a : Option Addr) (len cap : Nat) (l : List (Int × Int)) (s : ByteArray) (w : World) (hE : EnvF w) (hO : OpsAt w a len l) (hx : chk l = 0) (hs : 4000 < s.size) :
    Calls Tryz.prog 3 #[.slice a len cap, .string s] w fun e w' => e = .returned (.bool true) ∧ Below w.heap.size w w' := by
  obtain ⟨t, ht⟩ : ∃ t, prT l = t := ⟨_, rfl⟩
  have HT := hide ht
  have LL := hide (prL_long hs).1
  have LE := hide (prL_long hs).2
  have LN : Hid (([] : List (Int × Int)).length = 0) := rfl
  have gs : (4000 : Int) < (s.size : Int) := by omega
  have HE := hide hE
  have HO := hide hO
  have HX := hide hx
  have HS := hide hs
  clear hE hO hx ht hs
  go_enter Tryz.func3, Tryz.ntmps3
  go_wp2_with fail
  refine (print_is a len cap l t 0 _ (unhide HT) (unhide HX) (unhide HE).envp.env (unhide HO)).mono ?_
  rintro e w1 ⟨rfl, hb1⟩
  have HB1 := hide hb1
  clear hb1
  go_wp2_with fail
  refine (parse_is s [] 2 0 _ ((unhide HE).later (unhide HB1)).envp (unhide LL) (unhide LE) (unhide LN)).mono ?_
  rintro e w2 ⟨a2, cap2, rfl, hO2, hb2⟩
  have HM2 := hide hO2
  have HB2 := hide (bel_tw (unhide HB1) hb2)
  clear hb2 hO2
  go_wp2_with fail
  refine (rcheck_is a len cap l 0 _ (unhide HX) ((unhide HO).later (unhide HB2))).mono ?_
  rintro e w3 ⟨rfl, hb3⟩
  have HM3 := hide ((unhide HM2).later hb3)
  have HB3 := hide (bel_tw (unhide HB2) hb3)
  clear hb3
  go_wp2_with fail
  refine (locked_yes _ ((unhide HE).later (unhide HB3)).envp.env).mono ?_
  rintro e w4 ⟨rfl, hb4⟩
  have HM4 := hide ((unhide HM3).later hb4)
  have HB4 := hide (bel_tw (unhide HB3) hb4)
  clear hb4
  go_wp2_with fail
  refine (opstext_is a len cap l t _ ((unhide HE).later (unhide HB4)) ((unhide HO).later (unhide HB4)) (unhide HX) (unhide HT)).mono ?_
  rintro e w5 ⟨rfl, hb5⟩
  have HM5 := hide ((unhide HM4).later hb5)
  have HB5 := hide (bel_tw (unhide HB4) hb5)
  clear hb5
  go_wp2
  go_ret
  exact ⟨rfl, unhide HB5⟩

set_option maxRecDepth 10000 in
set_option maxHeartbeats 3200000 in
theorem lp_ok_fit (a : Option Addr) (len cap : Nat) (l : List (Int × Int)) (s : ByteArray) (w : World) (hE : EnvF w) (hO : OpsAt w a len l) (hx : chk l = 0) (hs : s.size ≤ 4000) :
    Calls Tryz.prog 3 #[.slice a len cap, .string s] w fun e w' => e = .returned (.bool true) ∧ Below w.heap.size w w' := by
  obtain ⟨t, ht⟩ : ∃ t, prT l = t := ⟨_, rfl⟩
  have HT := hide ht
  obtain ⟨L, hL⟩ : ∃ L, prL s = L := ⟨_, rfl⟩
  obtain ⟨f, hf⟩ : ∃ f, prE s = f := ⟨_, rfl⟩
  obtain ⟨n, hn⟩ : ∃ n, L.length = n := ⟨_, rfl⟩
  have LL := hide hL
  have LE := hide hf
  have LN := hide hn
  have n16 : n ≤ 16 := by rw [← hn, ← hL]; exact prL_len s
  have gs : ¬ (4000 : Int) < (s.size : Int) := by omega
  have HE := hide hE
  have HO := hide hO
  have HX := hide hx
  have HS := hide hs
  clear hE hO hx ht hL hf hn hs
  go_enter Tryz.func3, Tryz.ntmps3
  go_wp2_with fail
  refine (print_is a len cap l t 0 _ (unhide HT) (unhide HX) (unhide HE).envp.env (unhide HO)).mono ?_
  rintro e w1 ⟨rfl, hb1⟩
  have HB1 := hide hb1
  clear hb1
  go_wp2_with fail
  refine (parse_is s L f n _ ((unhide HE).later (unhide HB1)).envp (unhide LL) (unhide LE) (unhide LN)).mono ?_
  rintro e w2 ⟨a2, cap2, rfl, hO2, hb2⟩
  have HM2 := hide hO2
  have HB2 := hide (bel_tw (unhide HB1) hb2)
  clear hb2 hO2
  go_wp2_with fail
  refine (rcheck_is a len cap l 0 _ (unhide HX) ((unhide HO).later (unhide HB2))).mono ?_
  rintro e w3 ⟨rfl, hb3⟩
  have HM3 := hide ((unhide HM2).later hb3)
  have HB3 := hide (bel_tw (unhide HB2) hb3)
  clear hb3
  go_wp2_with fail
  refine (locked_yes _ ((unhide HE).later (unhide HB3)).envp.env).mono ?_
  rintro e w4 ⟨rfl, hb4⟩
  have HM4 := hide ((unhide HM3).later hb4)
  have HB4 := hide (bel_tw (unhide HB3) hb4)
  clear hb4
  go_wp2_with fail
  refine (opstext_is a len cap l t _ ((unhide HE).later (unhide HB4)) ((unhide HO).later (unhide HB4)) (unhide HX) (unhide HT)).mono ?_
  rintro e w5 ⟨rfl, hb5⟩
  have HM5 := hide ((unhide HM4).later hb5)
  have HB5 := hide (bel_tw (unhide HB4) hb5)
  clear hb5
  go_wp2_with fail
  refine (readops_is s L f n (unhide HS) _ ((unhide HE).later (unhide HB5)) (unhide LL) (unhide LE) (unhide LN)).mono ?_
  rintro e w6 ⟨a6, cap6, rfl, hO6, hb6⟩
  have HM6 := hide ((unhide HM5).later hb6)
  have HW6 := hide hO6
  have HB6 := hide (bel_tw (unhide HB5) hb6)
  clear hb6 hO6
  go_wp2_with fail
  refine (equal_ops a2 a6 n cap2 cap6 L _ n16 (unhide HM6) (unhide HW6)).mono ?_
  rintro e w7 ⟨rfl, hb7⟩
  have HB7 := hide (bel_tw (unhide HB6) hb7)
  clear hb7
  go_wp2
  go_ret
  exact ⟨rfl, unhide HB7⟩

set_option maxRecDepth 10000 in
set_option maxHeartbeats 3200000 in
theorem lp_bad_long (a : Option Addr) (len cap : Nat) (l : List (Int × Int)) (s : ByteArray) (w : World) (hE : EnvF w) (hO : OpsAt w a len l) (x : Int) (hx : chk l = x) (h0 : x ≠ 0) (hs : 4000 < s.size) :
    Calls Tryz.prog 3 #[.slice a len cap, .string s] w fun e w' => e = .returned (.bool true) ∧ Below w.heap.size w w' := by
  have HT := hide (prT_bad (l := l) (by rw [hx]; exact h0))
  have g1 : (x == 0) = false := by simp [h0]
  have g2 : (x != 0) = true := by simp [h0]
  have LL := hide (prL_long hs).1
  have LE := hide (prL_long hs).2
  have LN : Hid (([] : List (Int × Int)).length = 0) := rfl
  have gs : (4000 : Int) < (s.size : Int) := by omega
  have HE := hide hE
  have HO := hide hO
  have HX := hide hx
  have HS := hide hs
  clear hE hO hx h0 hs
  go_enter Tryz.func3, Tryz.ntmps3
  go_wp2_with fail
  refine (print_is a len cap l ⟨#[]⟩ x _ (unhide HT) (unhide HX) (unhide HE).envp.env (unhide HO)).mono ?_
  rintro e w1 ⟨rfl, hb1⟩
  have HB1 := hide hb1
  clear hb1
  go_wp2_with fail
  refine (parse_is s [] 2 0 _ ((unhide HE).later (unhide HB1)).envp (unhide LL) (unhide LE) (unhide LN)).mono ?_
  rintro e w2 ⟨a2, cap2, rfl, hO2, hb2⟩
  have HM2 := hide hO2
  have HB2 := hide (bel_tw (unhide HB1) hb2)
  clear hb2 hO2
  go_wp2_with fail
  refine (rcheck_is a len cap l x _ (unhide HX) ((unhide HO).later (unhide HB2))).mono ?_
  rintro e w3 ⟨rfl, hb3⟩
  have HM3 := hide ((unhide HM2).later hb3)
  have HB3 := hide (bel_tw (unhide HB2) hb3)
  clear hb3
  go_wp2_with fail
  refine (locked_yes _ ((unhide HE).later (unhide HB3)).envp.env).mono ?_
  rintro e w4 ⟨rfl, hb4⟩
  have HM4 := hide ((unhide HM3).later hb4)
  have HB4 := hide (bel_tw (unhide HB3) hb4)
  clear hb4
  go_wp2
  go_ret
  exact ⟨rfl, unhide HB4⟩

set_option maxRecDepth 10000 in
set_option maxHeartbeats 3200000 in
theorem lp_bad_fit (a : Option Addr) (len cap : Nat) (l : List (Int × Int)) (s : ByteArray) (w : World) (hE : EnvF w) (hO : OpsAt w a len l) (x : Int) (hx : chk l = x) (h0 : x ≠ 0) (hs : s.size ≤ 4000) :
    Calls Tryz.prog 3 #[.slice a len cap, .string s] w fun e w' => e = .returned (.bool true) ∧ Below w.heap.size w w' := by
  have HT := hide (prT_bad (l := l) (by rw [hx]; exact h0))
  have g1 : (x == 0) = false := by simp [h0]
  have g2 : (x != 0) = true := by simp [h0]
  obtain ⟨L, hL⟩ : ∃ L, prL s = L := ⟨_, rfl⟩
  obtain ⟨f, hf⟩ : ∃ f, prE s = f := ⟨_, rfl⟩
  obtain ⟨n, hn⟩ : ∃ n, L.length = n := ⟨_, rfl⟩
  have LL := hide hL
  have LE := hide hf
  have LN := hide hn
  have n16 : n ≤ 16 := by rw [← hn, ← hL]; exact prL_len s
  have gs : ¬ (4000 : Int) < (s.size : Int) := by omega
  have HE := hide hE
  have HO := hide hO
  have HX := hide hx
  have HS := hide hs
  clear hE hO hx h0 hL hf hn hs
  go_enter Tryz.func3, Tryz.ntmps3
  go_wp2_with fail
  refine (print_is a len cap l ⟨#[]⟩ x _ (unhide HT) (unhide HX) (unhide HE).envp.env (unhide HO)).mono ?_
  rintro e w1 ⟨rfl, hb1⟩
  have HB1 := hide hb1
  clear hb1
  go_wp2_with fail
  refine (parse_is s L f n _ ((unhide HE).later (unhide HB1)).envp (unhide LL) (unhide LE) (unhide LN)).mono ?_
  rintro e w2 ⟨a2, cap2, rfl, hO2, hb2⟩
  have HM2 := hide hO2
  have HB2 := hide (bel_tw (unhide HB1) hb2)
  clear hb2 hO2
  go_wp2_with fail
  refine (rcheck_is a len cap l x _ (unhide HX) ((unhide HO).later (unhide HB2))).mono ?_
  rintro e w3 ⟨rfl, hb3⟩
  have HM3 := hide ((unhide HM2).later hb3)
  have HB3 := hide (bel_tw (unhide HB2) hb3)
  clear hb3
  go_wp2_with fail
  refine (locked_yes _ ((unhide HE).later (unhide HB3)).envp.env).mono ?_
  rintro e w4 ⟨rfl, hb4⟩
  have HM4 := hide ((unhide HM3).later hb4)
  have HB4 := hide (bel_tw (unhide HB3) hb4)
  clear hb4
  go_wp2_with fail
  refine (readops_is s L f n (unhide HS) _ ((unhide HE).later (unhide HB4)) (unhide LL) (unhide LE) (unhide LN)).mono ?_
  rintro e w6 ⟨a6, cap6, rfl, hO6, hb6⟩
  have HM6 := hide ((unhide HM4).later hb6)
  have HW6 := hide hO6
  have HB6 := hide (bel_tw (unhide HB4) hb6)
  clear hb6 hO6
  go_wp2_with fail
  refine (equal_ops a2 a6 n cap2 cap6 L _ n16 (unhide HM6) (unhide HW6)).mono ?_
  rintro e w7 ⟨rfl, hb7⟩
  have HB7 := hide (bel_tw (unhide HB6) hb7)
  clear hb7
  go_wp2
  go_ret
  exact ⟨rfl, unhide HB7⟩

theorem lockParse_any (a : Option Addr) (len cap : Nat) (l : List (Int × Int)) (s : ByteArray) (w : World) (hE : EnvF w) (hO : OpsAt w a len l) :
    Calls Tryz.prog 3 #[.slice a len cap, .string s] w fun e w' => e = .returned (.bool true) ∧ Below w.heap.size w w' := by
  by_cases hs : 4000 < s.size
  · by_cases hx : chk l = 0
    · exact lp_ok_long a len cap l s w hE hO hx hs
    · exact lp_bad_long a len cap l s w hE hO _ rfl hx hs
  · by_cases hx : chk l = 0
    · exact lp_ok_fit a len cap l s w hE hO hx (by omega)
    · exact lp_bad_fit a len cap l s w hE hO _ rfl hx (by omega)

end Go.Proofs.YtodgheppglchcaaGreatDoor
