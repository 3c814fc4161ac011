/- The walk of the law LockOpens: it returns true, whatever the orders and the height. -/
import Derived.Test.YtoacgkgadecddabDoorLockConcat
namespace Go.Proofs.YtoacgkgadecddabDoor
open Go.RowKit

theorem chk_zero {l : List (Int × Int)} (h : chk l = 0) : l.length ≤ 16 ∧ chkL l = 0 := by
  unfold chk at h
  split at h
  · cases h
  · exact ⟨by omega, h⟩
theorem chkL_append : ∀ {k l : List (Int × Int)}, chkL k = 0 → chkL l = 0 → chkL (k ++ l) = 0
  | [], _, _, h => h
  | o :: r, l, hk, hl => by
    simp only [List.cons_append, chkL] at hk ⊢
    split at hk
    · rename_i e
      rw [if_pos e]
      exact chkL_append hk hl
    · contradiction
theorem chk_append {k l : List (Int × Int)} (hk : chk k = 0) (hl : chk l = 0) (h : k.length + l.length ≤ 16) : chk (k ++ l) = 0 := by
  unfold chk
  rw [if_neg (by rw [List.length_append]; omega)]
  exact chkL_append (chk_zero hk).2 (chk_zero hl).2

theorem opensE_zero {l k : List (Int × Int)} {h : Int} (e : opensE l k h = 0) : chk l = 0 ∧ chk k = 0 ∧ hOk h = true := by
  unfold opensE at e
  split at e
  · rename_i h1
    split at e
    · rename_i h2
      split at e
      · rename_i h3; exact ⟨h1, h2, h3⟩
      · cases e
    · contradiction
  · contradiction
theorem opensE_mk {l k : List (Int × Int)} {h : Int} (h1 : chk l = 0) (h2 : chk k = 0) (h3 : hOk h = true) : opensE l k h = 0 := by
  unfold opensE; rw [if_pos h1, if_pos h2, if_pos h3]
theorem chk_nil : chk [] = 0 := rfl
theorem opensB_zero {l k : List (Int × Int)} {h : Int} (e : opensE l k h = 0) : opensB l k h = (match (runL h k []).bind (runL h l) with | some L => one1 L | none => false) := by
  unfold opensB; rw [e]; rfl
theorem opensB_bare {k : List (Int × Int)} {h : Int} (e : opensE [] k h = 0) : opensB [] k h = (match runL h k [] with | some L => one1 L | none => false) := by
  rw [opensB_zero e]
  cases runL h k [] <;> rfl
theorem opensB_both {l k : List (Int × Int)} {h : Int} (e : opensE [] (k ++ l) h = 0) (e2 : opensE l k h = 0) : opensB [] (k ++ l) h = opensB l k h := by
  rw [opensB_bare e, opensB_zero e2, runL_append]

/-- What the law asks of what a key leaves. -/
theorem bare_one {h : Int} {k : List (Int × Int)} {y : Int} (e : opensE [] k h = 0) (r : runL h k [] = some [y]) : opensB [] k h = (y != 0) := by
  rw [opensB_bare e, r]; rfl
theorem bare_not {h : Int} {k : List (Int × Int)} {L : List Int} (e : opensE [] k h = 0) (r : runL h k [] = some L) (hl : L.length ≠ 1) : opensB [] k h = false := by
  rw [opensB_bare e, r]
  show one1 L = false
  simp [one1, hl]
theorem bare_none {h : Int} {k : List (Int × Int)} (e : opensE [] k h = 0) (r : runL h k [] = none) : opensB [] k h = false := by
  rw [opensB_bare e, r]
theorem lost_none {h : Int} {l k : List (Int × Int)} (e : opensE l k h = 0) (r : runL h k [] = none) : opensB l k h = false := by
  rw [opensB_zero e, r]; rfl

theorem two_new (w : World) (s0 s1 : Value) (t : TypeId) : (w.alloc (.cells #[s0, s1] t)).cell? ⟨w.heap.size, 0, none⟩ = some s0 ∧ (w.alloc (.cells #[s0, s1] t)).cell? ⟨w.heap.size, 1, none⟩ = some s1 :=
  ⟨by rw [World.cell?_alloc_at _ _ _ _ rfl]; rfl, by rw [World.cell?_alloc_at _ _ _ _ rfl]; rfl⟩

set_option maxHeartbeats 1600000 in
theorem opens_bad (a ak : Option Addr) (len cap lenk capk : Nat) (l k : List (Int × Int)) (h : Int) (w : World) (hE : Env w) (hO : OpsAt w a len l) (hK : OpsAt w ak lenk k) (hx : opensE l k h ≠ 0) :
    Calls Tryd.prog 4 #[.slice a len cap, .slice ak lenk capk, .int .i64 h] w fun e w' => e = .returned (.bool true) ∧ Below w.heap.size w w' := by
  obtain ⟨o, ho⟩ : ∃ o, opensB l k h = o := ⟨_, rfl⟩
  obtain ⟨x, hx1⟩ : ∃ x, opensE l k h = x := ⟨_, rfl⟩
  rw [hx1] at hx
  have g : (x != 0) = true := by simp [hx]
  have OP := hide (opens_is a ak len cap lenk capk l k h o x w ho hx1 hO hK)
  have HE := hide hE
  clear hE hO hK hx hx1 ho
  go_enter Tryd.func4, Tryd.ntmps4
  go_wp2_with fail
  refine (unhide OP).mono ?_
  rintro e w1 ⟨rfl, hb1⟩
  have HB1 := hide hb1
  clear hb1
  go_wp2_with fail
  refine (locked_yes _ ((unhide HE).later (unhide HB1))).mono ?_
  rintro e w2 ⟨rfl, hb2⟩
  have HB2 := hide (bel_two (unhide HB1) hb2)
  clear hb2
  go_wp2_with fail
  refine (locked_yes _ ((unhide HE).later (unhide HB2))).mono ?_
  rintro e w3 ⟨rfl, hb3⟩
  have HB3 := hide (bel_two (unhide HB2) hb3)
  clear hb3
  go_wp2
  go_ret
  exact ⟨rfl, unhide HB3⟩

set_option maxRecDepth 10000 in
set_option maxHeartbeats 3200000 in
theorem opens_none_many (a ak : Option Addr) (len cap lenk capk : Nat) (l k : List (Int × Int)) (h : Int) (r : runL h k [] = none) (w : World) (hE : Env w) (hO : OpsAt w a len l) (hK : OpsAt w ak lenk k) (hx : opensE l k h = 0)
    (hkn : ak = none → lenk = 0 ∧ capk = 0) (hln : a = none → len = 0 ∧ cap = 0) (hs : 16 < len + lenk) :
    Calls Tryd.prog 4 #[.slice a len cap, .slice ak lenk capk, .int .i64 h] w fun e w' => e = .returned (.bool true) ∧ Below w.heap.size w w' := by
  have e0 : opensE [] k h = 0 := opensE_mk chk_nil (opensE_zero hx).2.1 (opensE_zero hx).2.2
  have R := hide (runE_key (opensE_zero hx).2.1 (runE_nil (opensE_zero hx).2.2) r)
  have EB := hide (bare_none e0 r)
  have ho : opensB l k h = false := lost_none hx r
  have l16 : len ≤ 16 := by rw [← hO.1]; exact (chk_zero (opensE_zero hx).1).1
  have k16 : lenk ≤ 16 := by rw [← hK.1]; exact (chk_zero (opensE_zero hx).2.1).1
  have OP := hide (opens_is a ak len cap lenk capk l k h false 0 w ho hx hO hK)
  have HX := hide hx
  have E0 := hide e0
  have HE := hide hE
  have HO := hide hO
  have HK := hide hK
  have HKN := hide hkn
  have HLN := hide hln
  have HOO := hide ho
  clear hE hO hK hx e0 hkn hln ho r
  go_enter Tryd.func4, Tryd.ntmps4
  go_wp2_with fail
  refine (unhide OP).mono ?_
  rintro e w1 ⟨rfl, hb1⟩
  have HB1 := hide hb1
  clear hb1
  go_wp2_with fail
  refine (locked_yes _ ((unhide HE).later (unhide HB1))).mono ?_
  rintro e w2 ⟨rfl, hb2⟩
  have HB2 := hide (bel_two (unhide HB1) hb2)
  clear hb2
  go_wp2_with fail
  refine (run_is ak none lenk capk 0 0 k [] h 8 [] _ (unhide R).1 (unhide R).2 ((unhide HK).later (unhide HB2)) (RowAt.nil _ _)).mono ?_
  rintro e w3 ⟨a3, cap3, rfl, hrow3, hb3⟩
  have HB3 := hide (bel_two (unhide HB2) hb3)
  have HW3 := hide hrow3
  clear hb3 hrow3
  go_wp2_with fail
  refine (opens_is none ak 0 0 lenk capk [] k h false 0 _ (unhide EB) (unhide E0) (OpsAt.nil _ _) ((unhide HK).later (unhide HB3))).mono ?_
  rintro e w4 ⟨rfl, hb4⟩
  have HB4 := hide (bel_two (unhide HB3) hb4)
  have HW4 := hide ((unhide HW3).later hb4)
  clear hb4
  have gs : (16 : Int) < (len : Int) + (lenk : Int) := by omega
  go_wp2
  all_goals go_ret
  all_goals exact ⟨rfl, unhide HB4⟩

set_option maxRecDepth 10000 in
set_option maxHeartbeats 3200000 in
theorem opens_none_few (a ak : Option Addr) (len cap lenk capk : Nat) (l k : List (Int × Int)) (h : Int) (r : runL h k [] = none) (w : World) (hE : Env w) (hO : OpsAt w a len l) (hK : OpsAt w ak lenk k) (hx : opensE l k h = 0)
    (hkn : ak = none → lenk = 0 ∧ capk = 0) (hln : a = none → len = 0 ∧ cap = 0) (hs : len + lenk ≤ 16) :
    Calls Tryd.prog 4 #[.slice a len cap, .slice ak lenk capk, .int .i64 h] w fun e w' => e = .returned (.bool true) ∧ Below w.heap.size w w' := by
  have e0 : opensE [] k h = 0 := opensE_mk chk_nil (opensE_zero hx).2.1 (opensE_zero hx).2.2
  have R := hide (runE_key (opensE_zero hx).2.1 (runE_nil (opensE_zero hx).2.2) r)
  have EB := hide (bare_none e0 r)
  have ho : opensB l k h = false := lost_none hx r
  have l16 : len ≤ 16 := by rw [← hO.1]; exact (chk_zero (opensE_zero hx).1).1
  have k16 : lenk ≤ 16 := by rw [← hK.1]; exact (chk_zero (opensE_zero hx).2.1).1
  have OP := hide (opens_is a ak len cap lenk capk l k h false 0 w ho hx hO hK)
  have e1 : opensE [] (k ++ l) h = 0 := opensE_mk chk_nil (chk_append (opensE_zero hx).2.1 (opensE_zero hx).1 (by rw [hO.1, hK.1]; omega)) (opensE_zero hx).2.2
  have E1 := hide e1
  have EB1 := hide ((opensB_both e1 hx).trans ho)
  clear e1
  have HX := hide hx
  have E0 := hide e0
  have HE := hide hE
  have HO := hide hO
  have HK := hide hK
  have HKN := hide hkn
  have HLN := hide hln
  have HOO := hide ho
  clear hE hO hK hx e0 hkn hln ho r
  go_enter Tryd.func4, Tryd.ntmps4
  go_wp2_with fail
  refine (unhide OP).mono ?_
  rintro e w1 ⟨rfl, hb1⟩
  have HB1 := hide hb1
  clear hb1
  go_wp2_with fail
  refine (locked_yes _ ((unhide HE).later (unhide HB1))).mono ?_
  rintro e w2 ⟨rfl, hb2⟩
  have HB2 := hide (bel_two (unhide HB1) hb2)
  clear hb2
  go_wp2_with fail
  refine (run_is ak none lenk capk 0 0 k [] h 8 [] _ (unhide R).1 (unhide R).2 ((unhide HK).later (unhide HB2)) (RowAt.nil _ _)).mono ?_
  rintro e w3 ⟨a3, cap3, rfl, hrow3, hb3⟩
  have HB3 := hide (bel_two (unhide HB2) hb3)
  have HW3 := hide hrow3
  clear hb3 hrow3
  go_wp2_with fail
  refine (opens_is none ak 0 0 lenk capk [] k h false 0 _ (unhide EB) (unhide E0) (OpsAt.nil _ _) ((unhide HK).later (unhide HB3))).mono ?_
  rintro e w4 ⟨rfl, hb4⟩
  have HB4 := hide (bel_two (unhide HB3) hb4)
  have HW4 := hide ((unhide HW3).later hb4)
  clear hb4
  have gs : ¬ (16 : Int) < (len : Int) + (lenk : Int) := by omega
  go_wp2_with fail
  have n2 := two_new w4 (.slice ak lenk capk) (.slice a len cap) 22
  have b5 := bel_two (unhide HB4) (alloc_below w4 (.cells #[.slice ak lenk capk, .slice a len cap] 22))
  refine (concat_two w4.heap.size ak a lenk capk len cap k l _ (by omega) ((unhide HK).later b5) ((unhide HO).later b5) (unhide HKN) (unhide HLN) n2.1 n2.2).mono ?_
  rintro e w6 ⟨a6, cap6, rfl, hO6, hb6⟩
  have HB6 := hide (bel_two b5 hb6)
  have HO6 := hide hO6
  clear n2 b5 hb6 hO6
  go_wp2_with fail
  refine (opens_is none a6 0 0 (lenk + len) cap6 [] (k ++ l) h false 0 _ (unhide EB1) (unhide E1) (OpsAt.nil _ _) (unhide HO6)).mono ?_
  rintro e w7 ⟨rfl, hb7⟩
  have HB7 := hide (bel_two (unhide HB6) hb7)
  clear hb7
  go_wp2
  go_ret
  exact ⟨rfl, unhide HB7⟩

set_option maxRecDepth 10000 in
set_option maxHeartbeats 3200000 in
theorem opens_one_many (a ak : Option Addr) (len cap lenk capk : Nat) (l k : List (Int × Int)) (h : Int) (y : Int) (r : runL h k [] = some [y]) (w : World) (hE : Env w) (hO : OpsAt w a len l) (hK : OpsAt w ak lenk k) (hx : opensE l k h = 0)
    (hkn : ak = none → lenk = 0 ∧ capk = 0) (hln : a = none → len = 0 ∧ cap = 0) (hs : 16 < len + lenk) :
    Calls Tryd.prog 4 #[.slice a len cap, .slice ak lenk capk, .int .i64 h] w fun e w' => e = .returned (.bool true) ∧ Below w.heap.size w w' := by
  have e0 : opensE [] k h = 0 := opensE_mk chk_nil (opensE_zero hx).2.1 (opensE_zero hx).2.2
  have R := hide (runE_fine (opensE_zero hx).2.1 (runE_nil (opensE_zero hx).2.2) r)
  have eb := bare_one e0 r
  obtain ⟨q, hq⟩ : ∃ q, (y != 0) = q := ⟨_, rfl⟩
  rw [hq] at eb
  have EB := hide eb
  clear eb
  obtain ⟨o, ho⟩ : ∃ o, opensB l k h = o := ⟨_, rfl⟩
  have l16 : len ≤ 16 := by rw [← hO.1]; exact (chk_zero (opensE_zero hx).1).1
  have k16 : lenk ≤ 16 := by rw [← hK.1]; exact (chk_zero (opensE_zero hx).2.1).1
  have OP := hide (opens_is a ak len cap lenk capk l k h o 0 w ho hx hO hK)
  have HX := hide hx
  have E0 := hide e0
  have HE := hide hE
  have HO := hide hO
  have HK := hide hK
  have HKN := hide hkn
  have HLN := hide hln
  have HOO := hide ho
  clear hE hO hK hx e0 hkn hln ho r
  go_enter Tryd.func4, Tryd.ntmps4
  go_wp2_with fail
  refine (unhide OP).mono ?_
  rintro e w1 ⟨rfl, hb1⟩
  have HB1 := hide hb1
  clear hb1
  go_wp2_with fail
  refine (locked_yes _ ((unhide HE).later (unhide HB1))).mono ?_
  rintro e w2 ⟨rfl, hb2⟩
  have HB2 := hide (bel_two (unhide HB1) hb2)
  clear hb2
  go_wp2_with fail
  refine (run_is ak none lenk capk 0 0 k [] h 0 [y] _ (unhide R).1 (unhide R).2 ((unhide HK).later (unhide HB2)) (RowAt.nil _ _)).mono ?_
  rintro e w3 ⟨a3, cap3, rfl, hrow3, hb3⟩
  have HB3 := hide (bel_two (unhide HB2) hb3)
  have HW3 := hide hrow3
  clear hb3 hrow3
  go_wp2_with fail
  refine (opens_is none ak 0 0 lenk capk [] k h q 0 _ (unhide EB) (unhide E0) (OpsAt.nil _ _) ((unhide HK).later (unhide HB3))).mono ?_
  rintro e w4 ⟨rfl, hb4⟩
  have HB4 := hide (bel_two (unhide HB3) hb4)
  have HW4 := hide ((unhide HW3).later hb4)
  clear hb4
  obtain ⟨b4, o4, ha4, hc4⟩ := (unhide HW4).2.2 (by simp)
  have hc5 : w4.cell? ⟨b4, o4, none⟩ = some (.int .i64 y) := hc4 0 (by simp)
  subst ha4
  clear hc4
  have gs : (16 : Int) < (len : Int) + (lenk : Int) := by omega
  go_wp2
  all_goals go_ret
  all_goals exact ⟨rfl, unhide HB4⟩

set_option maxRecDepth 10000 in
set_option maxHeartbeats 3200000 in
theorem opens_one_few (a ak : Option Addr) (len cap lenk capk : Nat) (l k : List (Int × Int)) (h : Int) (y : Int) (r : runL h k [] = some [y]) (w : World) (hE : Env w) (hO : OpsAt w a len l) (hK : OpsAt w ak lenk k) (hx : opensE l k h = 0)
    (hkn : ak = none → lenk = 0 ∧ capk = 0) (hln : a = none → len = 0 ∧ cap = 0) (hs : len + lenk ≤ 16) :
    Calls Tryd.prog 4 #[.slice a len cap, .slice ak lenk capk, .int .i64 h] w fun e w' => e = .returned (.bool true) ∧ Below w.heap.size w w' := by
  have e0 : opensE [] k h = 0 := opensE_mk chk_nil (opensE_zero hx).2.1 (opensE_zero hx).2.2
  have R := hide (runE_fine (opensE_zero hx).2.1 (runE_nil (opensE_zero hx).2.2) r)
  have eb := bare_one e0 r
  obtain ⟨q, hq⟩ : ∃ q, (y != 0) = q := ⟨_, rfl⟩
  rw [hq] at eb
  have EB := hide eb
  clear eb
  obtain ⟨o, ho⟩ : ∃ o, opensB l k h = o := ⟨_, rfl⟩
  have l16 : len ≤ 16 := by rw [← hO.1]; exact (chk_zero (opensE_zero hx).1).1
  have k16 : lenk ≤ 16 := by rw [← hK.1]; exact (chk_zero (opensE_zero hx).2.1).1
  have OP := hide (opens_is a ak len cap lenk capk l k h o 0 w ho hx hO hK)
  have e1 : opensE [] (k ++ l) h = 0 := opensE_mk chk_nil (chk_append (opensE_zero hx).2.1 (opensE_zero hx).1 (by rw [hO.1, hK.1]; omega)) (opensE_zero hx).2.2
  have E1 := hide e1
  have EB1 := hide ((opensB_both e1 hx).trans ho)
  clear e1
  have HX := hide hx
  have E0 := hide e0
  have HE := hide hE
  have HO := hide hO
  have HK := hide hK
  have HKN := hide hkn
  have HLN := hide hln
  have HOO := hide ho
  clear hE hO hK hx e0 hkn hln ho r
  go_enter Tryd.func4, Tryd.ntmps4
  go_wp2_with fail
  refine (unhide OP).mono ?_
  rintro e w1 ⟨rfl, hb1⟩
  have HB1 := hide hb1
  clear hb1
  go_wp2_with fail
  refine (locked_yes _ ((unhide HE).later (unhide HB1))).mono ?_
  rintro e w2 ⟨rfl, hb2⟩
  have HB2 := hide (bel_two (unhide HB1) hb2)
  clear hb2
  go_wp2_with fail
  refine (run_is ak none lenk capk 0 0 k [] h 0 [y] _ (unhide R).1 (unhide R).2 ((unhide HK).later (unhide HB2)) (RowAt.nil _ _)).mono ?_
  rintro e w3 ⟨a3, cap3, rfl, hrow3, hb3⟩
  have HB3 := hide (bel_two (unhide HB2) hb3)
  have HW3 := hide hrow3
  clear hb3 hrow3
  go_wp2_with fail
  refine (opens_is none ak 0 0 lenk capk [] k h q 0 _ (unhide EB) (unhide E0) (OpsAt.nil _ _) ((unhide HK).later (unhide HB3))).mono ?_
  rintro e w4 ⟨rfl, hb4⟩
  have HB4 := hide (bel_two (unhide HB3) hb4)
  have HW4 := hide ((unhide HW3).later hb4)
  clear hb4
  obtain ⟨b4, o4, ha4, hc4⟩ := (unhide HW4).2.2 (by simp)
  have hc5 : w4.cell? ⟨b4, o4, none⟩ = some (.int .i64 y) := hc4 0 (by simp)
  subst ha4
  clear hc4
  have gs : ¬ (16 : Int) < (len : Int) + (lenk : Int) := by omega
  go_wp2_with fail
  have n2 := two_new w4 (.slice ak lenk capk) (.slice a len cap) 22
  have b5 := bel_two (unhide HB4) (alloc_below w4 (.cells #[.slice ak lenk capk, .slice a len cap] 22))
  refine (concat_two w4.heap.size ak a lenk capk len cap k l _ (by omega) ((unhide HK).later b5) ((unhide HO).later b5) (unhide HKN) (unhide HLN) n2.1 n2.2).mono ?_
  rintro e w6 ⟨a6, cap6, rfl, hO6, hb6⟩
  have HB6 := hide (bel_two b5 hb6)
  have HO6 := hide hO6
  clear n2 b5 hb6 hO6
  go_wp2_with fail
  refine (opens_is none a6 0 0 (lenk + len) cap6 [] (k ++ l) h o 0 _ (unhide EB1) (unhide E1) (OpsAt.nil _ _) (unhide HO6)).mono ?_
  rintro e w7 ⟨rfl, hb7⟩
  have HB7 := hide (bel_two (unhide HB6) hb7)
  clear hb7
  go_wp2
  go_ret
  exact ⟨rfl, unhide HB7⟩

set_option maxRecDepth 10000 in
set_option maxHeartbeats 3200000 in
theorem opens_oth_many (a ak : Option Addr) (len cap lenk capk : Nat) (l k : List (Int × Int)) (h : Int) (L : List Int) (r : runL h k [] = some L) (hl : L.length ≠ 1) (w : World) (hE : Env w) (hO : OpsAt w a len l) (hK : OpsAt w ak lenk k) (hx : opensE l k h = 0)
    (hkn : ak = none → lenk = 0 ∧ capk = 0) (hln : a = none → len = 0 ∧ cap = 0) (hs : 16 < len + lenk) :
    Calls Tryd.prog 4 #[.slice a len cap, .slice ak lenk capk, .int .i64 h] w fun e w' => e = .returned (.bool true) ∧ Below w.heap.size w w' := by
  have e0 : opensE [] k h = 0 := opensE_mk chk_nil (opensE_zero hx).2.1 (opensE_zero hx).2.2
  have R := hide (runE_fine (opensE_zero hx).2.1 (runE_nil (opensE_zero hx).2.2) r)
  have EB := hide (bare_not e0 r hl)
  obtain ⟨o, ho⟩ : ∃ o, opensB l k h = o := ⟨_, rfl⟩
  have g1 : ((L.length : Int) == 1) = false := by simp; omega
  have l16 : len ≤ 16 := by rw [← hO.1]; exact (chk_zero (opensE_zero hx).1).1
  have k16 : lenk ≤ 16 := by rw [← hK.1]; exact (chk_zero (opensE_zero hx).2.1).1
  have OP := hide (opens_is a ak len cap lenk capk l k h o 0 w ho hx hO hK)
  have HX := hide hx
  have E0 := hide e0
  have HE := hide hE
  have HO := hide hO
  have HK := hide hK
  have HKN := hide hkn
  have HLN := hide hln
  have HOO := hide ho
  clear hE hO hK hx e0 hkn hln ho r hl
  go_enter Tryd.func4, Tryd.ntmps4
  go_wp2_with fail
  refine (unhide OP).mono ?_
  rintro e w1 ⟨rfl, hb1⟩
  have HB1 := hide hb1
  clear hb1
  go_wp2_with fail
  refine (locked_yes _ ((unhide HE).later (unhide HB1))).mono ?_
  rintro e w2 ⟨rfl, hb2⟩
  have HB2 := hide (bel_two (unhide HB1) hb2)
  clear hb2
  go_wp2_with fail
  refine (run_is ak none lenk capk 0 0 k [] h 0 L _ (unhide R).1 (unhide R).2 ((unhide HK).later (unhide HB2)) (RowAt.nil _ _)).mono ?_
  rintro e w3 ⟨a3, cap3, rfl, hrow3, hb3⟩
  have HB3 := hide (bel_two (unhide HB2) hb3)
  have HW3 := hide hrow3
  clear hb3 hrow3
  go_wp2_with fail
  refine (opens_is none ak 0 0 lenk capk [] k h false 0 _ (unhide EB) (unhide E0) (OpsAt.nil _ _) ((unhide HK).later (unhide HB3))).mono ?_
  rintro e w4 ⟨rfl, hb4⟩
  have HB4 := hide (bel_two (unhide HB3) hb4)
  have HW4 := hide ((unhide HW3).later hb4)
  clear hb4
  have gs : (16 : Int) < (len : Int) + (lenk : Int) := by omega
  go_wp2
  all_goals go_ret
  all_goals exact ⟨rfl, unhide HB4⟩

set_option maxRecDepth 10000 in
set_option maxHeartbeats 3200000 in
theorem opens_oth_few (a ak : Option Addr) (len cap lenk capk : Nat) (l k : List (Int × Int)) (h : Int) (L : List Int) (r : runL h k [] = some L) (hl : L.length ≠ 1) (w : World) (hE : Env w) (hO : OpsAt w a len l) (hK : OpsAt w ak lenk k) (hx : opensE l k h = 0)
    (hkn : ak = none → lenk = 0 ∧ capk = 0) (hln : a = none → len = 0 ∧ cap = 0) (hs : len + lenk ≤ 16) :
    Calls Tryd.prog 4 #[.slice a len cap, .slice ak lenk capk, .int .i64 h] w fun e w' => e = .returned (.bool true) ∧ Below w.heap.size w w' := by
  have e0 : opensE [] k h = 0 := opensE_mk chk_nil (opensE_zero hx).2.1 (opensE_zero hx).2.2
  have R := hide (runE_fine (opensE_zero hx).2.1 (runE_nil (opensE_zero hx).2.2) r)
  have EB := hide (bare_not e0 r hl)
  obtain ⟨o, ho⟩ : ∃ o, opensB l k h = o := ⟨_, rfl⟩
  have g1 : ((L.length : Int) == 1) = false := by simp; omega
  have l16 : len ≤ 16 := by rw [← hO.1]; exact (chk_zero (opensE_zero hx).1).1
  have k16 : lenk ≤ 16 := by rw [← hK.1]; exact (chk_zero (opensE_zero hx).2.1).1
  have OP := hide (opens_is a ak len cap lenk capk l k h o 0 w ho hx hO hK)
  have e1 : opensE [] (k ++ l) h = 0 := opensE_mk chk_nil (chk_append (opensE_zero hx).2.1 (opensE_zero hx).1 (by rw [hO.1, hK.1]; omega)) (opensE_zero hx).2.2
  have E1 := hide e1
  have EB1 := hide ((opensB_both e1 hx).trans ho)
  clear e1
  have HX := hide hx
  have E0 := hide e0
  have HE := hide hE
  have HO := hide hO
  have HK := hide hK
  have HKN := hide hkn
  have HLN := hide hln
  have HOO := hide ho
  clear hE hO hK hx e0 hkn hln ho r hl
  go_enter Tryd.func4, Tryd.ntmps4
  go_wp2_with fail
  refine (unhide OP).mono ?_
  rintro e w1 ⟨rfl, hb1⟩
  have HB1 := hide hb1
  clear hb1
  go_wp2_with fail
  refine (locked_yes _ ((unhide HE).later (unhide HB1))).mono ?_
  rintro e w2 ⟨rfl, hb2⟩
  have HB2 := hide (bel_two (unhide HB1) hb2)
  clear hb2
  go_wp2_with fail
  refine (run_is ak none lenk capk 0 0 k [] h 0 L _ (unhide R).1 (unhide R).2 ((unhide HK).later (unhide HB2)) (RowAt.nil _ _)).mono ?_
  rintro e w3 ⟨a3, cap3, rfl, hrow3, hb3⟩
  have HB3 := hide (bel_two (unhide HB2) hb3)
  have HW3 := hide hrow3
  clear hb3 hrow3
  go_wp2_with fail
  refine (opens_is none ak 0 0 lenk capk [] k h false 0 _ (unhide EB) (unhide E0) (OpsAt.nil _ _) ((unhide HK).later (unhide HB3))).mono ?_
  rintro e w4 ⟨rfl, hb4⟩
  have HB4 := hide (bel_two (unhide HB3) hb4)
  have HW4 := hide ((unhide HW3).later hb4)
  clear hb4
  have gs : ¬ (16 : Int) < (len : Int) + (lenk : Int) := by omega
  go_wp2_with fail
  have n2 := two_new w4 (.slice ak lenk capk) (.slice a len cap) 22
  have b5 := bel_two (unhide HB4) (alloc_below w4 (.cells #[.slice ak lenk capk, .slice a len cap] 22))
  refine (concat_two w4.heap.size ak a lenk capk len cap k l _ (by omega) ((unhide HK).later b5) ((unhide HO).later b5) (unhide HKN) (unhide HLN) n2.1 n2.2).mono ?_
  rintro e w6 ⟨a6, cap6, rfl, hO6, hb6⟩
  have HB6 := hide (bel_two b5 hb6)
  have HO6 := hide hO6
  clear n2 b5 hb6 hO6
  go_wp2_with fail
  refine (opens_is none a6 0 0 (lenk + len) cap6 [] (k ++ l) h o 0 _ (unhide EB1) (unhide E1) (OpsAt.nil _ _) (unhide HO6)).mono ?_
  rintro e w7 ⟨rfl, hb7⟩
  have HB7 := hide (bel_two (unhide HB6) hb7)
  clear hb7
  go_wp2
  go_ret
  exact ⟨rfl, unhide HB7⟩

theorem lockOpens_any (a ak : Option Addr) (len cap lenk capk : Nat) (l k : List (Int × Int)) (h : Int) (w : World) (hE : Env w) (hO : OpsAt w a len l) (hK : OpsAt w ak lenk k)
    (hkn : ak = none → lenk = 0 ∧ capk = 0) (hln : a = none → len = 0 ∧ cap = 0) :
    Calls Tryd.prog 4 #[.slice a len cap, .slice ak lenk capk, .int .i64 h] w fun e w' => e = .returned (.bool true) ∧ Below w.heap.size w w' := by
  by_cases hx : opensE l k h = 0
  · by_cases hs : len + lenk ≤ 16
    · cases r : runL h k [] with
      | none => exact opens_none_few a ak len cap lenk capk l k h r w hE hO hK hx hkn hln hs
      | some L =>
        by_cases hl : L.length = 1
        · obtain ⟨y, rfl⟩ := List.length_eq_one_iff.1 hl
          exact opens_one_few a ak len cap lenk capk l k h y r w hE hO hK hx hkn hln hs
        · exact opens_oth_few a ak len cap lenk capk l k h L r hl w hE hO hK hx hkn hln hs
    · cases r : runL h k [] with
      | none => exact opens_none_many a ak len cap lenk capk l k h r w hE hO hK hx hkn hln (by omega)
      | some L =>
        by_cases hl : L.length = 1
        · obtain ⟨y, rfl⟩ := List.length_eq_one_iff.1 hl
          exact opens_one_many a ak len cap lenk capk l k h y r w hE hO hK hx hkn hln (by omega)
        · exact opens_oth_many a ak len cap lenk capk l k h L r hl w hE hO hK hx hkn hln (by omega)
  · exact opens_bad a ak len cap lenk capk l k h w hE hO hK hx

end Go.Proofs.YtoacgkgadecddabDoor
