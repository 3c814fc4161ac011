/- Contracts of the machine's smallest functions: bounds, put, take, fail. -/
import Derived.Test.YtmomfkikogbdeaaGreatDoorCoinTakeToLockMach
import Derived.Test.YtmomfkikogbdeaaGreatDoorLockMathToLockRow
namespace Go.Proofs.YtmomfkikogbdeaaGreatDoor
open Go.RowKit

set_option maxHeartbeats 400000 in
theorem isHeight_is (n : Int) (b : Bool) (w : World) (hb : b = hOk n) :
    Calls Tryz.prog 252 #[.int .i64 n] w fun e w' => e = .returned (.bool b) ∧ w = w' := by
  have HB := hide hb
  clear hb
  go_enter Tryz.func252, Tryz.ntmps252
  go_wp2_with (go_at_call 103; refine (within_is _ _ _ b _ (unhide HB)).mono ?_; rintro e w' ⟨rfl, rfl⟩)
  go_ret
  exact ⟨rfl, rfl⟩

set_option maxHeartbeats 400000 in
theorem fail_any (p : Nat) (s : MS) (W w : World) (hm : Mach p s W w) :
    Calls Tryz.prog 313 #[.pointer (some ⟨p, 0, none⟩)] w fun e w' => e = .returned (.tuple #[]) ∧ Mach p s.fail W w' := by
  have c1 := hm.cell_f
  have c2 := hm.free 18
  have HM := hide hm
  clear hm
  go_enter Tryz.func313, Tryz.ntmps313
  go_wp2
  go_end0
  exact ⟨rfl, (unhide HM).store 18 _ (MS.set_f (unhide HM).good true) (unhide HM).good.fail_ok⟩

theorem put_full {s : MS} {x : Int} (h : s.n = 16 ∨ fit x = false) : s.put x = s.fail := by unfold MS.put; rw [if_pos h]; rfl
theorem put_room {s : MS} {x : Int} (h1 : s.n ≠ 16) (h2 : fit x = true) : s.put x = { s with cs := s.cs.set s.n x, n := s.n + 1 } := by unfold MS.put; rw [if_neg (by simp [h1, h2])]

set_option maxHeartbeats 800000 in
theorem put_any (p : Nat) (s : MS) (x : Int) (W w : World) (hm : Mach p s W w) :
    Calls Tryz.prog 303 #[.pointer (some ⟨p, 0, none⟩), .int .i64 x] w fun e w' => e = .returned (.tuple #[]) ∧ Mach p (s.put x) W w' := by
  have hn := hm.good.2.1
  have c1 := hm.cell_n
  have HM := hide hm
  by_cases h1 : s.n = 16
  · rw [put_full (Or.inl h1)]
    rw [h1] at c1
    clear hm hn
    go_enter Tryz.func303, Tryz.ntmps303
    go_wp2_with (go_at_call 313; refine (fail_any p s W _ (unhide HM)).mono ?_; rintro e w' ⟨rfl, hm'⟩)
    first | go_end0 | (simp only [Exit.inBlock, Exit.then]; refine bodyPost_ret (results_none rfl _ _ _) rfl ?_) | refine bodyPost_ret (results_none rfl _ _ _) rfl ?_
    exact ⟨rfl, by assumption⟩
  · have g1 : ((s.n : Int) == 16) = false := by simp; omega
    by_cases h2 : fit x = true
    · rw [put_room h1 h2]
      have c2 := hm.cell_s s.n (by omega)
      have c3 := hm.free s.n
      have c4 := hm.free 16
      have c5 : ((w.setCell ⟨p, s.n, none⟩ (.int .i64 x))).cell? ⟨p, 16, none⟩ = some (.int .i64 s.n) := by
        rw [World.cell?_setCell_other]
        · exact c1
        · exact fun e => h1 (congrArg Addr.off e)
      have g2 : (s.n : Int) < 16 := by omega
      have H1 := hide h1
      have H2 := hide h2
      clear hm h1 h2
      go_enter Tryz.func303, Tryz.ntmps303
      go_wp2_with (go_at_call 302; refine (fits_is _ true _ (unhide H2).symm).mono ?_; rintro e w' ⟨rfl, rfl⟩)
      go_region
      all_goals go_wp2
      all_goals go_end0
      all_goals
        refine ⟨rfl, Mach.drew ?_⟩
        have hm := unhide HM
        have g := hm.good.put_ok x
        rw [put_room (unhide H1) (unhide H2)] at g
        have ok1 : MS.ok { s with cs := s.cs.set s.n x } := ⟨g.1, hm.good.2.1, g.2.2⟩
        exact (hm.store s.n _ (MS.set_stack hm.good s.n (by omega) x) ok1).store 16 _ (MS.set_n ok1 (s.n + 1)) g
    · have h3 : fit x = false := by simpa using h2
      rw [put_full (Or.inr h3)]
      have H3 := hide h3
      clear hm h2 h3 h1
      go_enter Tryz.func303, Tryz.ntmps303
      go_wp2_with (first | (go_at_call 302; refine (fits_is _ false _ (unhide H3).symm).mono ?_; rintro e w' ⟨rfl, rfl⟩) | (go_at_call 313; refine (fail_any p s W _ (unhide HM)).mono ?_; rintro e w' ⟨rfl, hm'⟩))
      first | go_end0 | (simp only [Exit.inBlock, Exit.then]; refine bodyPost_ret (results_none rfl _ _ _) rfl ?_) | refine bodyPost_ret (results_none rfl _ _ _) rfl ?_
      exact ⟨rfl, by assumption⟩

theorem take_none {s : MS} (h : s.n = 0) : s.take = s.fail := by unfold MS.take; rw [if_pos h]; rfl
theorem take_some {s : MS} (h : s.n ≠ 0) : s.take = { s with n := s.n - 1 } := by unfold MS.take; rw [if_neg h]
theorem top_none {s : MS} (h : s.n = 0) : s.top = 0 := by unfold MS.top; rw [if_pos h]
theorem top_some {s : MS} (h : s.n ≠ 0) : s.top = s.cs.getD (s.n - 1) 0 := by unfold MS.top; rw [if_neg h]

set_option maxHeartbeats 800000 in
theorem take_any (p : Nat) (s : MS) (W w : World) (hm : Mach p s W w) :
    Calls Tryz.prog 333 #[.pointer (some ⟨p, 0, none⟩)] w fun e w' => e = .returned (.int .i64 s.top) ∧ Mach p s.take W w' := by
  have hn := hm.good.2.1
  have c1 := hm.cell_n
  have HM := hide hm
  by_cases h1 : s.n = 0
  · rw [take_none h1, top_none h1]
    rw [h1] at c1
    clear hm hn
    go_enter Tryz.func333, Tryz.ntmps333
    go_wp2_with (go_at_call 313; refine (fail_any p s W _ (unhide HM)).mono ?_; rintro e w' ⟨rfl, hm'⟩)
    go_ret
    exact ⟨rfl, by assumption⟩
  · obtain ⟨m, hm1⟩ : ∃ m, s.n = m + 1 := ⟨s.n - 1, by omega⟩
    have e1 : s.take = { s with n := m } := by rw [take_some h1, hm1]; rfl
    have e2 : s.top = s.cs.getD m 0 := by rw [top_some h1, hm1]; rfl
    rw [e1, e2]
    have g1 : (((m : Int) + 1) == 0) = false := by simp; omega
    rw [hm1] at c1
    have c2 : (w.setCell ⟨p, 16, none⟩ (.int .i64 m)).cell? ⟨p, m, none⟩ = some (.int .i64 (s.cs.getD m 0)) := by
      rw [World.cell?_setCell_other]
      · exact hm.cell_s m (by omega)
      · exact fun e => absurd (congrArg Addr.off e) (by show ¬ (16 = m); omega)
    have c3 : (w.setCell ⟨p, 16, none⟩ (.int .i64 m)).cell? ⟨p, 16, none⟩ = some (.int .i64 m) := World.cell?_setCell_same _ _ _ hm.cell_n
    have c4 := hm.free 16
    have g2 : (m : Int) < 16 := by omega
    have H1 := hide hm1
    obtain ⟨t, ht⟩ : ∃ t, t = s.cs.getD m 0 := ⟨_, rfl⟩
    rw [← ht] at c2 ⊢
    clear hm h1 hm1 hn e1 e2 ht
    go_enter Tryz.func333, Tryz.ntmps333
    go_wp2
    go_quiet (fail)
    go_wp2
    go_ret
    refine ⟨rfl, Mach.drewN ?_ _⟩
    have hm := unhide HM
    have h1 := unhide H1
    exact hm.store 16 _ (MS.set_n hm.good m) ⟨hm.good.1, by show m ≤ 16; omega, hm.good.2.2⟩

end Go.Proofs.YtmomfkikogbdeaaGreatDoor

/- Contracts of putAll: a stack is put on the machine. -/
namespace Go.Proofs.YtmomfkikogbdeaaGreatDoor
open Go.RowKit

set_option maxHeartbeats 400000 in
theorem putAll_none (p : Nat) (s : MS) (a : Option Addr) (cap : Nat) (W w : World) (hm : Mach p s W w) :
    Calls Tryz.prog 280 #[.pointer (some ⟨p, 0, none⟩), .slice a 0 cap] w fun e w' => e = .returned (.tuple #[]) ∧ Mach p s W w' := by
  have HM := hide hm
  clear hm
  go_enter Tryz.func280, Tryz.ntmps280
  go_wp2
  refine wp_loop_rounds 1 ?_
  rw [rounds_succ]
  go_wp2
  go_end0
  exact ⟨rfl, unhide HM⟩

set_option maxHeartbeats 800000 in
theorem putAll_some (p : Nat) (s : MS) (b off len cap : Nat) (Z : List Int) (W w : World) (hm : Mach p s W w) (hp : W.heap.size ≤ p) (hz : Z.length = len) (hl : len ≤ maxLen)
    (hb : b < W.heap.size) (hc : ∀ i, i < len → W.cell? ⟨b, off + i, none⟩ = some (.int .i64 (Z.getD i 0))) :
    Calls Tryz.prog 280 #[.pointer (some ⟨p, 0, none⟩), .slice (some ⟨b, off, none⟩) len cap] w fun e w' => e = .returned (.tuple #[]) ∧ ∃ s', Mach p s' W w' ∧ s'.h = s.h ∧ s'.rep = s.rep.bind (fun L => putsL L Z) := by
  have HM := hide hm
  have HC := hide hc
  have HZ := hide hz
  unfold maxLen at hl
  clear hm hc hz
  go_enter Tryz.func280, Tryz.ntmps280
  go_wp2
  go_loopw [8] (fun i wr => ∃ (k : Nat) (s' : MS), k ≤ len ∧ i = .int .i64 k ∧ Mach p s' W wr ∧ s'.h = s.h ∧ s'.rep = s.rep.bind (fun L => putsL L (Z.take k))) (fun i _ => len - (intOf i).toNat)
  case atStart => exact ⟨0, s, Nat.zero_le _, rfl, unhide HM, rfl, by cases s.rep <;> rfl⟩
  case round =>
    obtain ⟨k, s', hk, rfl, hm, hh, hr⟩ := hrel
    have HM' := hide hm
    have HH := hide hh
    have HR := hide hr
    clear hh hr
    by_cases hlt : k < len
    · have c1 : wr.cell? ⟨b, off + k, none⟩ = some (.int .i64 (Z.getD k 0)) := (hm.past ⟨b, off + k, none⟩ (by show b ≠ p; omega) hb).trans ((unhide HC) k hlt)
      obtain ⟨x, hx⟩ : ∃ x, x = Z.getD k 0 := ⟨_, rfl⟩
      rw [← hx] at c1
      have HX := hide hx
      clear hm hx
      go_wp2_with fail
      refine (put_any p s' x W _ (unhide HM')).mono ?_
      rintro e w1 ⟨rfl, hm1⟩
      have HM1 := hide hm1
      clear hm1
      go_wp2
      go_roundw
      case rel =>
        refine ⟨k + 1, s'.put x, by omega, by go_num, unhide HM1, (MS.put_h _ _).trans (unhide HH), ?_⟩
        have hkl : k < Z.length := by rw [unhide HZ]; exact hlt
        have ex : x = Z[k] := by rw [unhide HX]; simp [hkl]
        rw [MS.rep_put (unhide HM').good, unhide HR, List.take_succ_eq_append_getElem hkl, ex]
        cases s.rep with
        | none => rfl
        | some L => exact (putsL_snoc _ _ _).symm
      case measure => simp [intOf]; omega
    · clear hm
      go_wp2
      go_end0
      have e : k = len := by omega
      subst e
      refine ⟨rfl, s', unhide HM', unhide HH, ?_⟩
      rw [unhide HR, ← unhide HZ, List.take_length]

/-- What a machine holds behind putAll: the stack, if it may be one. -/
theorem putAll_any (p : Nat) (s : MS) (a : Option Addr) (len cap : Nat) (Z : List Int) (W w : World) (hm : Mach p s W w) (hp : W.heap.size ≤ p) (hR : RowAt W a len Z) :
    Calls Tryz.prog 280 #[.pointer (some ⟨p, 0, none⟩), .slice a len cap] w fun e w' => e = .returned (.tuple #[]) ∧ ∃ s', Mach p s' W w' ∧ s'.h = s.h ∧ s'.rep = s.rep.bind (fun L => putsL L Z) := by
  obtain ⟨hz, hl, hc⟩ := hR
  by_cases h : len = 0
  · subst h
    have e : Z = [] := List.length_eq_zero_iff.1 hz
    subst e
    exact (putAll_none p s a cap W w hm).mono fun e w' ⟨x, y⟩ => ⟨x, s, y, rfl, by cases s.rep <;> rfl⟩
  · obtain ⟨b, off, rfl, hcell⟩ := hc (by omega)
    exact putAll_some p s b off len cap Z W w hm hp hz hl (World.block_lt_of_cell? _ _ (hcell 0 (by omega))) hcell

end Go.Proofs.YtmomfkikogbdeaaGreatDoor

/- Contracts of the machine's orders: each does to the machine what its kind says. -/
namespace Go.Proofs.YtmomfkikogbdeaaGreatDoor
open Go.RowKit

set_option maxHeartbeats 400000 in
theorem truth_any (b : Bool) (w : World) :
    Calls Tryz.prog 321 #[.bool b] w fun e w' => e = .returned (.int .i64 (b01 b)) ∧ w = w' := by
  cases b
  all_goals
    go_enter Tryz.func321, Tryz.ntmps321
    go_wp2
    go_ret
    exact ⟨rfl, rfl⟩

set_option maxHeartbeats 400000 in
theorem o1_any (a b : Int) (w : World) (ha : fit a = true) (hb : fit b = true) :
    Calls Tryz.prog 318 #[.int .i64 a, .int .i64 b] w fun e w' => e = .returned (.int .i64 (g2 5 a b)) ∧ w = w' := by
  have h1 := (fit_iff a).1 ha
  have h2 := (fit_iff b).1 hb
  clear ha hb
  go_enter Tryz.func318, Tryz.ntmps318
  go_wp2
  go_ret
  exact ⟨rfl, rfl⟩

set_option maxHeartbeats 400000 in
theorem o2_any (a b : Int) (w : World) (ha : fit a = true) (hb : fit b = true) :
    Calls Tryz.prog 319 #[.int .i64 a, .int .i64 b] w fun e w' => e = .returned (.int .i64 (g2 6 a b)) ∧ w = w' := by
  have h1 := (fit_iff a).1 ha
  have h2 := (fit_iff b).1 hb
  clear ha hb
  go_enter Tryz.func319, Tryz.ntmps319
  go_wp2
  go_ret
  exact ⟨rfl, rfl⟩

set_option maxHeartbeats 400000 in
theorem o3_any (a b : Int) (w : World) :
    Calls Tryz.prog 320 #[.int .i64 a, .int .i64 b] w fun e w' => e = .returned (.int .i64 (g2 7 a b)) ∧ w = w' := by
  go_enter Tryz.func320, Tryz.ntmps320
  go_wp2_with (go_at_call 321; refine (truth_any _ _).mono ?_; rintro e w' ⟨rfl, rfl⟩)
  go_ret
  exact ⟨rfl, rfl⟩

set_option maxHeartbeats 400000 in
theorem o4_any (a b : Int) (w : World) :
    Calls Tryz.prog 322 #[.int .i64 a, .int .i64 b] w fun e w' => e = .returned (.int .i64 (g2 8 a b)) ∧ w = w' := by
  go_enter Tryz.func322, Tryz.ntmps322
  go_wp2_with (go_at_call 321; refine (truth_any _ _).mono ?_; rintro e w' ⟨rfl, rfl⟩)
  go_ret
  exact ⟨rfl, rfl⟩

set_option maxHeartbeats 400000 in
theorem o6_any (a b : Int) (w : World) :
    Calls Tryz.prog 325 #[.int .i64 a, .int .i64 b] w fun e w' => e = .returned (.int .i64 (g2 10 a b)) ∧ w = w' := by
  by_cases h : a = 0
  · have h1 : (a != 0) = false := by simp [h]
    have e : g2 10 a b = b01 false := by simp [g2, h]
    rw [e]
    clear h e
    go_enter Tryz.func325, Tryz.ntmps325
    go_wp2_with (go_at_call 321; refine (truth_any _ _).mono ?_; rintro e w' ⟨rfl, rfl⟩)
    go_ret
    exact ⟨rfl, rfl⟩
  · have h1 : (a != 0) = true := by simp [h]
    have e : g2 10 a b = b01 (b != 0) := by simp [g2, h1]
    rw [e]
    clear h e
    go_enter Tryz.func325, Tryz.ntmps325
    go_wp2_with (go_at_call 321; refine (truth_any _ _).mono ?_; rintro e w' ⟨rfl, rfl⟩)
    go_ret
    exact ⟨rfl, rfl⟩

set_option maxHeartbeats 400000 in
theorem o5_any (a : Int) (w : World) :
    Calls Tryz.prog 324 #[.int .i64 a] w fun e w' => e = .returned (.int .i64 (g1 9 a)) ∧ w = w' := by
  go_enter Tryz.func324, Tryz.ntmps324
  go_wp2_with (go_at_call 321; refine (truth_any _ _).mono ?_; rintro e w' ⟨rfl, rfl⟩)
  go_ret
  exact ⟨rfl, rfl⟩

theorem ret_int {k : IntKind} {a b : Int} (h : a = b) : Ending.returned (.int k a) = .returned (.int k b) := by rw [h]

set_option maxHeartbeats 800000 in
theorem mix_any (a : Int) (w : World) (ha : fit a = true) :
    Calls Tryz.prog 328 #[.int .i64 a] w fun e w' => e = .returned (.int .i64 (g1 13 a)) ∧ w = w' := by
  have hbd := hide (mixN_bd a ha)
  have h1 := (fit_iff a).1 ha
  clear ha
  go_enter Tryz.func328, Tryz.ntmps328
  go_wp2
  go_loop [3, 6] (fun r i => ∃ k : Nat, k ≤ 3 ∧ i = .int .i64 k ∧ r = .int .i64 (mixN a k)) (fun _ i => 3 - (intOf i).toNat)
  case atStart => exact ⟨0, Nat.zero_le _, rfl, rfl⟩
  case round =>
    obtain ⟨k, hk, rfl, rfl⟩ := hrel
    obtain ⟨b1, b2⟩ := (unhide hbd) k
    obtain ⟨m, hm⟩ : ∃ m, m = mixN a k := ⟨_, rfl⟩
    rw [← hm] at b1 b2 ⊢
    have HM := hide hm
    clear hm
    by_cases hlt : k < 3
    · go_wp2
      go_round
      case rel =>
        refine ⟨k + 1, by omega, by go_num, ?_⟩
        have := unhide HM
        simp only [mixN, ← this]
      case measure => simp [intOf]; omega
    · go_wp2
      go_ret
      have e : k = 3 := by omega
      subst e
      refine ⟨ret_int ?_, rfl⟩
      have := unhide HM
      simp only [g1, mixOf, ← this]
      simp

end Go.Proofs.YtmomfkikogbdeaaGreatDoor

/- Contracts of the machine's orders: each does to the machine what its kind says. -/
namespace Go.Proofs.YtmomfkikogbdeaaGreatDoor
open Go.RowKit

set_option maxHeartbeats 400000 in
theorem drop_any (p : Nat) (s : MS) (n : Int) (W w : World) (hm : Mach p s W w) :
    Calls Tryz.prog 316 #[.pointer (some ⟨p, 0, none⟩), .int .i64 n] w fun e w' => e = .returned (.tuple #[]) ∧ Mach p (s.step 4 n) W w' := by
  have HM := hide hm
  clear hm
  go_enter Tryz.func316, Tryz.ntmps316
  go_wp2_with (go_at_call 333; refine (take_any p s W _ (unhide HM)).mono ?_; rintro e w' ⟨rfl, hm'⟩)
  go_end0
  exact ⟨rfl, by assumption⟩

set_option maxHeartbeats 400000 in
theorem putHeight_any (p : Nat) (s : MS) (n : Int) (W w : World) (hm : Mach p s W w) :
    Calls Tryz.prog 327 #[.pointer (some ⟨p, 0, none⟩), .int .i64 n] w fun e w' => e = .returned (.tuple #[]) ∧ Mach p (s.step 12 n) W w' := by
  have c1 := hm.cell_h
  have HM := hide hm
  clear hm
  go_enter Tryz.func327, Tryz.ntmps327
  go_wp2_with (go_at_call 303; refine (put_any p s _ W _ (unhide HM)).mono ?_; rintro e w' ⟨rfl, hm'⟩)
  go_end0
  exact ⟨rfl, by assumption⟩

set_option maxHeartbeats 400000 in
theorem dup_any (p : Nat) (s : MS) (n : Int) (W w : World) (hm : Mach p s W w) :
    Calls Tryz.prog 314 #[.pointer (some ⟨p, 0, none⟩), .int .i64 n] w fun e w' => e = .returned (.tuple #[]) ∧ Mach p (s.step 2 n) W w' := by
  have HM := hide hm
  clear hm
  go_enter Tryz.func314, Tryz.ntmps314
  go_wp2_with fail
  refine (take_any p s W _ (unhide HM)).mono ?_
  rintro e w1 ⟨rfl, hm1⟩
  have HM1 := hide hm1
  clear hm1
  go_wp2_with fail
  refine (put_any p s.take _ W _ (unhide HM1)).mono ?_
  rintro e w2 ⟨rfl, hm2⟩
  have HM2 := hide hm2
  clear hm2
  go_wp2_with fail
  refine (put_any p (s.take.put s.top) _ W _ (unhide HM2)).mono ?_
  rintro e w3 ⟨rfl, hm3⟩
  have HM3 := hide hm3
  clear hm3
  go_wp2
  go_end0
  exact ⟨rfl, unhide HM3⟩

set_option maxHeartbeats 400000 in
theorem swap_any (p : Nat) (s : MS) (n : Int) (W w : World) (hm : Mach p s W w) :
    Calls Tryz.prog 315 #[.pointer (some ⟨p, 0, none⟩), .int .i64 n] w fun e w' => e = .returned (.tuple #[]) ∧ Mach p (s.step 3 n) W w' := by
  have HM := hide hm
  clear hm
  go_enter Tryz.func315, Tryz.ntmps315
  go_wp2_with fail
  refine (take_any p s W _ (unhide HM)).mono ?_
  rintro e w1 ⟨rfl, hm1⟩
  have HM1 := hide hm1
  clear hm1
  go_wp2_with fail
  refine (take_any p s.take W _ (unhide HM1)).mono ?_
  rintro e w2 ⟨rfl, hm2⟩
  have HM2 := hide hm2
  clear hm2
  go_wp2_with fail
  refine (put_any p s.take.take _ W _ (unhide HM2)).mono ?_
  rintro e w3 ⟨rfl, hm3⟩
  have HM3 := hide hm3
  clear hm3
  go_wp2_with fail
  refine (put_any p (s.take.take.put s.top) _ W _ (unhide HM3)).mono ?_
  rintro e w4 ⟨rfl, hm4⟩
  have HM4 := hide hm4
  clear hm4
  go_wp2
  go_end0
  exact ⟨rfl, unhide HM4⟩

set_option maxHeartbeats 400000 in
theorem verify_any (p : Nat) (s : MS) (n : Int) (W w : World) (hm : Mach p s W w) :
    Calls Tryz.prog 326 #[.pointer (some ⟨p, 0, none⟩), .int .i64 n] w fun e w' => e = .returned (.tuple #[]) ∧ Mach p (s.step 11 n) W w' := by
  have HM := hide hm
  clear hm
  by_cases h : s.top = 0
  · have e0 : s.step 11 n = s.take.fail := by simp [MS.step, h]
    have h1 : (s.top == 0) = true := by simp [h]
    rw [e0]
    clear h e0
    go_enter Tryz.func326, Tryz.ntmps326
    go_wp2_with fail
    refine (take_any p s W _ (unhide HM)).mono ?_
    rintro e w1 ⟨rfl, hm1⟩
    have HM1 := hide hm1
    clear hm1
    go_wp2_with fail
    refine (fail_any p s.take W _ (unhide HM1)).mono ?_
    rintro e w2 ⟨rfl, hm2⟩
    have HM2 := hide hm2
    clear hm2
    go_wp2
    go_end0
    exact ⟨rfl, unhide HM2⟩
  · have e0 : s.step 11 n = s.take := by simp [MS.step, h]
    have h1 : (s.top == 0) = false := by simp [h]
    rw [e0]
    clear h e0
    go_enter Tryz.func326, Tryz.ntmps326
    go_wp2_with fail
    refine (take_any p s W _ (unhide HM)).mono ?_
    rintro e w1 ⟨rfl, hm1⟩
    have HM1 := hide hm1
    clear hm1
    go_wp2
    go_end0
    exact ⟨rfl, unhide HM1⟩

end Go.Proofs.YtmomfkikogbdeaaGreatDoor
