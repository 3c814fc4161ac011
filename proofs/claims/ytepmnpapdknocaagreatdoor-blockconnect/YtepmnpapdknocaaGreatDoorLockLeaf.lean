/- Contracts of the machine's smallest functions: bounds, put, take, fail. -/
import Derived.Test.YtepmnpapdknocaaGreatDoorLockMach
import Derived.Test.YtepmnpapdknocaaGreatDoorLockIn
namespace Go.Proofs.YtepmnpapdknocaaGreatDoor
open Go.RowKit

set_option maxHeartbeats 400000 in
theorem isHeight_is (n : Int) (b : Bool) (w : World) (hb : b = hOk n) :
    Calls Tryz.prog 142 #[.int .i64 n] w fun e w' => e = .returned (.bool b) ∧ w = w' := by
  have HB := hide hb
  clear hb
  go_enter Tryz.func142, Tryz.ntmps142
  go_wp2_with (go_at_call 62; refine (within_is _ _ _ b _ (unhide HB)).mono ?_; rintro e w' ⟨rfl, rfl⟩)
  go_ret
  exact ⟨rfl, rfl⟩

set_option maxHeartbeats 400000 in
theorem fail_any (p : Nat) (s : MS) (W w : World) (hm : Mach p s W w) :
    Calls Tryz.prog 242 #[.pointer (some ⟨p, 0, none⟩)] w fun e w' => e = .returned (.tuple #[]) ∧ Mach p s.fail W w' := by
  have c1 := hm.cell_f
  have c2 := hm.free 18
  have HM := hide hm
  clear hm
  go_enter Tryz.func242, Tryz.ntmps242
  go_wp2
  go_end0
  exact ⟨rfl, (unhide HM).store 18 _ (MS.set_f (unhide HM).good true) (unhide HM).good.fail_ok⟩

theorem put_full {s : MS} {x : Int} (h : s.n = 16 ∨ fit x = false) : s.put x = s.fail := by unfold MS.put; rw [if_pos h]; rfl
theorem put_room {s : MS} {x : Int} (h1 : s.n ≠ 16) (h2 : fit x = true) : s.put x = { s with cs := s.cs.set s.n x, n := s.n + 1 } := by unfold MS.put; rw [if_neg (by simp [h1, h2])]

set_option maxHeartbeats 800000 in
theorem put_any (p : Nat) (s : MS) (x : Int) (W w : World) (hm : Mach p s W w) :
    Calls Tryz.prog 223 #[.pointer (some ⟨p, 0, none⟩), .int .i64 x] w fun e w' => e = .returned (.tuple #[]) ∧ Mach p (s.put x) W w' := by
  have hn := hm.good.2.1
  have c1 := hm.cell_n
  have HM := hide hm
  by_cases h1 : s.n = 16
  · rw [put_full (Or.inl h1)]
    rw [h1] at c1
    clear hm hn
    go_enter Tryz.func223, Tryz.ntmps223
    go_wp2_with (go_at_call 242; refine (fail_any p s W _ (unhide HM)).mono ?_; rintro e w' ⟨rfl, hm'⟩)
    first | go_end0 | (simp only [Exit.inBlock, Exit.then]; refine bodyPost_ret (results_none rfl _ _ _) rfl ?_) | refine bodyPost_ret (results_none rfl _ _ _) rfl ?_
    exact ⟨rfl, by assumption⟩
  · have g1 : ((s.n : Int) == 16) = false := by simp; omega
    by_cases h2 : fit x = true
    · rw [put_room h1 h2]
      have c2 := hm.cell_s s.n (by omega)
      have c3 := hm.free s.n
      have c4 := hm.free 16
      have c5 : ((w.setCell ⟨p, s.n, none⟩ (.int .i64 x))).cell? ⟨p, 16, none⟩ = some (.int .i64 s.n) := by
        rw [World.cell?_setCell_other]
        · exact c1
        · exact fun e => h1 (congrArg Addr.off e)
      have g2 : (s.n : Int) < 16 := by omega
      have H1 := hide h1
      have H2 := hide h2
      clear hm h1 h2
      go_enter Tryz.func223, Tryz.ntmps223
      go_wp2_with (go_at_call 222; refine (fits_is _ true _ (unhide H2).symm).mono ?_; rintro e w' ⟨rfl, rfl⟩)
      go_region
      all_goals go_wp2
      all_goals go_end0
      all_goals
        refine ⟨rfl, Mach.drew ?_⟩
        have hm := unhide HM
        have g := hm.good.put_ok x
        rw [put_room (unhide H1) (unhide H2)] at g
        have ok1 : MS.ok { s with cs := s.cs.set s.n x } := ⟨g.1, hm.good.2.1, g.2.2⟩
        exact (hm.store s.n _ (MS.set_stack hm.good s.n (by omega) x) ok1).store 16 _ (MS.set_n ok1 (s.n + 1)) g
    · have h3 : fit x = false := by simpa using h2
      rw [put_full (Or.inr h3)]
      have H3 := hide h3
      clear hm h2 h3 h1
      go_enter Tryz.func223, Tryz.ntmps223
      go_wp2_with (first | (go_at_call 222; refine (fits_is _ false _ (unhide H3).symm).mono ?_; rintro e w' ⟨rfl, rfl⟩) | (go_at_call 242; refine (fail_any p s W _ (unhide HM)).mono ?_; rintro e w' ⟨rfl, hm'⟩))
      first | go_end0 | (simp only [Exit.inBlock, Exit.then]; refine bodyPost_ret (results_none rfl _ _ _) rfl ?_) | refine bodyPost_ret (results_none rfl _ _ _) rfl ?_
      exact ⟨rfl, by assumption⟩

theorem take_none {s : MS} (h : s.n = 0) : s.take = s.fail := by unfold MS.take; rw [if_pos h]; rfl
theorem take_some {s : MS} (h : s.n ≠ 0) : s.take = { s with n := s.n - 1 } := by unfold MS.take; rw [if_neg h]
theorem top_none {s : MS} (h : s.n = 0) : s.top = 0 := by unfold MS.top; rw [if_pos h]
theorem top_some {s : MS} (h : s.n ≠ 0) : s.top = s.cs.getD (s.n - 1) 0 := by unfold MS.top; rw [if_neg h]

set_option maxHeartbeats 800000 in
theorem take_any (p : Nat) (s : MS) (W w : World) (hm : Mach p s W w) :
    Calls Tryz.prog 264 #[.pointer (some ⟨p, 0, none⟩)] w fun e w' => e = .returned (.int .i64 s.top) ∧ Mach p s.take W w' := by
  have hn := hm.good.2.1
  have c1 := hm.cell_n
  have HM := hide hm
  by_cases h1 : s.n = 0
  · rw [take_none h1, top_none h1]
    rw [h1] at c1
    clear hm hn
    go_enter Tryz.func264, Tryz.ntmps264
    go_wp2_with (go_at_call 242; refine (fail_any p s W _ (unhide HM)).mono ?_; rintro e w' ⟨rfl, hm'⟩)
    go_ret
    exact ⟨rfl, by assumption⟩
  · obtain ⟨m, hm1⟩ : ∃ m, s.n = m + 1 := ⟨s.n - 1, by omega⟩
    have e1 : s.take = { s with n := m } := by rw [take_some h1, hm1]; rfl
    have e2 : s.top = s.cs.getD m 0 := by rw [top_some h1, hm1]; rfl
    rw [e1, e2]
    have g1 : (((m : Int) + 1) == 0) = false := by simp; omega
    rw [hm1] at c1
    have c2 : (w.setCell ⟨p, 16, none⟩ (.int .i64 m)).cell? ⟨p, m, none⟩ = some (.int .i64 (s.cs.getD m 0)) := by
      rw [World.cell?_setCell_other]
      · exact hm.cell_s m (by omega)
      · exact fun e => absurd (congrArg Addr.off e) (by show ¬ (16 = m); omega)
    have c3 : (w.setCell ⟨p, 16, none⟩ (.int .i64 m)).cell? ⟨p, 16, none⟩ = some (.int .i64 m) := World.cell?_setCell_same _ _ _ hm.cell_n
    have c4 := hm.free 16
    have g2 : (m : Int) < 16 := by omega
    have H1 := hide hm1
    obtain ⟨t, ht⟩ : ∃ t, t = s.cs.getD m 0 := ⟨_, rfl⟩
    rw [← ht] at c2 ⊢
    clear hm h1 hm1 hn e1 e2 ht
    go_enter Tryz.func264, Tryz.ntmps264
    go_wp2
    go_quiet (fail)
    go_wp2
    go_ret
    refine ⟨rfl, Mach.drewN ?_ _⟩
    have hm := unhide HM
    have h1 := unhide H1
    exact hm.store 16 _ (MS.set_n hm.good m) ⟨hm.good.1, by show m ≤ 16; omega, hm.good.2.2⟩

end Go.Proofs.YtepmnpapdknocaaGreatDoor
