/- The machine of package lock in memory: what its nineteen cells hold, and what a store into one of them turns. -/
import Derived.Test.YtmomfkikogbdeaaGreatDoorLockMathToLockRow
namespace Go.Proofs.YtmomfkikogbdeaaGreatDoor
open Go.RowKit

def MS.cells (s : MS) : Array Value := (s.cs.map (Value.int .i64) ++ ([Value.int .i64 s.n, Value.int .i64 s.h, Value.bool s.f] : List Value)).toArray

theorem MS.cells_stack {s : MS} (hs : s.ok) (i : Nat) (hi : i < 16) : s.cells[i]? = some (.int .i64 (s.cs.getD i 0)) := by
  have hl : i < s.cs.length := by rw [hs.1]; exact hi
  simp [MS.cells, List.getElem?_append_left, hl]
theorem MS.cells_n {s : MS} (hs : s.ok) : s.cells[16]? = some (.int .i64 s.n) := by
  have hl := hs.1
  simp [MS.cells, hl]
theorem MS.cells_h {s : MS} (hs : s.ok) : s.cells[17]? = some (.int .i64 s.h) := by
  have hl := hs.1
  simp [MS.cells, hl]
theorem MS.cells_f {s : MS} (hs : s.ok) : s.cells[18]? = some (.bool s.f) := by
  have hl := hs.1
  simp [MS.cells, hl]

theorem MS.set_stack {s : MS} (hs : s.ok) (i : Nat) (hi : i < 16) (x : Int) : s.cells.setIfInBounds i (.int .i64 x) = MS.cells { s with cs := s.cs.set i x } := by
  have hl : i < (s.cs.map (Value.int .i64)).length := by rw [List.length_map, hs.1]; exact hi
  simp only [MS.cells, List.setIfInBounds_toArray, List.set_append_left _ _ hl, List.map_set]
theorem MS.set_n {s : MS} (hs : s.ok) (n : Nat) : s.cells.setIfInBounds 16 (.int .i64 n) = MS.cells { s with n := n } := by
  have hl : (s.cs.map (Value.int .i64)).length = 16 := by rw [List.length_map, hs.1]
  simp only [MS.cells, List.setIfInBounds_toArray]
  rw [List.set_append_right _ _ (by omega), hl]; rfl
theorem MS.set_f {s : MS} (hs : s.ok) (b : Bool) : s.cells.setIfInBounds 18 (.bool b) = MS.cells { s with f := b } := by
  have hl : (s.cs.map (Value.int .i64)).length = 16 := by rw [List.length_map, hs.1]
  simp only [MS.cells, List.setIfInBounds_toArray]
  rw [List.set_append_right _ _ (by omega), hl]; rfl

/-- Block p is the machine s; all other blocks of W are as they are in W. -/
structure Mach (p : Nat) (s : MS) (W w : World) : Prop where
  good : s.ok
  block : w.heap[p]? = some (.cells s.cells 360 (0, 0))
  old : ∀ k, k ≠ p → k < W.heap.size → w.heap[k]? = W.heap[k]?
  size : W.heap.size ≤ w.heap.size
  os : w.os = W.os
  tape : w.tape = W.tape
  output : w.output = W.output

theorem Mach.lt {p : Nat} {s : MS} {W w : World} (h : Mach p s W w) : p < w.heap.size := lt_of_block h.block
theorem Mach.cell {p : Nat} {s : MS} {W w : World} (h : Mach p s W w) (i : Nat) : w.cell? ⟨p, i, none⟩ = s.cells[i]? := by simp [World.cell?, h.block]
theorem Mach.cell_n {p : Nat} {s : MS} {W w : World} (h : Mach p s W w) : w.cell? ⟨p, 16, none⟩ = some (.int .i64 s.n) := by rw [h.cell, MS.cells_n h.good]
theorem Mach.cell_h {p : Nat} {s : MS} {W w : World} (h : Mach p s W w) : w.cell? ⟨p, 17, none⟩ = some (.int .i64 s.h) := by rw [h.cell, MS.cells_h h.good]
theorem Mach.cell_f {p : Nat} {s : MS} {W w : World} (h : Mach p s W w) : w.cell? ⟨p, 18, none⟩ = some (.bool s.f) := by rw [h.cell, MS.cells_f h.good]
theorem Mach.cell_s {p : Nat} {s : MS} {W w : World} (h : Mach p s W w) (i : Nat) (hi : i < 16) : w.cell? ⟨p, i, none⟩ = some (.int .i64 (s.cs.getD i 0)) := by rw [h.cell, MS.cells_stack h.good i hi]
theorem Mach.free {p : Nat} {s : MS} {W w : World} (h : Mach p s W w) (i : Nat) : w.frozen? ⟨p, i, none⟩ = false := by simp [World.frozen?, h.block]

theorem Mach.store {p : Nat} {s s' : MS} {W w : World} (h : Mach p s W w) (i : Nat) (v : Value) (e : s.cells.setIfInBounds i v = s'.cells) (g : s'.ok) : Mach p s' W (w.setCell ⟨p, i, none⟩ v) where
  good := g
  block := by
    rw [heap_setCell_same w p i s.cells 360 v h.block, e]
  old := fun k hk hl => by rw [heap_setCell_other w ⟨p, i, none⟩ k v hk]; exact h.old k hk hl
  size := by rw [World.size_setCell]; exact h.size
  os := h.os
  tape := h.tape
  output := h.output

theorem Mach.drew {p : Nat} {s : MS} {W w : World} (h : Mach p s W w) : Mach p s W w.drew := ⟨h.good, h.block, h.old, h.size, h.os, h.tape, h.output⟩
theorem Mach.drewN {p : Nat} {s : MS} {W w : World} (h : Mach p s W w) (n : Nat) : Mach p s W (w.drewN n) := ⟨h.good, h.block, h.old, h.size, h.os, h.tape, h.output⟩
theorem Mach.alloc {p : Nat} {s : MS} {W w : World} (h : Mach p s W w) (o : Obj) : Mach p s W (w.alloc o) where
  good := h.good
  block := by rw [Below.heap_alloc w o p h.lt]; exact h.block
  old := fun k hk hl => by rw [Below.heap_alloc w o k (Nat.lt_of_lt_of_le hl h.size)]; exact h.old k hk hl
  size := by have := h.size; simp; omega
  os := h.os
  tape := h.tape
  output := h.output

/-- A cell of another block reads as it did. -/
theorem Mach.past {p : Nat} {s : MS} {W w : World} (h : Mach p s W w) (q : Addr) (hq : q.block ≠ p) (hl : q.block < W.heap.size) : w.cell? q = W.cell? q := World.cell?_of_block (w := W) (h.old q.block hq hl)

theorem Mach.below {p : Nat} {s : MS} {W w : World} (h : Mach p s W w) (hp : W.heap.size ≤ p) : Below W.heap.size W w :=
  ⟨h.os, h.tape, h.output, h.size, fun k hk => h.old k (by omega) hk⟩

/-- Over a later world, told over the first. -/
theorem Mach.trans {p : Nat} {s s' : MS} {W V w : World} (h : Mach p s W V) (k : Mach p s' V w) : Mach p s' W w where
  good := k.good
  block := k.block
  old := fun j hj hl => by rw [k.old j hj (Nat.lt_of_lt_of_le hl h.size)]; exact h.old j hj hl
  size := Nat.le_trans h.size k.size
  os := k.os.trans h.os
  tape := k.tape.trans h.tape
  output := k.output.trans h.output

/-- A machine in a world, told over that world. -/
theorem Mach.self {p : Nat} {s : MS} {W w : World} (h : Mach p s W w) : Mach p s w w := ⟨h.good, h.block, fun _ _ _ => rfl, Nat.le_refl _, rfl, rfl, rfl⟩

end Go.Proofs.YtmomfkikogbdeaaGreatDoor

/- Contracts of the machine's smallest functions: bounds, put, take, fail. -/
namespace Go.Proofs.YtmomfkikogbdeaaGreatDoor
open Go.RowKit

set_option maxHeartbeats 400000 in
theorem isHeight_is (n : Int) (b : Bool) (w : World) (hb : b = hOk n) :
    Calls Tryz.prog 252 #[.int .i64 n] w fun e w' => e = .returned (.bool b) ∧ w = w' := by
  have HB := hide hb
  clear hb
  go_enter Tryz.func252, Tryz.ntmps252
  go_wp2_with (go_at_call 103; refine (within_is _ _ _ b _ (unhide HB)).mono ?_; rintro e w' ⟨rfl, rfl⟩)
  go_ret
  exact ⟨rfl, rfl⟩

set_option maxHeartbeats 400000 in
theorem fail_any (p : Nat) (s : MS) (W w : World) (hm : Mach p s W w) :
    Calls Tryz.prog 313 #[.pointer (some ⟨p, 0, none⟩)] w fun e w' => e = .returned (.tuple #[]) ∧ Mach p s.fail W w' := by
  have c1 := hm.cell_f
  have c2 := hm.free 18
  have HM := hide hm
  clear hm
  go_enter Tryz.func313, Tryz.ntmps313
  go_wp2
  go_end0
  exact ⟨rfl, (unhide HM).store 18 _ (MS.set_f (unhide HM).good true) (unhide HM).good.fail_ok⟩

theorem put_full {s : MS} {x : Int} (h : s.n = 16 ∨ fit x = false) : s.put x = s.fail := by unfold MS.put; rw [if_pos h]; rfl
theorem put_room {s : MS} {x : Int} (h1 : s.n ≠ 16) (h2 : fit x = true) : s.put x = { s with cs := s.cs.set s.n x, n := s.n + 1 } := by unfold MS.put; rw [if_neg (by simp [h1, h2])]

set_option maxHeartbeats 800000 in
theorem put_any (p : Nat) (s : MS) (x : Int) (W w : World) (hm : Mach p s W w) :
    Calls Tryz.prog 303 #[.pointer (some ⟨p, 0, none⟩), .int .i64 x] w fun e w' => e = .returned (.tuple #[]) ∧ Mach p (s.put x) W w' := by
  have hn := hm.good.2.1
  have c1 := hm.cell_n
  have HM := hide hm
  by_cases h1 : s.n = 16
  · rw [put_full (Or.inl h1)]
    rw [h1] at c1
    clear hm hn
    go_enter Tryz.func303, Tryz.ntmps303
    go_wp2_with (go_at_call 313; refine (fail_any p s W _ (unhide HM)).mono ?_; rintro e w' ⟨rfl, hm'⟩)
    first | go_end0 | (simp only [Exit.inBlock, Exit.then]; refine bodyPost_ret (results_none rfl _ _ _) rfl ?_) | refine bodyPost_ret (results_none rfl _ _ _) rfl ?_
    exact ⟨rfl, by assumption⟩
  · have g1 : ((s.n : Int) == 16) = false := by simp; omega
    by_cases h2 : fit x = true
    · rw [put_room h1 h2]
      have c2 := hm.cell_s s.n (by omega)
      have c3 := hm.free s.n
      have c4 := hm.free 16
      have c5 : ((w.setCell ⟨p, s.n, none⟩ (.int .i64 x))).cell? ⟨p, 16, none⟩ = some (.int .i64 s.n) := by
        rw [World.cell?_setCell_other]
        · exact c1
        · exact fun e => h1 (congrArg Addr.off e)
      have g2 : (s.n : Int) < 16 := by omega
      have H1 := hide h1
      have H2 := hide h2
      clear hm h1 h2
      go_enter Tryz.func303, Tryz.ntmps303
      go_wp2_with (go_at_call 302; refine (fits_is _ true _ (unhide H2).symm).mono ?_; rintro e w' ⟨rfl, rfl⟩)
      go_region
      all_goals go_wp2
      all_goals go_end0
      all_goals
        refine ⟨rfl, Mach.drew ?_⟩
        have hm := unhide HM
        have g := hm.good.put_ok x
        rw [put_room (unhide H1) (unhide H2)] at g
        have ok1 : MS.ok { s with cs := s.cs.set s.n x } := ⟨g.1, hm.good.2.1, g.2.2⟩
        exact (hm.store s.n _ (MS.set_stack hm.good s.n (by omega) x) ok1).store 16 _ (MS.set_n ok1 (s.n + 1)) g
    · have h3 : fit x = false := by simpa using h2
      rw [put_full (Or.inr h3)]
      have H3 := hide h3
      clear hm h2 h3 h1
      go_enter Tryz.func303, Tryz.ntmps303
      go_wp2_with (first | (go_at_call 302; refine (fits_is _ false _ (unhide H3).symm).mono ?_; rintro e w' ⟨rfl, rfl⟩) | (go_at_call 313; refine (fail_any p s W _ (unhide HM)).mono ?_; rintro e w' ⟨rfl, hm'⟩))
      first | go_end0 | (simp only [Exit.inBlock, Exit.then]; refine bodyPost_ret (results_none rfl _ _ _) rfl ?_) | refine bodyPost_ret (results_none rfl _ _ _) rfl ?_
      exact ⟨rfl, by assumption⟩

theorem take_none {s : MS} (h : s.n = 0) : s.take = s.fail := by unfold MS.take; rw [if_pos h]; rfl
theorem take_some {s : MS} (h : s.n ≠ 0) : s.take = { s with n := s.n - 1 } := by unfold MS.take; rw [if_neg h]
theorem top_none {s : MS} (h : s.n = 0) : s.top = 0 := by unfold MS.top; rw [if_pos h]
theorem top_some {s : MS} (h : s.n ≠ 0) : s.top = s.cs.getD (s.n - 1) 0 := by unfold MS.top; rw [if_neg h]

set_option maxHeartbeats 800000 in
theorem take_any (p : Nat) (s : MS) (W w : World) (hm : Mach p s W w) :
    Calls Tryz.prog 333 #[.pointer (some ⟨p, 0, none⟩)] w fun e w' => e = .returned (.int .i64 s.top) ∧ Mach p s.take W w' := by
  have hn := hm.good.2.1
  have c1 := hm.cell_n
  have HM := hide hm
  by_cases h1 : s.n = 0
  · rw [take_none h1, top_none h1]
    rw [h1] at c1
    clear hm hn
    go_enter Tryz.func333, Tryz.ntmps333
    go_wp2_with (go_at_call 313; refine (fail_any p s W _ (unhide HM)).mono ?_; rintro e w' ⟨rfl, hm'⟩)
    go_ret
    exact ⟨rfl, by assumption⟩
  · obtain ⟨m, hm1⟩ : ∃ m, s.n = m + 1 := ⟨s.n - 1, by omega⟩
    have e1 : s.take = { s with n := m } := by rw [take_some h1, hm1]; rfl
    have e2 : s.top = s.cs.getD m 0 := by rw [top_some h1, hm1]; rfl
    rw [e1, e2]
    have g1 : (((m : Int) + 1) == 0) = false := by simp; omega
    rw [hm1] at c1
    have c2 : (w.setCell ⟨p, 16, none⟩ (.int .i64 m)).cell? ⟨p, m, none⟩ = some (.int .i64 (s.cs.getD m 0)) := by
      rw [World.cell?_setCell_other]
      · exact hm.cell_s m (by omega)
      · exact fun e => absurd (congrArg Addr.off e) (by show ¬ (16 = m); omega)
    have c3 : (w.setCell ⟨p, 16, none⟩ (.int .i64 m)).cell? ⟨p, 16, none⟩ = some (.int .i64 m) := World.cell?_setCell_same _ _ _ hm.cell_n
    have c4 := hm.free 16
    have g2 : (m : Int) < 16 := by omega
    have H1 := hide hm1
    obtain ⟨t, ht⟩ : ∃ t, t = s.cs.getD m 0 := ⟨_, rfl⟩
    rw [← ht] at c2 ⊢
    clear hm h1 hm1 hn e1 e2 ht
    go_enter Tryz.func333, Tryz.ntmps333
    go_wp2
    go_quiet (fail)
    go_wp2
    go_ret
    refine ⟨rfl, Mach.drewN ?_ _⟩
    have hm := unhide HM
    have h1 := unhide H1
    exact hm.store 16 _ (MS.set_n hm.good m) ⟨hm.good.1, by show m ≤ 16; omega, hm.good.2.2⟩

end Go.Proofs.YtmomfkikogbdeaaGreatDoor

/- Contracts of putAll: a stack is put on the machine. -/
namespace Go.Proofs.YtmomfkikogbdeaaGreatDoor
open Go.RowKit

set_option maxHeartbeats 400000 in
theorem putAll_none (p : Nat) (s : MS) (a : Option Addr) (cap : Nat) (W w : World) (hm : Mach p s W w) :
    Calls Tryz.prog 280 #[.pointer (some ⟨p, 0, none⟩), .slice a 0 cap] w fun e w' => e = .returned (.tuple #[]) ∧ Mach p s W w' := by
  have HM := hide hm
  clear hm
  go_enter Tryz.func280, Tryz.ntmps280
  go_wp2
  refine wp_loop_rounds 1 ?_
  rw [rounds_succ]
  go_wp2
  go_end0
  exact ⟨rfl, unhide HM⟩

set_option maxHeartbeats 800000 in
theorem putAll_some (p : Nat) (s : MS) (b off len cap : Nat) (Z : List Int) (W w : World) (hm : Mach p s W w) (hp : W.heap.size ≤ p) (hz : Z.length = len) (hl : len ≤ maxLen)
    (hb : b < W.heap.size) (hc : ∀ i, i < len → W.cell? ⟨b, off + i, none⟩ = some (.int .i64 (Z.getD i 0))) :
    Calls Tryz.prog 280 #[.pointer (some ⟨p, 0, none⟩), .slice (some ⟨b, off, none⟩) len cap] w fun e w' => e = .returned (.tuple #[]) ∧ ∃ s', Mach p s' W w' ∧ s'.h = s.h ∧ s'.rep = s.rep.bind (fun L => putsL L Z) := by
  have HM := hide hm
  have HC := hide hc
  have HZ := hide hz
  unfold maxLen at hl
  clear hm hc hz
  go_enter Tryz.func280, Tryz.ntmps280
  go_wp2
  go_loopw [8] (fun i wr => ∃ (k : Nat) (s' : MS), k ≤ len ∧ i = .int .i64 k ∧ Mach p s' W wr ∧ s'.h = s.h ∧ s'.rep = s.rep.bind (fun L => putsL L (Z.take k))) (fun i _ => len - (intOf i).toNat)
  case atStart => exact ⟨0, s, Nat.zero_le _, rfl, unhide HM, rfl, by cases s.rep <;> rfl⟩
  case round =>
    obtain ⟨k, s', hk, rfl, hm, hh, hr⟩ := hrel
    have HM' := hide hm
    have HH := hide hh
    have HR := hide hr
    clear hh hr
    by_cases hlt : k < len
    · have c1 : wr.cell? ⟨b, off + k, none⟩ = some (.int .i64 (Z.getD k 0)) := (hm.past ⟨b, off + k, none⟩ (by show b ≠ p; omega) hb).trans ((unhide HC) k hlt)
      obtain ⟨x, hx⟩ : ∃ x, x = Z.getD k 0 := ⟨_, rfl⟩
      rw [← hx] at c1
      have HX := hide hx
      clear hm hx
      go_wp2_with fail
      refine (put_any p s' x W _ (unhide HM')).mono ?_
      rintro e w1 ⟨rfl, hm1⟩
      have HM1 := hide hm1
      clear hm1
      go_wp2
      go_roundw
      case rel =>
        refine ⟨k + 1, s'.put x, by omega, by go_num, unhide HM1, (MS.put_h _ _).trans (unhide HH), ?_⟩
        have hkl : k < Z.length := by rw [unhide HZ]; exact hlt
        have ex : x = Z[k] := by rw [unhide HX]; simp [hkl]
        rw [MS.rep_put (unhide HM').good, unhide HR, List.take_succ_eq_append_getElem hkl, ex]
        cases s.rep with
        | none => rfl
        | some L => exact (putsL_snoc _ _ _).symm
      case measure => simp [intOf]; omega
    · clear hm
      go_wp2
      go_end0
      have e : k = len := by omega
      subst e
      refine ⟨rfl, s', unhide HM', unhide HH, ?_⟩
      rw [unhide HR, ← unhide HZ, List.take_length]

/-- What a machine holds behind putAll: the stack, if it may be one. -/
theorem putAll_any (p : Nat) (s : MS) (a : Option Addr) (len cap : Nat) (Z : List Int) (W w : World) (hm : Mach p s W w) (hp : W.heap.size ≤ p) (hR : RowAt W a len Z) :
    Calls Tryz.prog 280 #[.pointer (some ⟨p, 0, none⟩), .slice a len cap] w fun e w' => e = .returned (.tuple #[]) ∧ ∃ s', Mach p s' W w' ∧ s'.h = s.h ∧ s'.rep = s.rep.bind (fun L => putsL L Z) := by
  obtain ⟨hz, hl, hc⟩ := hR
  by_cases h : len = 0
  · subst h
    have e : Z = [] := List.length_eq_zero_iff.1 hz
    subst e
    exact (putAll_none p s a cap W w hm).mono fun e w' ⟨x, y⟩ => ⟨x, s, y, rfl, by cases s.rep <;> rfl⟩
  · obtain ⟨b, off, rfl, hcell⟩ := hc (by omega)
    exact putAll_some p s b off len cap Z W w hm hp hz hl (World.block_lt_of_cell? _ _ (hcell 0 (by omega))) hcell

end Go.Proofs.YtmomfkikogbdeaaGreatDoor

/- Contracts of the machine's orders: each does to the machine what its kind says. -/
namespace Go.Proofs.YtmomfkikogbdeaaGreatDoor
open Go.RowKit

set_option maxHeartbeats 400000 in
theorem truth_any (b : Bool) (w : World) :
    Calls Tryz.prog 321 #[.bool b] w fun e w' => e = .returned (.int .i64 (b01 b)) ∧ w = w' := by
  cases b
  all_goals
    go_enter Tryz.func321, Tryz.ntmps321
    go_wp2
    go_ret
    exact ⟨rfl, rfl⟩

set_option maxHeartbeats 400000 in
theorem o1_any (a b : Int) (w : World) (ha : fit a = true) (hb : fit b = true) :
    Calls Tryz.prog 318 #[.int .i64 a, .int .i64 b] w fun e w' => e = .returned (.int .i64 (g2 5 a b)) ∧ w = w' := by
  have h1 := (fit_iff a).1 ha
  have h2 := (fit_iff b).1 hb
  clear ha hb
  go_enter Tryz.func318, Tryz.ntmps318
  go_wp2
  go_ret
  exact ⟨rfl, rfl⟩

set_option maxHeartbeats 400000 in
theorem o2_any (a b : Int) (w : World) (ha : fit a = true) (hb : fit b = true) :
    Calls Tryz.prog 319 #[.int .i64 a, .int .i64 b] w fun e w' => e = .returned (.int .i64 (g2 6 a b)) ∧ w = w' := by
  have h1 := (fit_iff a).1 ha
  have h2 := (fit_iff b).1 hb
  clear ha hb
  go_enter Tryz.func319, Tryz.ntmps319
  go_wp2
  go_ret
  exact ⟨rfl, rfl⟩

set_option maxHeartbeats 400000 in
theorem o3_any (a b : Int) (w : World) :
    Calls Tryz.prog 320 #[.int .i64 a, .int .i64 b] w fun e w' => e = .returned (.int .i64 (g2 7 a b)) ∧ w = w' := by
  go_enter Tryz.func320, Tryz.ntmps320
  go_wp2_with (go_at_call 321; refine (truth_any _ _).mono ?_; rintro e w' ⟨rfl, rfl⟩)
  go_ret
  exact ⟨rfl, rfl⟩

set_option maxHeartbeats 400000 in
theorem o4_any (a b : Int) (w : World) :
    Calls Tryz.prog 322 #[.int .i64 a, .int .i64 b] w fun e w' => e = .returned (.int .i64 (g2 8 a b)) ∧ w = w' := by
  go_enter Tryz.func322, Tryz.ntmps322
  go_wp2_with (go_at_call 321; refine (truth_any _ _).mono ?_; rintro e w' ⟨rfl, rfl⟩)
  go_ret
  exact ⟨rfl, rfl⟩

set_option maxHeartbeats 400000 in
theorem o6_any (a b : Int) (w : World) :
    Calls Tryz.prog 325 #[.int .i64 a, .int .i64 b] w fun e w' => e = .returned (.int .i64 (g2 10 a b)) ∧ w = w' := by
  by_cases h : a = 0
  · have h1 : (a != 0) = false := by simp [h]
    have e : g2 10 a b = b01 false := by simp [g2, h]
    rw [e]
    clear h e
    go_enter Tryz.func325, Tryz.ntmps325
    go_wp2_with (go_at_call 321; refine (truth_any _ _).mono ?_; rintro e w' ⟨rfl, rfl⟩)
    go_ret
    exact ⟨rfl, rfl⟩
  · have h1 : (a != 0) = true := by simp [h]
    have e : g2 10 a b = b01 (b != 0) := by simp [g2, h1]
    rw [e]
    clear h e
    go_enter Tryz.func325, Tryz.ntmps325
    go_wp2_with (go_at_call 321; refine (truth_any _ _).mono ?_; rintro e w' ⟨rfl, rfl⟩)
    go_ret
    exact ⟨rfl, rfl⟩

set_option maxHeartbeats 400000 in
theorem o5_any (a : Int) (w : World) :
    Calls Tryz.prog 324 #[.int .i64 a] w fun e w' => e = .returned (.int .i64 (g1 9 a)) ∧ w = w' := by
  go_enter Tryz.func324, Tryz.ntmps324
  go_wp2_with (go_at_call 321; refine (truth_any _ _).mono ?_; rintro e w' ⟨rfl, rfl⟩)
  go_ret
  exact ⟨rfl, rfl⟩

theorem ret_int {k : IntKind} {a b : Int} (h : a = b) : Ending.returned (.int k a) = .returned (.int k b) := by rw [h]

set_option maxHeartbeats 800000 in
theorem mix_any (a : Int) (w : World) (ha : fit a = true) :
    Calls Tryz.prog 328 #[.int .i64 a] w fun e w' => e = .returned (.int .i64 (g1 13 a)) ∧ w = w' := by
  have hbd := hide (mixN_bd a ha)
  have h1 := (fit_iff a).1 ha
  clear ha
  go_enter Tryz.func328, Tryz.ntmps328
  go_wp2
  go_loop [3, 6] (fun r i => ∃ k : Nat, k ≤ 3 ∧ i = .int .i64 k ∧ r = .int .i64 (mixN a k)) (fun _ i => 3 - (intOf i).toNat)
  case atStart => exact ⟨0, Nat.zero_le _, rfl, rfl⟩
  case round =>
    obtain ⟨k, hk, rfl, rfl⟩ := hrel
    obtain ⟨b1, b2⟩ := (unhide hbd) k
    obtain ⟨m, hm⟩ : ∃ m, m = mixN a k := ⟨_, rfl⟩
    rw [← hm] at b1 b2 ⊢
    have HM := hide hm
    clear hm
    by_cases hlt : k < 3
    · go_wp2
      go_round
      case rel =>
        refine ⟨k + 1, by omega, by go_num, ?_⟩
        have := unhide HM
        simp only [mixN, ← this]
      case measure => simp [intOf]; omega
    · go_wp2
      go_ret
      have e : k = 3 := by omega
      subst e
      refine ⟨ret_int ?_, rfl⟩
      have := unhide HM
      simp only [g1, mixOf, ← this]
      simp

end Go.Proofs.YtmomfkikogbdeaaGreatDoor

/- Contracts of the machine's orders: each does to the machine what its kind says. -/
namespace Go.Proofs.YtmomfkikogbdeaaGreatDoor
open Go.RowKit

set_option maxHeartbeats 400000 in
theorem drop_any (p : Nat) (s : MS) (n : Int) (W w : World) (hm : Mach p s W w) :
    Calls Tryz.prog 316 #[.pointer (some ⟨p, 0, none⟩), .int .i64 n] w fun e w' => e = .returned (.tuple #[]) ∧ Mach p (s.step 4 n) W w' := by
  have HM := hide hm
  clear hm
  go_enter Tryz.func316, Tryz.ntmps316
  go_wp2_with (go_at_call 333; refine (take_any p s W _ (unhide HM)).mono ?_; rintro e w' ⟨rfl, hm'⟩)
  go_end0
  exact ⟨rfl, by assumption⟩

set_option maxHeartbeats 400000 in
theorem putHeight_any (p : Nat) (s : MS) (n : Int) (W w : World) (hm : Mach p s W w) :
    Calls Tryz.prog 327 #[.pointer (some ⟨p, 0, none⟩), .int .i64 n] w fun e w' => e = .returned (.tuple #[]) ∧ Mach p (s.step 12 n) W w' := by
  have c1 := hm.cell_h
  have HM := hide hm
  clear hm
  go_enter Tryz.func327, Tryz.ntmps327
  go_wp2_with (go_at_call 303; refine (put_any p s _ W _ (unhide HM)).mono ?_; rintro e w' ⟨rfl, hm'⟩)
  go_end0
  exact ⟨rfl, by assumption⟩

set_option maxHeartbeats 400000 in
theorem dup_any (p : Nat) (s : MS) (n : Int) (W w : World) (hm : Mach p s W w) :
    Calls Tryz.prog 314 #[.pointer (some ⟨p, 0, none⟩), .int .i64 n] w fun e w' => e = .returned (.tuple #[]) ∧ Mach p (s.step 2 n) W w' := by
  have HM := hide hm
  clear hm
  go_enter Tryz.func314, Tryz.ntmps314
  go_wp2_with fail
  refine (take_any p s W _ (unhide HM)).mono ?_
  rintro e w1 ⟨rfl, hm1⟩
  have HM1 := hide hm1
  clear hm1
  go_wp2_with fail
  refine (put_any p s.take _ W _ (unhide HM1)).mono ?_
  rintro e w2 ⟨rfl, hm2⟩
  have HM2 := hide hm2
  clear hm2
  go_wp2_with fail
  refine (put_any p (s.take.put s.top) _ W _ (unhide HM2)).mono ?_
  rintro e w3 ⟨rfl, hm3⟩
  have HM3 := hide hm3
  clear hm3
  go_wp2
  go_end0
  exact ⟨rfl, unhide HM3⟩

set_option maxHeartbeats 400000 in
theorem swap_any (p : Nat) (s : MS) (n : Int) (W w : World) (hm : Mach p s W w) :
    Calls Tryz.prog 315 #[.pointer (some ⟨p, 0, none⟩), .int .i64 n] w fun e w' => e = .returned (.tuple #[]) ∧ Mach p (s.step 3 n) W w' := by
  have HM := hide hm
  clear hm
  go_enter Tryz.func315, Tryz.ntmps315
  go_wp2_with fail
  refine (take_any p s W _ (unhide HM)).mono ?_
  rintro e w1 ⟨rfl, hm1⟩
  have HM1 := hide hm1
  clear hm1
  go_wp2_with fail
  refine (take_any p s.take W _ (unhide HM1)).mono ?_
  rintro e w2 ⟨rfl, hm2⟩
  have HM2 := hide hm2
  clear hm2
  go_wp2_with fail
  refine (put_any p s.take.take _ W _ (unhide HM2)).mono ?_
  rintro e w3 ⟨rfl, hm3⟩
  have HM3 := hide hm3
  clear hm3
  go_wp2_with fail
  refine (put_any p (s.take.take.put s.top) _ W _ (unhide HM3)).mono ?_
  rintro e w4 ⟨rfl, hm4⟩
  have HM4 := hide hm4
  clear hm4
  go_wp2
  go_end0
  exact ⟨rfl, unhide HM4⟩

set_option maxHeartbeats 400000 in
theorem verify_any (p : Nat) (s : MS) (n : Int) (W w : World) (hm : Mach p s W w) :
    Calls Tryz.prog 326 #[.pointer (some ⟨p, 0, none⟩), .int .i64 n] w fun e w' => e = .returned (.tuple #[]) ∧ Mach p (s.step 11 n) W w' := by
  have HM := hide hm
  clear hm
  by_cases h : s.top = 0
  · have e0 : s.step 11 n = s.take.fail := by simp [MS.step, h]
    have h1 : (s.top == 0) = true := by simp [h]
    rw [e0]
    clear h e0
    go_enter Tryz.func326, Tryz.ntmps326
    go_wp2_with fail
    refine (take_any p s W _ (unhide HM)).mono ?_
    rintro e w1 ⟨rfl, hm1⟩
    have HM1 := hide hm1
    clear hm1
    go_wp2_with fail
    refine (fail_any p s.take W _ (unhide HM1)).mono ?_
    rintro e w2 ⟨rfl, hm2⟩
    have HM2 := hide hm2
    clear hm2
    go_wp2
    go_end0
    exact ⟨rfl, unhide HM2⟩
  · have e0 : s.step 11 n = s.take := by simp [MS.step, h]
    have h1 : (s.top == 0) = false := by simp [h]
    rw [e0]
    clear h e0
    go_enter Tryz.func326, Tryz.ntmps326
    go_wp2_with fail
    refine (take_any p s W _ (unhide HM)).mono ?_
    rintro e w1 ⟨rfl, hm1⟩
    have HM1 := hide hm1
    clear hm1
    go_wp2
    go_end0
    exact ⟨rfl, unhide HM1⟩

end Go.Proofs.YtmomfkikogbdeaaGreatDoor
