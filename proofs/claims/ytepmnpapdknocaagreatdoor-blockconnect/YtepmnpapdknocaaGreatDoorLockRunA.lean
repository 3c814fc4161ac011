/- Contracts of putAll: a stack is put on the machine. -/
import Derived.Test.YtepmnpapdknocaaGreatDoorLockLeaf
import Derived.Test.YtepmnpapdknocaaGreatDoorLockRow
namespace Go.Proofs.YtepmnpapdknocaaGreatDoor
open Go.RowKit

set_option maxHeartbeats 400000 in
theorem putAll_none (p : Nat) (s : MS) (a : Option Addr) (cap : Nat) (W w : World) (hm : Mach p s W w) :
    Calls Tryz.prog 177 #[.pointer (some ⟨p, 0, none⟩), .slice a 0 cap] w fun e w' => e = .returned (.tuple #[]) ∧ Mach p s W w' := by
  have HM := hide hm
  clear hm
  go_enter Tryz.func177, Tryz.ntmps177
  go_wp2
  refine wp_loop_rounds 1 ?_
  rw [rounds_succ]
  go_wp2
  go_end0
  exact ⟨rfl, unhide HM⟩

set_option maxHeartbeats 800000 in
theorem putAll_some (p : Nat) (s : MS) (b off len cap : Nat) (Z : List Int) (W w : World) (hm : Mach p s W w) (hp : W.heap.size ≤ p) (hz : Z.length = len) (hl : len ≤ maxLen)
    (hb : b < W.heap.size) (hc : ∀ i, i < len → W.cell? ⟨b, off + i, none⟩ = some (.int .i64 (Z.getD i 0))) :
    Calls Tryz.prog 177 #[.pointer (some ⟨p, 0, none⟩), .slice (some ⟨b, off, none⟩) len cap] w fun e w' => e = .returned (.tuple #[]) ∧ ∃ s', Mach p s' W w' ∧ s'.h = s.h ∧ s'.rep = s.rep.bind (fun L => putsL L Z) := by
  have HM := hide hm
  have HC := hide hc
  have HZ := hide hz
  unfold maxLen at hl
  clear hm hc hz
  go_enter Tryz.func177, Tryz.ntmps177
  go_wp2
  go_loopw [8] (fun i wr => ∃ (k : Nat) (s' : MS), k ≤ len ∧ i = .int .i64 k ∧ Mach p s' W wr ∧ s'.h = s.h ∧ s'.rep = s.rep.bind (fun L => putsL L (Z.take k))) (fun i _ => len - (intOf i).toNat)
  case atStart => exact ⟨0, s, Nat.zero_le _, rfl, unhide HM, rfl, by cases s.rep <;> rfl⟩
  case round =>
    obtain ⟨k, s', hk, rfl, hm, hh, hr⟩ := hrel
    have HM' := hide hm
    have HH := hide hh
    have HR := hide hr
    clear hh hr
    by_cases hlt : k < len
    · have c1 : wr.cell? ⟨b, off + k, none⟩ = some (.int .i64 (Z.getD k 0)) := (hm.past ⟨b, off + k, none⟩ (by show b ≠ p; omega) hb).trans ((unhide HC) k hlt)
      obtain ⟨x, hx⟩ : ∃ x, x = Z.getD k 0 := ⟨_, rfl⟩
      rw [← hx] at c1
      have HX := hide hx
      clear hm hx
      go_wp2_with fail
      refine (put_any p s' x W _ (unhide HM')).mono ?_
      rintro e w1 ⟨rfl, hm1⟩
      have HM1 := hide hm1
      clear hm1
      go_wp2
      go_roundw
      case rel =>
        refine ⟨k + 1, s'.put x, by omega, by go_num, unhide HM1, (MS.put_h _ _).trans (unhide HH), ?_⟩
        have hkl : k < Z.length := by rw [unhide HZ]; exact hlt
        have ex : x = Z[k] := by rw [unhide HX]; simp [hkl]
        rw [MS.rep_put (unhide HM').good, unhide HR, List.take_succ_eq_append_getElem hkl, ex]
        cases s.rep with
        | none => rfl
        | some L => exact (putsL_snoc _ _ _).symm
      case measure => simp [intOf]; omega
    · clear hm
      go_wp2
      go_end0
      have e : k = len := by omega
      subst e
      refine ⟨rfl, s', unhide HM', unhide HH, ?_⟩
      rw [unhide HR, ← unhide HZ, List.take_length]

/-- What a machine holds behind putAll: the stack, if it may be one. -/
theorem putAll_any (p : Nat) (s : MS) (a : Option Addr) (len cap : Nat) (Z : List Int) (W w : World) (hm : Mach p s W w) (hp : W.heap.size ≤ p) (hR : RowAt W a len Z) :
    Calls Tryz.prog 177 #[.pointer (some ⟨p, 0, none⟩), .slice a len cap] w fun e w' => e = .returned (.tuple #[]) ∧ ∃ s', Mach p s' W w' ∧ s'.h = s.h ∧ s'.rep = s.rep.bind (fun L => putsL L Z) := by
  obtain ⟨hz, hl, hc⟩ := hR
  by_cases h : len = 0
  · subst h
    have e : Z = [] := List.length_eq_zero_iff.1 hz
    subst e
    exact (putAll_none p s a cap W w hm).mono fun e w' ⟨x, y⟩ => ⟨x, s, y, rfl, by cases s.rep <;> rfl⟩
  · obtain ⟨b, off, rfl, hcell⟩ := hc (by omega)
    exact putAll_some p s b off len cap Z W w hm hp hz hl (World.block_lt_of_cell? _ _ (hcell 0 (by omega))) hcell

end Go.Proofs.YtepmnpapdknocaaGreatDoor
