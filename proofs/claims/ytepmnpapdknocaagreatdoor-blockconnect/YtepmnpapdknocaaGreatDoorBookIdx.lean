/- The first place of a text: slices.Index at texts. -/
import Derived.Test.YtepmnpapdknocaaGreatDoorBookEq
namespace Go.Proofs.YtepmnpapdknocaaGreatDoor.Bk
open Go.RowKit Go.Maps

theorem place_skip {s : ByteArray} {L : List ByteArray} {k : Nat} (h : k < L.length) (h0 : place s (L.take k) = 0) (e : L[k] ≠ s) : place s (L.take (k + 1)) = 0 := by
  rw [List.take_succ_eq_append_getElem h, place_append, if_pos h0]
  have : place s [L[k]] = 0 := by rw [place_zero]; simp; exact fun h2 => e h2.symm
  rw [this]; rfl
theorem place_hit {s : ByteArray} {L : List ByteArray} {k : Nat} (h : k < L.length) (h0 : place s (L.take k) = 0) (e : L[k] = s) : place s L = k + 1 := by
  have h1 : place s (L.take (k + 1)) = k + 1 := by
    rw [List.take_succ_eq_append_getElem h, place_append, if_pos h0, e]
    simp [place]; omega
  rw [place_take] at h1
  split at h1
  · exact h1
  · omega

/-- The first place of a text, from 0 on; -1: it isn't there. -/
def idx (s : ByteArray) (L : List ByteArray) : Int := (place s L : Int) - 1

set_option maxRecDepth 10000 in
set_option maxHeartbeats 1600000 in
theorem index_is (a : Option Addr) (n c : Nat) (L : List ByteArray) (s : ByteArray) (x : Int) (w : World) (hn : n ≤ maxLen) (h : TextsAt w a n L) (hx : idx s L = x) :
    Calls Tryz.prog 35 #[.slice a n c, .string s] w fun e w' => e = .returned (.int .i64 x) ∧ Below w.heap.size w w' := by
  have HT := hide h
  have HX := hide hx
  unfold maxLen at hn
  clear h hx
  go_enter Tryz.func35, Tryz.ntmps35
  go_wp2
  go_loop [8] (fun i => ∃ j : Nat, j ≤ n ∧ i = .int .i64 j ∧ Hid (place s (L.take j) = 0)) (fun i => n - (intOf i).toNat)
  case atStart => exact ⟨0, Nat.zero_le _, rfl, rfl⟩
  case round =>
    obtain ⟨j, hk, rfl, A⟩ := hrel
    by_cases hlt : j < n
    · obtain ⟨hz, hcs⟩ := unhide HT
      obtain ⟨b, off, rfl, hc⟩ := hcs (by omega)
      have h1 : j < L.length := by omega
      have f := hc j h1
      have PS := hide (place_skip h1 (unhide A))
      have PH := hide (place_hit h1 (unhide A))
      obtain ⟨t, ht⟩ : ∃ t, L[j] = t := ⟨_, rfl⟩
      rw [ht] at f PS PH
      clear ht A hc hcs hz
      by_cases e : t = s
      · subst e
        have R : Hid (x = j) := by show _ = _; rw [← unhide HX]; unfold idx; rw [(unhide PH) rfl]; omega
        clear PS PH
        go_wp2
        go_ret
        exact ⟨by rw [unhide R]; rfl, Below.refl _ _⟩
      · have R := hide ((unhide PS) e)
        have g := str_ne (fun h : s = t => e h.symm)
        clear PS PH e
        go_wp2
        go_round
        case rel => exact ⟨j + 1, by omega, by go_num, R⟩
        case measure => simp [intOf]; omega
    · have R : Hid (x = -1) := by
        have h := unhide A
        rw [List.take_of_length_le (by rw [(unhide HT).1]; omega)] at h
        show _ = _; rw [← unhide HX]; unfold idx; rw [h]; rfl
      clear A
      go_wp2
      go_ret
      exact ⟨by rw [unhide R]; rfl, Below.refl _ _⟩

end Go.Proofs.YtepmnpapdknocaaGreatDoor.Bk
