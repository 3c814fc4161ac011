/- The law LockParts where Run's error is none that the law looks at; and all its ways together. -/
import Derived.Test.YtoacgkgadecddabDoorLockParts0E
import Derived.Test.YtoacgkgadecddabDoorLockParts0N
import Derived.Test.YtoacgkgadecddabDoorLockParts8E
import Derived.Test.YtoacgkgadecddabDoorLockParts8N
import Derived.Test.YtoacgkgadecddabDoorLockPartsONE
import Derived.Test.YtoacgkgadecddabDoorLockPartsNIL
namespace Go.Proofs.YtoacgkgadecddabDoor
open Go.RowKit

set_option maxHeartbeats 1600000 in
theorem parts_bad (a az : Option Addr) (len cap lens caps : Nat) (l : List (Int × Int)) (Z : List Int) (h k : Int) (w : World) (hE : EnvP w) (hO : OpsAt w a len l) (hR : RowAt w az lens Z) (n0 : runE l Z h ≠ 0) (n8 : runE l Z h ≠ 8) :
    Calls Tryd.prog 3 #[.slice a len cap, .slice az lens caps, .int .i64 h, .int .i64 k] w fun e w' => e = .returned (.bool true) ∧ Below w.heap.size w w' := by
  obtain ⟨x, hx⟩ : ∃ x, runE l Z h = x := ⟨_, rfl⟩
  obtain ⟨S, hS⟩ : ∃ S, runS l Z h = S := ⟨_, rfl⟩
  have R0 := hide (run_is a az len cap lens caps l Z h x S w hx hS hO hR)
  rw [hx] at n0 n8
  have g0 : (x != 0) = true := by simp [n0]
  have g8 : (x != 8) = true := by simp [n8]
  have HE := hide hE
  clear hE hO hR n0 n8 hx hS
  go_enter Tryd.func3, Tryd.ntmps3
  go_wp2_with fail
  refine (unhide R0).mono ?_
  rintro e w1 ⟨a1, c1, rfl, _, hb1⟩
  have HB1 := hide hb1
  clear hb1
  go_wp2_with fail
  refine (locked_yes _ ((unhide HE).later (unhide HB1)).env).mono ?_
  rintro e w2 ⟨rfl, hb2⟩
  have HB2 := hide (bel_two (unhide HB1) hb2)
  clear hb2
  go_wp2_with fail
  refine (locked_yes _ ((unhide HE).later (unhide HB2)).env).mono ?_
  rintro e w3 ⟨rfl, hb3⟩
  have HB3 := hide (bel_two (unhide HB2) hb3)
  clear hb3
  go_wp2
  go_ret
  exact ⟨rfl, unhide HB3⟩

theorem chk1_is (o : Int × Int) : chk1 o = 0 ∨ chk1 o = 3 ∨ chk1 o = 4 := by
  unfold chk1
  split
  · exact Or.inr (Or.inr rfl)
  · split
    · exact Or.inr (Or.inl rfl)
    · exact Or.inl rfl
theorem chkL_is : ∀ (l : List (Int × Int)), chkL l = 0 ∨ chkL l = 3 ∨ chkL l = 4
  | [] => Or.inl rfl
  | o :: r => by
    simp only [chkL]
    split
    · exact chkL_is r
    · exact chk1_is o
theorem chkL_not8 {l : List (Int × Int)} : (chkL l = 8) = False := by
  apply propext
  refine ⟨fun e => ?_, False.elim⟩
  rcases chkL_is l with h | h | h <;> rw [h] at e <;> cases e
theorem chkL_takes (l : List (Int × Int)) (m : Nat) (h : chkL l = 0) : chkL (l.take m) = 0 := by
  induction l generalizing m with
  | nil => rw [List.take_nil]; rfl
  | cons o r ih =>
    simp only [chkL] at h
    split at h
    · rename_i e
      cases m with
      | zero => rfl
      | succ m => simp only [List.take_succ_cons, chkL]; rw [if_pos e]; exact ih m h
    · contradiction
theorem chkL_drops (l : List (Int × Int)) (m : Nat) (h : chkL l = 0) : chkL (l.drop m) = 0 := by
  induction l generalizing m with
  | nil => rw [List.drop_nil]; rfl
  | cons o r ih =>
    cases m with
    | zero => exact h
    | succ m =>
      simp only [chkL] at h
      split at h
      · exact ih m h
      · contradiction

/-- The place, one and the same in whatever world. -/
theorem at_is (k : Int) (n : Nat) (hn : 0 < n) (h17 : n ≤ 17) : ∃ m : Nat, m < n ∧ ∀ w, Calls Tryd.prog 7 #[.int .i64 k, .int .i64 n] w fun e w' => e = .returned (.int .i64 m) ∧ w = w' := by
  by_cases h3 : Int.tmod k n < 0
  · have h1 : -(n : Int) < Int.tmod k n := by
      have := Int.lt_tmod_of_pos k (show (0 : Int) < n by omega)
      omega
    refine ⟨(Int.tmod k n + n).toNat, by omega, fun w => (at_neg k n w hn h17 h3)⟩
  · have h2 : Int.tmod k n < n := Int.tmod_lt_of_pos k (by omega)
    refine ⟨(Int.tmod k n).toNat, by omega, fun w => (at_pos k n w hn h17 h3)⟩

theorem runE_parts {l : List (Int × Int)} {Z : List Int} {h : Int} (e : runE l Z h = 0 ∨ runE l Z h = 8) : chk l = 0 ∧ (stackOk Z && hOk h) = true := by
  unfold runE at e
  split at e
  · rename_i h1
    refine ⟨h1, ?_⟩
    split at e
    · rename_i h2; exact h2
    · rcases e with e | e <;> cases e
  · rename_i h1
    rcases e with e | e
    · exact absurd e h1
    · exfalso
      unfold chk at e
      split at e
      · cases e
      · rw [chkL_not8] at e
        exact e.elim

theorem lockParts_any (a az : Option Addr) (len cap lens caps : Nat) (l : List (Int × Int)) (Z : List Int) (h k : Int) (w : World) (hE : EnvP w) (hO : OpsAt w a len l) (hR : RowAt w az lens Z)
    (hn : a = none → len = 0 ∧ cap = 0) (hc : len ≤ cap) :
    Calls Tryd.prog 3 #[.slice a len cap, .slice az lens caps, .int .i64 h, .int .i64 k] w fun e w' => e = .returned (.bool true) ∧ Below w.heap.size w w' := by
  by_cases he : runE l Z h = 0 ∨ runE l Z h = 8
  · obtain ⟨hck, hg⟩ := runE_parts he
    have hz := hO.1
    subst hz
    have h16 : l.length ≤ 16 := by
      unfold chk at hck
      split at hck
      · cases hck
      · omega
    have hL : chkL l = 0 := by
      unfold chk at hck
      split at hck
      · cases hck
      · exact hck
    obtain ⟨m, hm, hat⟩ : ∃ m : Nat, m < l.length + 1 ∧ ∀ w, Calls Tryd.prog 7 #[.int .i64 k, .int .i64 ((l.length : Int) + 1)] w fun e w' => e = .returned (.int .i64 m) ∧ w = w' := at_is k (l.length + 1) (by omega) (by omega)
    have ht : chk (l.take m) = 0 := by
      unfold chk
      rw [if_neg (by rw [List.length_take]; omega)]
      exact chkL_takes l m hL
    have hd : chk (l.drop m) = 0 := by
      unfold chk
      rw [if_neg (by rw [List.length_drop]; omega)]
      exact chkL_drops l m hL
    have hrun : runL h l Z = (runL h (l.take m) Z).bind (runL h (l.drop m)) := by rw [← runL_append, List.take_append_drop]
    cases a with
    | none =>
      obtain ⟨h0, hc0⟩ := hn rfl
      have e : l = [] := List.length_eq_zero_iff.1 h0
      subst e
      subst hc0
      have hr : runL h [] Z = some Z := rfl
      have f := runE_fine hck hg hr
      have hm0 : m = 0 := by simp at hm; exact hm
      subst hm0
      exact parts_nil az lens caps [] Z h k w hE hO hR hck f.1 f.2 hat
    | some x =>
      cases r1 : runL h (l.take m) Z with
      | none =>
        have rf : runL h l Z = none := by rw [hrun, r1]; rfl
        have f := runE_key hck hg rf
        have g := runE_key ht hg r1
        exact parts_one x az cap lens caps l Z h k m w hE hO hR hc (by omega) hck h16 f.1 f.2 g.1 g.2 hat
      | some X =>
        have g := runE_fine ht hg r1
        have sZ : stackOk Z = true := by simp at hg; exact hg.1
        have sH : hOk h = true := by simp at hg; exact hg.2
        have sX : stackOk X = true := runL_ok sZ r1
        have hgX : (stackOk X && hOk h) = true := by rw [sX, sH]; rfl
        cases r2 : runL h (l.drop m) X with
        | none =>
          have rf : runL h l Z = none := by rw [hrun, r1]; exact r2
          have f := runE_key hck hg rf
          have g2 := runE_key hd hgX r2
          by_cases hcm : cap = m
          · obtain rfl : m = l.length := by omega
            subst hcm
            exact parts_two_8e x az lens caps l Z h k X w hE hO hR hck h16 f.1 f.2 g.1 g.2 g2.1 g2.2 hat
          · exact parts_two_8n x az cap lens caps l Z h k m X w hE hO hR hc hcm (by omega) hck h16 f.1 f.2 g.1 g.2 g2.1 g2.2 hat
        | some S =>
          have rf : runL h l Z = some S := by rw [hrun, r1]; exact r2
          have f := runE_fine hck hg rf
          have g2 := runE_fine hd hgX r2
          by_cases hcm : cap = m
          · obtain rfl : m = l.length := by omega
            subst hcm
            exact parts_two_0e x az lens caps l Z h k S X w hE hO hR hck h16 f.1 f.2 g.1 g.2 g2.1 g2.2 hat
          · exact parts_two_0n x az cap lens caps l Z h k m S X w hE hO hR hc hcm (by omega) hck h16 f.1 f.2 g.1 g.2 g2.1 g2.2 hat
  · simp only [not_or] at he
    exact parts_bad a az len cap lens caps l Z h k w hE hO hR he.1 he.2

end Go.Proofs.YtoacgkgadecddabDoor
