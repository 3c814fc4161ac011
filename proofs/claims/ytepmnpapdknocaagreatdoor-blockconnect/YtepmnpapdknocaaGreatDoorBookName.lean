/- The contract of Name. -/
import Derived.Test.YtepmnpapdknocaaGreatDoorBookAllW
namespace Go.Proofs.YtepmnpapdknocaaGreatDoor.Bk
open Go.RowKit Go.Maps

theorem one_text (w : World) (s : ByteArray) : TextsAt (w.alloc (.cells #[.string s] 9)) (some ⟨w.heap.size, 0, none⟩) 1 [s] :=
  ⟨rfl, fun _ => ⟨w.heap.size, 0, rfl, fun i hi => by
    have e : i = 0 := by simp at hi; omega
    subst e
    exact one_new w (.string s) 9⟩⟩

/-- What All answers, in one contract. -/
theorem all_is (a al : Option Addr) (n c nl cl : Nat) (L l M : List ByteArray) (N : List Int) (x : Int) (w : World) (h : TextsAt w a n L) (hl : TextsAt w al nl l) (hnl : nl ≤ 17592186044416) (hx : allR L l = (M, N, x)) :
    Calls Tryz.prog 25 #[.agg #[.slice a n c], .slice al nl cl] w fun e w' => (∃ a' n' c' a2 n2 c2, e = .returned (.tuple #[.agg #[.slice a' n' c'], .slice a2 n2 c2, .int .i64 x]) ∧ TextsAt w' a' n' M ∧ SlOk a' n' c' ∧ IntsAt w' a2 n2 N ∧ n2 ≤ nl ∧ n2 ≤ c2) ∧ Below w.heap.size w w' := by
  unfold allR at hx
  by_cases h0 : bkChk L = 0
  · rw [if_pos h0] at hx
    exact all_right a al n c nl cl L l M N x w h hl hnl ((right_iff L).1 h0) hx
  · rw [if_neg h0] at hx
    have e1 : M = [] := by injection hx with hx _; exact hx.symm
    have e2 : N = [] := by injection hx with _ hx; injection hx with hx _; exact hx.symm
    have e3 : bkChk L = x := by injection hx with _ hx; injection hx with _ hx
    subst e1 e2
    refine (all_bad a al n c nl cl L w h x e3 (by rw [← e3]; exact h0)).mono ?_
    rintro e w' ⟨rfl, hb⟩
    exact ⟨⟨_, _, _, _, _, _, rfl, TextsAt.nil _ _, SlOk.nil, IntsAt.nil _ _, Nat.zero_le _, Nat.le_refl _⟩, hb⟩

end Go.Proofs.YtepmnpapdknocaaGreatDoor.Bk