/- The contract of the reference's SameTx, whatever the two transactions. -/
import Derived.Test.YtklekpbladmjhaaRefSameT
namespace Go.Proofs.Ytklekpbladmjhaa
open Go.RowKit

set_option maxRecDepth 10000 in
set_option maxHeartbeats 3200000 in
theorem rsameTx_is (h h' : Int) (ai ao bi bo : Option Addr) (ni ci no co mi di mo eo : Nat) (I I' : List InD) (O O' : List OutD) (o : Bool) (w : World) (li : ni ≤ maxLen) (lo : no ≤ maxLen)
    (hI : InsAt w ai ni I) (hO : OutsAt w ao no O) (hI' : InsAt w bi mi I') (hO' : OutsAt w bo mo O') (ho : sameT (h, I, O) (h', I', O') = o) :
    Calls Try.prog 37 #[.agg #[.int .i64 h, .slice ai ni ci, .slice ao no co], .agg #[.int .i64 h', .slice bi mi di, .slice bo mo eo]] w fun e w' => e = .returned (.bool o) ∧ Below w.heap.size w w' := by
  have hb1 := bel_new w (.cells #[.int .i64 h, .slice ai ni ci, .slice ao no co] 71)
  have hb2 := bel_new (w.alloc (.cells #[.int .i64 h, .slice ai ni ci, .slice ao no co] 71)) (.cells #[.int .i64 h', .slice bi mi di, .slice bo mo eo] 71)
  have hb := bel_on hb1 hb2
  have HB := hide hb
  by_cases h1 : h = h'
  · subst h1
    have ho2 : (decide (I = I') && decide (O = O')) = o := by rw [← ho]; unfold sameT; simp
    by_cases h2 : ni = mi
    · subst h2
      by_cases h0 : ni = 0
      · subst h0
        have e1 : I = [] := List.length_eq_zero_iff.1 hI.1
        have e2 : I' = [] := List.length_eq_zero_iff.1 hI'.1
        have hoo : decide (O = O') = o := by rw [← ho2, e1, e2]; simp
        have EO := hide (reqOuts_is ao bo no mo co eo O O' o _ lo (hO.later hb) (hO'.later hb) hoo)
        clear ho ho2 hI hI' hO hO' hb hb1 hb2 e1 e2 hoo
        go_enter Try.func37, Try.ntmps37
        go_wp2
        refine wp_loop_rounds 1 ?_
        rw [rounds_succ]
        go_wp2_with fail
        refine (unhide EO).mono ?_
        rintro e w9 ⟨rfl, hb9⟩
        have HB9 := hide (bel_on (unhide HB) hb9)
        clear hb9
        go_wp2
        go_ret
        exact ⟨rfl, unhide HB9⟩
      · obtain ⟨b1, o1, rfl, l1, c1⟩ := hI.2 (by omega)
        obtain ⟨b2, o2, rfl, l2, c2⟩ := hI'.2 (by omega)
        exact rsame_loop h b1 o1 b2 o2 ni ci di ao bo no co mo eo I I' O O' o w li lo hI.1 hI'.1 l1 l2 c1 c2 hO hO' ho2
    · have e : o = false := by
        rw [← ho2, decide_eq_false (fun e => h2 (by rw [← hI.1, ← hI'.1, e]))]; rfl
      subst e
      have g : ((ni : Int) != (mi : Int)) = true := by simp; omega
      clear ho ho2 hI hI' hO hO' hb hb1 hb2 h2
      go_enter Try.func37, Try.ntmps37
      go_wp2
      go_ret
      exact ⟨rfl, unhide HB⟩
  · have e : o = false := by rw [← ho]; unfold sameT; simp [h1]
    subst e
    have g : (h != h') = true := by simp [h1]
    clear ho hI hI' hO hO' hb hb1 hb2
    go_enter Try.func37, Try.ntmps37
    go_wp2
    go_ret
    exact ⟨rfl, unhide HB⟩

end Go.Proofs.Ytklekpbladmjhaa
