/- The walk of the law TreeGrows, by its ways. -/
import Derived.Test.YtklekpbladmjhaaTrGrowsW
namespace Go.Proofs.Ytklekpbladmjhaa
open Go.RowKit

set_option maxRecDepth 10000 in
set_option maxHeartbeats 3200000 in
theorem grows_bad (a b : Option Addr) (n c m d : Nat) (N : List Int) (T : List BlkD) (s p h k o : Int) (ta : Option Addr) (tn tc : Nat) (L : List TxD) (N' : List Int) (T' : List BlkD) (x : Int) (w : World) (hN : IntsAt w a n N) (hT : BlksAt w b m T) (sN : SlOk a n c) (sT : SlOk b m d) (hL : TxsAt w ta tn L) (sL : SlOk ta tn tc) (hx : addE N T s (p, h, k, o, L) = (N', T', x)) (h0 : x ≠ 0) :
    Calls Try.prog 6 #[.agg #[.slice a n c, .slice b m d], .int .i64 s, .agg #[.int .i64 p, .int .i64 h, .int .i64 k, .int .i64 o, .slice ta tn tc]] w fun e w' => e = .returned (.bool true) ∧ Below w.heap.size w w' := by
  obtain ⟨X, hX⟩ : ∃ X, X = (w.alloc (.cells #[.slice a n c, .slice b m d] 25)).alloc (.cells #[.int .i64 p, .int .i64 h, .int .i64 k, .int .i64 o, .slice ta tn tc] 28) := ⟨_, rfl⟩
  have hbX : Below w.heap.size w X := by rw [hX]; exact bel_on (bel_new _ _) (bel_new _ _)
  obtain ⟨n', hn'⟩ : ∃ n', N'.length = n' := ⟨_, rfl⟩
  have C := hide (add_is a b n c m d N T s p h k o ta tn tc L N' T' n' x X (hN.later hbX) (hT.later hbX) sN sT (hL.later hbX) sL hx hn')
  have GR := hide grown_yes
  have g : (x != 0) = true := by simp [h0]
  have HB := hide hbX
  clear hbX hN hT sN sT hx h0 hL sL hn'
  go_enter Try.func6, Try.ntmps6
  go_wp2_with fail
  rw [← hX]
  clear hX
  refine (unhide C).mono ?_
  rintro e w1 ⟨a1, c1, a2, c2, rfl, _, _, _, hb1⟩
  have HB1 := hide (bel_on (bel_on (unhide HB) hb1) (bel_new w1 (.cells #[.slice a1 n' c1, .slice a2 n' c2] 25)))
  clear hb1 C
  go_wp2_with fail
  refine ((unhide GR) _).mono ?_
  rintro e w2 ⟨rfl, hb2⟩
  have HB2 := hide (bel_on (unhide HB1) hb2)
  clear hb2
  go_wp2_with fail
  refine ((unhide GR) _).mono ?_
  rintro e w3 ⟨rfl, hb3⟩
  have HB3 := hide (bel_on (unhide HB2) hb3)
  clear hb3
  go_wp2
  go_ret
  exact ⟨rfl, unhide HB3⟩

end Go.Proofs.Ytklekpbladmjhaa
