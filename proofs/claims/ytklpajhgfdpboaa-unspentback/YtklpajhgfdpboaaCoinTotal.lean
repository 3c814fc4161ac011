/- The contract of Total. -/
import Derived.Test.YtklpajhgfdpboaaCoinApplyB
namespace Go.Proofs.Ytklpajhgfdpboaa
open Go.RowKit

set_option maxHeartbeats 400000 in
theorem total1_is (x : CoinD) (a : Option Addr) (n c : Nat) (w : World) : Calls Try.prog 27 #[cnV x a n c] w fun e w' => e = .returned (.bool true) ∧ Below w.heap.size w w' := by
  unfold cnV
  have HB := hide (bel_new w (.cells #[.int .i64 x.1, .int .i64 x.2.1, .int .i64 (cv x), .slice a n c, .int .i64 (ch x), .bool (cr x)] 29))
  go_enter Try.func27, Try.ntmps27
  go_wp2
  go_ret
  exact ⟨rfl, unhide HB⟩

set_option maxRecDepth 10000 in
set_option maxHeartbeats 3200000 in
theorem sumOf_total (a : Option Addr) (n c : Nat) (L : List CoinD) (x s : Int) (w : World) (h : CoinsAt w a n L) (hx : ckCoins L = x) (hs : (if x = 0 then sumC L else 0) = s) :
    Calls Try.prog 26 #[.slice a n c, .func (.func 27) #[] #[]] w fun e w' => e = .returned (.tuple #[.int .i64 s, .int .i64 x]) ∧ Below w.heap.size w w' := by
  have C1 := hide (uCheck_any a n c L x w h hx)
  by_cases e1 : x = 0
  · subst e1
    rw [if_pos rfl] at hs
    have hR := (ckCoins_zero L).1 hx
    have hn : n ≤ 720 := by rw [← h.1]; exact hR.len
    have HSB := hide (fun k => sumC_bd L k (fun z hz => by have := ck1_zero (hR.one z hz); omega))
    have HL := hide h
    have HZ := hide h.1
    have HS := hide hs
    clear hR h hx hs
    go_enter Try.func26, Try.ntmps26
    go_wp2_with fail
    refine (unhide C1).mono ?_
    rintro e w2 ⟨rfl, hb2⟩
    have HB2 := hide hb2
    clear hb2 C1
    go_wp2
    go_loopw [7, 17] (fun sv i wr => ∃ (k : Nat) (d : Int), k ≤ n ∧ sv = .int .i64 d ∧ i = .int .i64 k ∧ Hid (d = sumC (L.take k)) ∧ Hid (Below w.heap.size w wr)) (fun _ i _ => n - (intOf i).toNat)
    case atStart => exact ⟨0, 0, Nat.zero_le _, rfl, rfl, rfl, HB2⟩
    case round =>
      obtain ⟨k, d, hk, rfl, rfl, A, HB⟩ := hrel
      by_cases hlt : k < n
      · have hlk : k < L.length := by rw [unhide HZ]; exact hlt
        obtain ⟨b, off, rfl, hbl, hcell⟩ := (unhide HL).2 (by omega)
        have hin := CoinAt.kept _ _ _ _ _ (unhide HB) (hcell k hlk)
        have b1 := (unhide HSB) k
        have b2 := (unhide HSB) (k + 1)
        have hst := sumC_take L k hlk
        obtain ⟨y, hy⟩ : ∃ y, L[k] = y := ⟨_, rfl⟩
        rw [hy] at hin hst
        obtain ⟨la, ln, lc, g0, g1, g2, g3, g4, g5, _, _⟩ := hin.val
        obtain ⟨v, hv⟩ : ∃ v, cv y = v := ⟨_, rfl⟩
        have T1 := fun w => total1_is y la ln lc w
        unfold cnV at T1
        rw [hv] at g2 hst T1
        have HT1 := hide T1
        rw [← unhide A] at b1 hst
        rw [hst] at b2
        have A2 : Hid (d + v = sumC (L.take (k + 1))) := hst.symm
        obtain ⟨X, hX⟩ : ∃ X, X = wr.alloc (.cells #[.int .i64 y.1, .int .i64 y.2.1, .int .i64 v, .slice la ln lc, .int .i64 (ch y), .bool (cr y)] 29) := ⟨_, rfl⟩
        have hbX : Below wr.heap.size wr X := by rw [hX]; exact bel_new _ _
        have hX1 : X.heap[wr.heap.size]? = some (.cells [.int .i64 y.1, .int .i64 y.2.1, .int .i64 v, .slice la ln lc, .int .i64 (ch y), .bool (cr y)].toArray 29 (0, 0)) := by rw [hX]; exact six_heap _ _ _ _ _ _ _ _
        have m2 := cell_of hX1 2 _ rfl
        have HBX := hide (bel_on (unhide HB) hbX)
        have hw1 : IntKind.i64.wrap (d + v) = d + v := by rw [IntKind.wrap_i64]; omega
        clear hin hy hst A HB T1 hv hX1 hbX
        go_wp2_with fail
        rw [← hX]
        clear hX
        refine ((unhide HT1) _).mono ?_
        rintro e w3 ⟨rfl, hb3⟩
        have n2 := cell_later hb3 m2
        have hl3 := World.block_lt_of_cell? _ _ n2
        have HB3 := hide (bel_on (unhide HBX) hb3)
        clear hb3 m2
        go_wp2
        go_roundw
        case rel => exact ⟨k + 1, d + v, by omega, rfl, by go_num, A2, HB3⟩
        case measure => simp [intOf]; omega
      · have e : k = n := by omega
        subst e
        have R : Hid (d = s) := by
          show _ = _
          rw [unhide A, List.take_of_length_le (by rw [unhide HZ]; exact Nat.le_refl _)]
          exact unhide HS
        clear A
        go_wp2
        go_ret2
        exact ⟨by rw [← unhide R]; rfl, unhide HB⟩
  · rw [if_neg e1] at hs
    subst hs
    have g : (x != 0) = true := by simp [e1]
    clear h hx e1
    go_enter Try.func26, Try.ntmps26
    go_wp2_with fail
    refine (unhide C1).mono ?_
    rintro e w2 ⟨rfl, hb2⟩
    have HB2 := hide hb2
    clear hb2 C1
    go_wp2
    go_ret2
    exact ⟨rfl, unhide HB2⟩

set_option maxHeartbeats 400000 in
theorem total_is (a : Option Addr) (n c : Nat) (L : List CoinD) (x s : Int) (w : World) (h : CoinsAt w a n L) (hx : ckCoins L = x) (hs : (if x = 0 then sumC L else 0) = s) :
    Calls Try.prog 8 #[.slice a n c] w fun e w' => e = .returned (.tuple #[.int .i64 s, .int .i64 x]) ∧ Below w.heap.size w w' := by
  have C := hide (sumOf_total a n c L x s w h hx hs)
  clear h hx hs
  go_enter Try.func8, Try.ntmps8
  go_wp2_with fail
  refine (unhide C).mono ?_
  rintro e w2 ⟨rfl, hb2⟩
  have HB2 := hide hb2
  clear hb2
  go_wp2
  go_ret2
  exact ⟨rfl, unhide HB2⟩

end Go.Proofs.Ytklpajhgfdpboaa
