/- The contracts of the reference's place (where a point stands among coins, in whatever order) and FeeOf. -/
import Derived.Test.YtepmnpapdknocaaGreatDoorCoinGr
import Derived.Test.YtepmnpapdknocaaGreatDoorCoinApplyB
namespace Go.Proofs.YtepmnpapdknocaaGreatDoor
open Go.RowKit

/-- The first place of a point among coins, or -1. -/
def plc (p : PtD) : List CoinD → Nat → Int
  | [], _ => -1
  | y :: r, k => if pt y = p then k else plc p r (k + 1)
theorem plc_drop (p : PtD) (l : List CoinD) (k : Nat) (h : k < l.length) : plc p (l.drop k) k = if pt l[k] = p then (k : Int) else plc p (l.drop (k + 1)) (k + 1) := by
  rw [List.drop_eq_getElem_cons h]; rfl

set_option maxRecDepth 10000 in
set_option maxHeartbeats 800000 in
theorem rplace1_is (x : CoinD) (a : Option Addr) (n c : Nat) (q : PtD) (p : Nat) (o : Bool) (w : World) (h1 : w.cell? ⟨p, 0, none⟩ = some (.int .i64 q.1)) (h2 : w.cell? ⟨p, 1, none⟩ = some (.int .i64 q.2)) (ho : decide (pt x = q) = o) :
    Calls Tryz.prog 121 #[cnV x a n c, .pointer (some ⟨p, 0, none⟩)] w fun e w' => e = .returned (.bool o) ∧ Below w.heap.size w w' := by
  subst ho
  obtain ⟨x1, x2, v, lk, hh, rr⟩ := x
  obtain ⟨q1, q2⟩ := q
  have hp := World.block_lt_of_cell? _ _ h1
  unfold cnV pt cv ch cr
  simp only at h1 h2 ⊢
  have HB := hide (bel_new w (.cells #[.int .i64 x1, .int .i64 x2, .int .i64 v, .slice a n c, .int .i64 hh, .bool rr] 88))
  by_cases hx : x1 = q1
  · subst hx
    by_cases hy : x2 = q2
    · subst hy
      rw [decide_eq_true rfl]
      go_enter Tryz.func121, Tryz.ntmps121
      go_wp2
      go_ret
      exact ⟨rfl, unhide HB⟩
    · rw [decide_eq_false (fun e => hy (Prod.mk.inj e).2)]
      go_enter Tryz.func121, Tryz.ntmps121
      go_wp2
      go_ret
      exact ⟨rfl, unhide HB⟩
  · rw [decide_eq_false (fun e => hx (Prod.mk.inj e).1)]
    go_enter Tryz.func121, Tryz.ntmps121
    go_wp2
    go_ret
    exact ⟨rfl, unhide HB⟩

set_option maxRecDepth 10000 in
set_option maxHeartbeats 1600000 in
theorem indexCoin_some (b off n c : Nat) (l : List CoinD) (q : PtD) (p : Nat) (w : World) (hz : l.length = n) (hn : n ≤ 4096) (hc : ∀ i (h : i < l.length), CoinAt w b (off + i * 6) l[i])
    (h1 : w.cell? ⟨p, 0, none⟩ = some (.int .i64 q.1)) (h2 : w.cell? ⟨p, 1, none⟩ = some (.int .i64 q.2)) :
    Calls Tryz.prog 120 #[.slice (some ⟨b, off, none⟩) n c, .func (.func 121) #[] #[.pointer (some ⟨p, 0, none⟩)]] w fun e w' => e = .returned (.int .i64 (plc q l 0)) ∧ Below w.heap.size w w' := by
  have HC := hide hc
  have HZ := hide hz
  have H1 := hide h1
  have H2 := hide h2
  clear hc hz h1 h2
  go_enter Tryz.func120, Tryz.ntmps120
  go_wp2
  go_loopw [5, 8] (fun _ i wr => ∃ k : Nat, k ≤ n ∧ i = .int .i64 k ∧ Hid (plc q l 0 = plc q (l.drop k) k) ∧ Below w.heap.size w wr) (fun _ i _ => n - (intOf i).toNat)
  case atStart => exact ⟨0, Nat.zero_le _, rfl, rfl, Below.refl _ _⟩
  case round =>
    obtain ⟨k, hk, rfl, A, hb⟩ := hrel
    have HB := hide hb
    by_cases hlt : k < n
    · have hlk : k < l.length := by rw [unhide HZ]; exact hlt
      have hin := CoinAt.kept _ _ _ _ _ hb ((unhide HC) k hlk)
      have S := hide (plc_drop q l k hlk)
      obtain ⟨y, hy⟩ : ∃ y, l[k] = y := ⟨_, rfl⟩
      rw [hy] at hin S
      obtain ⟨ka, kn, kc, g1, g2, g3, g4, g5, g6, _, _⟩ := hin.val
      have C1 : Hid (∀ o, decide (pt y = q) = o → Calls Tryz.prog 121 #[cnV y ka kn kc, .pointer (some ⟨p, 0, none⟩)] wr fun e w' => e = .returned (.bool o) ∧ Below wr.heap.size wr w') :=
        fun o ho => rplace1_is y ka kn kc q p o wr (cell_later hb (unhide H1)) (cell_later hb (unhide H2)) ho
      unfold cnV at C1
      by_cases hs : pt y = q
      · have S2 : Hid (plc q l 0 = k) := by show _ = _; rw [unhide A, unhide S, if_pos hs]
        have C2 := hide ((unhide C1) true (decide_eq_true hs))
        clear S A hs C1 hb hy
        go_wp2_with fail
        refine (unhide C2).mono ?_
        rintro e w' ⟨rfl, hb'⟩
        have HB' := hide (bel_on (unhide HB) hb')
        clear hb'
        go_wp2
        go_ret
        exact ⟨by rw [unhide S2]; rfl, unhide HB'⟩
      · have S2 : Hid (plc q l 0 = plc q (l.drop (k + 1)) (k + 1)) := by show _ = _; rw [unhide A, unhide S, if_neg hs]
        have C2 := hide ((unhide C1) false (decide_eq_false hs))
        clear S A hs C1 hb hy
        go_wp2_with fail
        refine (unhide C2).mono ?_
        rintro e w' ⟨rfl, hb'⟩
        have HB' := hide (bel_on (unhide HB) hb')
        clear hb'
        go_wp2
        go_roundw
        case rel => exact ⟨k + 1, by omega, by go_num, S2, unhide HB'⟩
        case measure => simp [intOf]; omega
    · have S2 : Hid (plc q l 0 = -1) := by
        show _ = _
        rw [unhide A, List.drop_of_length_le (by rw [unhide HZ]; omega)]; rfl
      clear A hb
      go_wp2
      go_ret
      exact ⟨by rw [unhide S2]; rfl, unhide HB⟩

set_option maxHeartbeats 400000 in
theorem indexCoin_none (a : Option Addr) (c : Nat) (v : Value) (w : World) :
    Calls Tryz.prog 120 #[.slice a 0 c, v] w fun e w' => e = .returned (.int .i64 (-1)) ∧ w = w' := by
  go_enter Tryz.func120, Tryz.ntmps120
  go_wp2
  refine wp_loop_rounds 1 ?_
  rw [rounds_succ]
  go_wp2
  go_ret
  exact ⟨rfl, rfl⟩

theorem indexCoin_any (a : Option Addr) (n c : Nat) (l : List CoinD) (q : PtD) (p : Nat) (w : World) (hn : n ≤ 4096) (h : CoinsAt w a n l)
    (h1 : w.cell? ⟨p, 0, none⟩ = some (.int .i64 q.1)) (h2 : w.cell? ⟨p, 1, none⟩ = some (.int .i64 q.2)) :
    Calls Tryz.prog 120 #[.slice a n c, .func (.func 121) #[] #[.pointer (some ⟨p, 0, none⟩)]] w fun e w' => e = .returned (.int .i64 (plc q l 0)) ∧ Below w.heap.size w w' := by
  obtain ⟨hz, hc⟩ := h
  by_cases h0 : n = 0
  · subst h0
    have e : l = [] := List.length_eq_zero_iff.1 hz
    subst e
    exact (indexCoin_none a c _ w).mono fun e w' ⟨q1, q2⟩ => ⟨q1, q2 ▸ Below.refl _ _⟩
  · obtain ⟨b, off, rfl, _, hcell⟩ := hc (by omega)
    exact indexCoin_some b off n c l q p w hz hn hcell h1 h2

set_option maxHeartbeats 800000 in
theorem rplace_any (a : Option Addr) (n c : Nat) (l : List CoinD) (q : PtD) (z : Int) (w : World) (hn : n ≤ 4096) (h : CoinsAt w a n l) (hz : plc q l 0 = z) :
    Calls Tryz.prog 85 #[.slice a n c, .agg #[.int .i64 q.1, .int .i64 q.2]] w fun e w' => e = .returned (.int .i64 z) ∧ Below w.heap.size w w' := by
  subst hz
  have hb := bel_new w (.cells #[.int .i64 q.1, .int .i64 q.2] 86)
  obtain ⟨n0, n1⟩ := two_cells w (.int .i64 q.1) (.int .i64 q.2) 86
  have C := hide (indexCoin_any a n c l q w.heap.size _ hn (h.later hb) n0 n1)
  have HB := hide hb
  clear h hb n0 n1
  go_enter Tryz.func85, Tryz.ntmps85
  go_wp2_with fail
  refine (unhide C).mono ?_
  rintro e w2 ⟨rfl, hb2⟩
  have HB2 := hide (bel_on (unhide HB) hb2)
  clear hb2
  go_wp2
  go_ret
  exact ⟨rfl, unhide HB2⟩

end Go.Proofs.YtepmnpapdknocaaGreatDoor
