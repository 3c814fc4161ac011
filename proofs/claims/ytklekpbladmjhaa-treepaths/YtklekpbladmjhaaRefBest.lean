/- Contracts of sort.Ints at a row that the call has made, and of the reference's BestOf. -/
import Derived.Test.YtklekpbladmjhaaRefPath
import Derived.Test.YtklekpbladmjhaaTrClone
import Derived.Test.YtklekpbladmjhaaShelf
import Derived.Lib.OwnBridge
import Derived.Deep.RegionHeld3
namespace Go.Proofs.Ytklekpbladmjhaa
open Go.RowKit

theorem bel_grow (w : World) (os : Array Obj) : Below w.heap.size w (Sort.grow w os) :=
  ⟨rfl, rfl, rfl, by simp [Sort.grow], fun k hk => by simp [Sort.grow, Array.getElem?_append, hk]⟩

theorem sortInts_is (base : Nat) (v : Value) (n : Nat) (N : List Int) (w : World) (hn : n ≤ 4096) (h : w.ownsRow base 3 1 v n (N.map (Value.int .i64))) (hb : base ≤ w.heap.size) :
    Calls Try.prog 42 #[v] w fun e w' => e = .returned (.tuple #[]) ∧ w'.ownsRow base 3 1 v n ((srt N).map (Value.int .i64)) ∧ Below base w w' := by
  by_cases hv : v = .slice none 0 0
  · subst hv
    have hn0 : n = 0 := by
      rcases h.2 with ⟨_, h0⟩ | ⟨g, cap, cur, e, _⟩
      · exact h0
      · cases e
    subst hn0
    have hN : N = [] := by have := h.1; simpa using this
    subst hN
    exact (Try.sort_Ints_none none 0 w).mono fun e w' ⟨h1, h2⟩ => ⟨h1, by rw [h2]; simpa [srt] using h, by rw [h2]; exact Below.refl _ _⟩
  · obtain ⟨g, cap, rfl, hg, hlt, h1, h2, hl, hH⟩ := Lib.holds_of_ownsRow h hv
    have C := Try.sort_Ints g 0 cap N w hH hlt (by omega)
    rw [hl] at C
    refine C.mono ?_
    rintro e w' ⟨rfl, q, os, rfl⟩
    have hp := Lib.ownsRow_putRow (q := q) (k := n) (ys := srt N) h (by rw [srt_len, hl]) (Nat.le_refl _)
    rw [List.take_of_length_le (by rw [srt_len, hl]; exact Nat.le_refl _)] at hp
    have hb1 : Below base w (Sort.putRow (Value.int .i64) (Sort.ahead w q) g 0 (srt N).toArray) := Lib.below_putRow (Below.refl _ _) hg
    have hb2 := bel_grow (Sort.putRow (Value.int .i64) (Sort.ahead w q) g 0 (srt N).toArray) os
    exact ⟨rfl, (Gr.of (S := fun _ => False) hb2).own hp (fun _ _ q => q), hb1.trans (hb2.mono (Nat.le_trans hb hb1.size))⟩

set_option maxRecDepth 10000 in
set_option maxHeartbeats 6400000 in
theorem rbest_is (a b : Option Addr) (n c d : Nat) (N : List Int) (T : List BlkD) (z : Int) (w : World) (hok : TrOk N T) (hn : n ≤ 24) (hN : IntsAt w a n N) (hT : BlksAt w b n T) (sN : SlOk a n c) (hz : bstGo N T 0 0 N = z) :
    Calls Try.prog 22 #[.agg #[.slice a n c, .slice b n d]] w fun r w' => r = .returned (.int .i64 z) ∧ Below w.heap.size w w' := by
  obtain ⟨X, hX⟩ : ∃ X, X = w.alloc (.cells #[.slice a n c, .slice b n d] 25) := ⟨_, rfl⟩
  have hbX : Below w.heap.size w X := by rw [hX]; exact bel_new _ _
  have hX0 : X.heap[w.heap.size]? = some (.cells [.slice a n c, .slice b n d].toArray 25 (0, 0)) := by rw [hX]; exact two_heap _ _ _ _
  obtain ⟨S, hS⟩ : ∃ S, srt N = S := ⟨_, rfl⟩
  have hSl : S.length = n := by rw [← hS, srt_len]; exact hN.1
  have hSm : ∀ x ∈ S, x ∈ N := fun x hx => (srt_perm N).mem_iff.1 (hS ▸ hx)
  have C1 := hide (cloneInt_any a n c N X (by omega) (hN.later hbX) sN)
  have CW := hide (fun x y W (hb : Below X.heap.size X W) (hx : x = 0 ∨ x ∈ N) (hy : wrkD N T x = y) => rwork_is a b n c d N T x y W hok hn (hN.later (bel_on hbX hb)) (hT.later (bel_on hbX hb)) hx hy)
  have HB := hide hbX
  have HX0 := hide hX0
  have HSL := hide hSl
  have HSM := hide hSm
  have HS := hide hS
  have HX : Hid (rbGo (wrkD N T) 0 (S.drop 0) = z) := by show _ = _; rw [← hz, ← hok.best_rb, hS]; rfl
  have x0 := cell_of hX0 0 _ rfl
  have xl := lt_of_block hX0
  clear hbX hX0 hN hT hz hok hS hSl hSm sN
  go_enter Try.func22, Try.ntmps22
  go_wp2_with fail
  rw [← hX]
  clear hX
  refine (unhide C1).mono ?_
  rintro r w1 ⟨v, rfl, ho1, hb1⟩
  have C2 := hide (sortInts_is X.heap.size v n N w1 (by omega) ho1 hb1.size)
  have HB1 := hide hb1
  clear ho1 hb1 C1 x0 xl
  go_wp2_with fail
  refine (unhide C2).mono ?_
  rintro r w2 ⟨rfl, ho2, hb2⟩
  rw [unhide HS] at ho2
  obtain ⟨sa, sc, rfl, ss, hs⟩ := ints_of_own ho2
  have HSA := hide hs
  have HB2 : Hid (Below X.heap.size X w2) := (unhide HB1).trans hb2
  clear ho2 hb2 hs ss C2
  go_wp2
  go_loopw [4, 14] (fun bv i wr => ∃ (k : Nat) (bb : Int), k ≤ n ∧ bv = .int .i64 bb ∧ i = .int .i64 k ∧ Hid (rbGo (wrkD N T) bb (S.drop k) = z) ∧ Hid (bb = 0 ∨ bb ∈ N) ∧ Hid (Below w2.heap.size w2 wr)) (fun _ i _ => n - (intOf i).toNat)
  case atStart => exact ⟨0, 0, Nat.zero_le _, rfl, rfl, HX, (.inl rfl : (0 : Int) = 0 ∨ (0 : Int) ∈ N), (Below.refl _ _ : Below w2.heap.size w2 w2)⟩
  case round =>
    obtain ⟨k, bb, hk, rfl, rfl, A, IN, HBr⟩ := hrel
    clear HX
    have hbr : Below X.heap.size X wr := (unhide HB2).trans ((unhide HBr).mono (unhide HB2).size)
    by_cases hlt : k < n
    · have h1 : k < S.length := by rw [unhide HSL]; exact hlt
      obtain ⟨b1, off1, rfl, hl1, hcc1⟩ := (unhide HSA).2 (by omega)
      have f1 := cell_later (unhide HBr) (hcc1 k h1)
      have AT := hide (rbGo_at (wrkD N T) bb S k h1)
      have hsm := (unhide HSM) _ (List.getElem_mem h1)
      obtain ⟨y, hy⟩ : ∃ y, S[k] = y := ⟨_, rfl⟩
      rw [hy] at f1 AT hsm
      have HSY := hide hsm
      have ll1 := Nat.lt_of_lt_of_le hl1 (unhide HBr).size
      have hcx := (hbr.block _ (lt_of_block (unhide HX0))).trans (unhide HX0)
      have t0 := cell_of hcx 0 _ rfl
      have t1 := cell_of hcx 1 _ rfl
      have tl := lt_of_block hcx
      have hkI : (k : Int) < (n : Int) := by omega
      have HBR := hide hbr
      clear hcc1 hy hcx hl1 hbr hsm
      by_cases e0 : bb = 0
      · subst e0
        have R : Hid (rbGo (wrkD N T) y (S.drop (k + 1)) = z) := by
          show _ = _
          have := unhide AT
          rw [if_pos (.inl rfl)] at this
          rw [← unhide A, this]
        have IN2 : Hid (y = 0 ∨ y ∈ N) := .inr (unhide HSY)
        clear A AT
        go_wp2_with fail
        go_quiet (fail)
        go_wp2
        go_roundw
        case rel => exact ⟨k + 1, y, by omega, rfl, by go_num, R, IN2, bel_on (unhide HBr) (below_dn _ _)⟩
        case measure => simp [intOf]; omega
      · obtain ⟨ky, hky⟩ : ∃ ky, wrkD N T y = ky := ⟨_, rfl⟩
        obtain ⟨kb, hkb⟩ : ∃ kb, wrkD N T bb = kb := ⟨_, rfl⟩
        rw [hky, hkb] at AT
        have CY := hide (fun W (hb : Below wr.heap.size wr W) => (unhide CW) y ky W (bel_on (unhide HBR) hb) (.inr (unhide HSY)) hky)
        have CB := hide (fun W (hb : Below wr.heap.size wr W) => (unhide CW) bb kb W (bel_on (unhide HBR) hb) (unhide IN) hkb)
        have gb : (bb == 0) = false := by simp [e0]
        clear hky hkb
        by_cases g : kb < ky
        · have R : Hid (rbGo (wrkD N T) y (S.drop (k + 1)) = z) := by
            show _ = _
            have := unhide AT
            rw [if_pos (.inr g)] at this
            rw [← unhide A, this]
          have IN2 : Hid (y = 0 ∨ y ∈ N) := .inr (unhide HSY)
          clear A AT e0
          go_wp2_with fail
          go_region_held3 (fun W => Below wr.heap.size wr W ∧ W.cell? ⟨w.heap.size, 0, none⟩ = some (.slice a n c) ∧ W.cell? ⟨w.heap.size, 1, none⟩ = some (.slice b n d))
            (first | exact ⟨bel_draw1 _, t0, t1⟩ | (go_split_ands; refine ⟨bel_on (by assumption) hbc, cell_later hbc (by assumption), cell_later hbc (by assumption)⟩))
            ((first | (go_at_call_of 24 (Value.int .i64 y); go_split_ands; refine ((unhide CY) _ (by assumption)).mono ?_; rintro e w' ⟨rfl, hbc⟩) | (go_at_call_of 24 (Value.int .i64 bb); go_split_ands; refine ((unhide CB) _ (by assumption)).mono ?_; rintro e w' ⟨rfl, hbc⟩)))
          rename_i hq
          have HQ := hide (bel_on (unhide HBr) hq.1)
          clear hq
          go_wp2
          go_roundw
          case rel => exact ⟨k + 1, y, by omega, rfl, by go_num, R, IN2, HQ⟩
          case measure => simp [intOf]; omega
        · have R : Hid (rbGo (wrkD N T) bb (S.drop (k + 1)) = z) := by
            show _ = _
            have := unhide AT
            rw [if_neg (fun q => q.elim e0 g)] at this
            rw [← unhide A, this]
          clear A AT e0
          go_wp2_with fail
          go_region_held3 (fun W => Below wr.heap.size wr W ∧ W.cell? ⟨w.heap.size, 0, none⟩ = some (.slice a n c) ∧ W.cell? ⟨w.heap.size, 1, none⟩ = some (.slice b n d))
            (first | exact ⟨bel_draw1 _, t0, t1⟩ | (go_split_ands; refine ⟨bel_on (by assumption) hbc, cell_later hbc (by assumption), cell_later hbc (by assumption)⟩))
            ((first | (go_at_call_of 24 (Value.int .i64 y); go_split_ands; refine ((unhide CY) _ (by assumption)).mono ?_; rintro e w' ⟨rfl, hbc⟩) | (go_at_call_of 24 (Value.int .i64 bb); go_split_ands; refine ((unhide CB) _ (by assumption)).mono ?_; rintro e w' ⟨rfl, hbc⟩)))
          rename_i hq
          have HQ := hide (bel_on (unhide HBr) hq.1)
          clear hq
          go_wp2
          go_roundw
          case rel => exact ⟨k + 1, bb, by omega, rfl, by go_num, R, IN, HQ⟩
          case measure => simp [intOf]; omega
    · have R : Hid (bb = z) := by show _ = _; rw [← unhide A, rbGo_end _ _ S k (by rw [unhide HSL]; omega)]
      have HBF := hide (bel_on (unhide HB) hbr)
      clear A IN
      go_wp2
      go_ret
      exact ⟨by rw [unhide R]; rfl, unhide HBF⟩

end Go.Proofs.Ytklekpbladmjhaa
