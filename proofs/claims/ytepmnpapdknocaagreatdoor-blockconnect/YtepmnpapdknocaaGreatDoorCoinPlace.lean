/- The contract of place: where a point stands among coins that are in order. -/
import Derived.Test.YtepmnpapdknocaaGreatDoorCoinCheckB
namespace Go.Proofs.YtepmnpapdknocaaGreatDoor
open Go.RowKit

set_option maxRecDepth 10000 in
set_option maxHeartbeats 800000 in
theorem place1_is (x : CoinD) (a : Option Addr) (n c : Nat) (p : PtD) (z : Int) (w : World) (hz : cmpP (pt x) p = z) :
    Calls Tryz.prog 176 #[cnV x a n c, .agg #[.int .i64 p.1, .int .i64 p.2]] w fun e w' => e = .returned (.int .i64 z) ∧ Below w.heap.size w w' := by
  unfold cnV
  have HB := hide (bel_on (bel_new w (.cells #[.int .i64 x.1, .int .i64 x.2.1, .int .i64 (cv x), .slice a n c, .int .i64 (ch x), .bool (cr x)] 88)) (bel_new _ (.cells #[.int .i64 p.1, .int .i64 p.2] 86)))
  have C := hide (fun w => compare_is (pt x) p z w hz)
  unfold pt at C
  clear hz
  go_enter Tryz.func176, Tryz.ntmps176
  go_wp2_with fail
  refine ((unhide C) _).mono ?_
  rintro e w2 ⟨rfl, hb2⟩
  have HB2 := hide (bel_on (unhide HB) hb2)
  clear hb2
  go_wp2
  go_ret
  exact ⟨rfl, unhide HB2⟩

theorem pos_bound {L : List CoinD} (h : Srt L) (p : PtD) (i : Nat) (hi : i ≤ L.length) (h1 : ∀ t (ht : t < L.length), t < i → lt (pt L[t]) p = true) (h2 : ∀ t (ht : t < L.length), i ≤ t → lt (pt L[t]) p = false) : pos p L = i := by
  obtain ⟨e1, _⟩ := pos_split (p := p) h
  have hl := pos_le p L
  rcases Nat.lt_trichotomy (pos p L) i with q | q | q
  · have := h1 (pos p L) (by omega) q
    have hm : L[pos p L]'(by omega) ∈ L.drop (pos p L) := by rw [List.drop_eq_getElem_cons (by omega)]; exact List.mem_cons_self ..
    rw [(pos_split (p := p) h).2, List.mem_filter] at hm
    rw [this] at hm
    exact absurd hm.2 (by decide)
  · exact q
  · have := h2 i (by omega) (Nat.le_refl _)
    have hm : L[i]'(by omega) ∈ L.take (pos p L) := by
      rw [List.mem_take_iff_getElem]
      exact ⟨i, by omega, rfl⟩
    rw [e1, List.mem_filter, this] at hm
    exact absurd hm.2 (by decide)
theorem srt_mono {L : List CoinD} (h : Srt L) (p : PtD) (i j : Nat) (hi : i < L.length) (hj : j < L.length) (hij : i ≤ j) (hl : lt (pt L[j]) p = true) : lt (pt L[i]) p = true := by
  rcases Nat.lt_or_ge i j with q | q
  · exact lt_trans (List.pairwise_iff_getElem.1 h i j hi hj q) hl
  · obtain rfl : i = j := by omega
    exact hl

set_option maxRecDepth 10000 in
set_option maxHeartbeats 6400000 in
theorem bin_some (b off n c : Nat) (L : List CoinD) (p : PtD) (k : Nat) (f : Bool) (w : World) (hs : Srt L) (hn : n ≤ 4611686018427387903) (hz : L.length = n) (hc : ∀ i (h : i < L.length), CoinAt w b (off + i * 6) L[i])
    (hk : pos p L = k) (hf : hasP p L = f) :
    Calls Tryz.prog 175 #[.slice (some ⟨b, off, none⟩) n c, .agg #[.int .i64 p.1, .int .i64 p.2], .func (.func 176) #[] #[]] w fun e w' => e = .returned (.tuple #[.int .i64 k, .bool f]) ∧ Below w.heap.size w w' := by
  have HS := hide hs
  have HC := hide hc
  have HZ := hide hz
  have HK := hide hk
  have HF := hide hf
  clear hs hc hz hk hf
  obtain ⟨X, hX⟩ : ∃ X, X = w.alloc (.cells #[.int .i64 p.1, .int .i64 p.2] 86) := ⟨_, rfl⟩
  obtain ⟨n0, n1⟩ := two_cells w (.int .i64 p.1) (.int .i64 p.2) 86
  rw [← hX] at n0 n1
  have hbX : Below w.heap.size w X := by rw [hX]; exact bel_new _ _
  have HBX := hide hbX
  have N0 := hide n0
  have N1 := hide n1
  clear n0 n1 hbX
  go_enter Tryz.func175, Tryz.ntmps175
  go_wp2
  rw [← hX]
  clear hX
  go_loopw [9, 10] (fun s9 s10 wr => ∃ lo hi : Nat, s9 = .int .i64 lo ∧ s10 = .int .i64 hi ∧ lo ≤ hi ∧ hi ≤ n ∧ Hid ((∀ t (ht : t < L.length), t < lo → lt (pt L[t]) p = true) ∧ (∀ t (ht : t < L.length), hi ≤ t → lt (pt L[t]) p = false)) ∧ Below X.heap.size X wr) (fun s9 s10 _ => (intOf s10).toNat - (intOf s9).toNat)
  case atStart => exact ⟨0, n, rfl, rfl, Nat.zero_le _, Nat.le_refl _, (⟨fun t _ h => absurd h (by omega), fun t ht h => absurd ht (by rw [unhide HZ]; omega)⟩ : (∀ t (ht : t < L.length), t < 0 → lt (pt L[t]) p = true) ∧ (∀ t (ht : t < L.length), n ≤ t → lt (pt L[t]) p = false)), Below.refl _ _⟩
  case round =>
    obtain ⟨lo, hi, rfl, rfl, hlh, hin, I, hb⟩ := hrel
    have HB := hide hb
    have m0 := cell_later hb (unhide N0)
    have m1 := cell_later hb (unhide N1)
    have hsz := World.block_lt_of_cell? _ _ m0
    by_cases hlt : lo < hi
    · obtain ⟨m, hm⟩ : ∃ m : Nat, m = (lo + hi) / 2 := ⟨_, rfl⟩
      have hmI : ((lo : Int) + (hi : Int)) / 2 = (m : Int) := by omega
      have hmn : m < n := by omega
      have hmn2 : (m : Int) < (n : Int) := by omega
      have hml : m < L.length := by rw [unhide HZ]; exact hmn
      have hin := CoinAt.kept _ _ _ _ _ (bel_on (unhide HBX) hb) ((unhide HC) m hml)
      have I1 : Hid (lt (pt L[m]) p = true → (∀ t (ht : t < L.length), t < m + 1 → lt (pt L[t]) p = true) ∧ (∀ t (ht : t < L.length), hi ≤ t → lt (pt L[t]) p = false)) := fun h => ⟨fun t ht h2 => srt_mono (unhide HS) p t m ht hml (by omega) h, (unhide I).2⟩
      have I2 : Hid (lt (pt L[m]) p = false → (∀ t (ht : t < L.length), t < lo → lt (pt L[t]) p = true) ∧ (∀ t (ht : t < L.length), m ≤ t → lt (pt L[t]) p = false)) := fun h => ⟨(unhide I).1, fun t ht h2 => by
        rw [← Bool.not_eq_true]
        intro q
        rw [srt_mono (unhide HS) p m t hml ht h2 q] at h
        exact Bool.noConfusion h⟩
      obtain ⟨x, hx⟩ : ∃ x, L[m] = x := ⟨_, rfl⟩
      rw [hx] at hin I1 I2
      obtain ⟨a, l, d, g1, g2, g3, g4, g5, g6, _, _⟩ := hin.val
      obtain ⟨z, hz⟩ : ∃ z, cmpP (pt x) p = z := ⟨_, rfl⟩
      have C := hide (fun w => place1_is x a l d p z w hz)
      unfold cnV at C
      have hz2 : z < 0 ↔ lt (pt x) p = true := by rw [← hz]; exact cmpP_lt
      have hml2 : lo ≤ m := by omega
      have hmh : m < hi := by omega
      have HM := hide hm
      clear hin hx hz I hb hm
      by_cases hz0 : z < 0
      · have J := hide ((unhide I1) (hz2.1 hz0))
        clear I1 I2 hz2
        go_wp2_with fail
        go_region_held3 (fun w' => Below wr.heap.size wr w' ∧ w'.cell? ⟨w.heap.size, 0, none⟩ = some (.int .i64 p.1) ∧ w'.cell? ⟨w.heap.size, 1, none⟩ = some (.int .i64 p.2) ∧ w'.cell? ⟨b, off + m * 6, none⟩ = some (.int .i64 x.1) ∧ w'.cell? ⟨b, off + m * 6 + 1, none⟩ = some (.int .i64 x.2.1) ∧ w'.cell? ⟨b, off + m * 6 + 2, none⟩ = some (.int .i64 (cv x)) ∧ w'.cell? ⟨b, off + m * 6 + 3, none⟩ = some (.slice a l d) ∧ w'.cell? ⟨b, off + m * 6 + 4, none⟩ = some (.int .i64 (ch x)) ∧ w'.cell? ⟨b, off + m * 6 + 5, none⟩ = some (.bool (cr x)))
          (first
          | exact ⟨bel_draw1 _, m0, m1, g1, g2, g3, g4, g5, g6⟩
          | (go_split_ands
             refine ⟨bel_on (by assumption) hbc, cell_later hbc (by assumption), cell_later hbc (by assumption), cell_later hbc (by assumption), cell_later hbc (by assumption), cell_later hbc (by assumption), cell_later hbc (by assumption), cell_later hbc (by assumption), cell_later hbc (by assumption)⟩))
          (first | (go_at_call 176; refine ((unhide C) _).mono ?_; rintro e w' ⟨rfl, hbc⟩))
        rename_i hH
        have HH := hide (bel_on (unhide HB) hH.1)
        clear hH
        go_wp2
        go_roundw
        case rel => exact ⟨m + 1, hi, by go_num, rfl, by omega, by omega, J, unhide HH⟩
        case measure => simp [intOf]; omega
      · have J := hide ((unhide I2) (by rw [← Bool.not_eq_true]; intro q; exact hz0 (hz2.2 q)))
        clear I1 I2 hz2
        go_wp2_with fail
        go_region_held3 (fun w' => Below wr.heap.size wr w' ∧ w'.cell? ⟨w.heap.size, 0, none⟩ = some (.int .i64 p.1) ∧ w'.cell? ⟨w.heap.size, 1, none⟩ = some (.int .i64 p.2) ∧ w'.cell? ⟨b, off + m * 6, none⟩ = some (.int .i64 x.1) ∧ w'.cell? ⟨b, off + m * 6 + 1, none⟩ = some (.int .i64 x.2.1) ∧ w'.cell? ⟨b, off + m * 6 + 2, none⟩ = some (.int .i64 (cv x)) ∧ w'.cell? ⟨b, off + m * 6 + 3, none⟩ = some (.slice a l d) ∧ w'.cell? ⟨b, off + m * 6 + 4, none⟩ = some (.int .i64 (ch x)) ∧ w'.cell? ⟨b, off + m * 6 + 5, none⟩ = some (.bool (cr x)))
          (first
          | exact ⟨bel_draw1 _, m0, m1, g1, g2, g3, g4, g5, g6⟩
          | (go_split_ands
             refine ⟨bel_on (by assumption) hbc, cell_later hbc (by assumption), cell_later hbc (by assumption), cell_later hbc (by assumption), cell_later hbc (by assumption), cell_later hbc (by assumption), cell_later hbc (by assumption), cell_later hbc (by assumption), cell_later hbc (by assumption)⟩))
          (first | (go_at_call 176; refine ((unhide C) _).mono ?_; rintro e w' ⟨rfl, hbc⟩))
        rename_i hH
        have HH := hide (bel_on (unhide HB) hH.1)
        clear hH
        go_wp2
        go_roundw
        case rel => exact ⟨lo, m, rfl, by go_num, by omega, by omega, J, unhide HH⟩
        case measure => simp [intOf]; omega
    · have e : lo = hi := by omega
      subst e
      have ek : k = lo := by rw [← unhide HK]; exact pos_bound (unhide HS) p lo (by rw [unhide HZ]; exact hin) (fun t ht h => (unhide I).1 t ht h) (fun t ht h => (unhide I).2 t ht h)
      subst ek
      have hf := hasP_pos (p := p) (unhide HS)
      rw [unhide HF, unhide HK, unhide HZ] at hf
      by_cases hkn : k < n
      · have hkl : k < L.length := by rw [unhide HZ]; exact hkn
        have hkn2 : (k : Int) < (n : Int) := by omega
        have hin2 := CoinAt.kept _ _ _ _ _ (bel_on (unhide HBX) hb) ((unhide HC) k hkl)
        rw [List.getElem?_eq_getElem hkl, Option.map_some] at hf
        obtain ⟨x, hx⟩ : ∃ x, L[k] = x := ⟨_, rfl⟩
        rw [hx] at hin2 hf
        obtain ⟨a, l, d, g1, g2, g3, g4, g5, g6, _, _⟩ := hin2.val
        obtain ⟨z, hz⟩ : ∃ z, cmpP (pt x) p = z := ⟨_, rfl⟩
        have C := hide (fun w => place1_is x a l d p z w hz)
        unfold cnV at C
        have hg : decide ((k : Int) < (n : Int)) = true := decide_eq_true hkn2
        have hfz : Hid (f = decide (z = 0)) := by
          show _ = _
          rw [hf, decide_eq_true hkn, Bool.true_and, ← hz]
          exact decide_eq_decide.2 (by rw [Option.some.injEq, cmpP_eq])
        clear hin2 hx hz hf hb I
        by_cases hz0 : z = 0
        · subst hz0
          have F : Hid (f = true) := by show _ = _; rw [unhide hfz]; rfl
          clear hfz
          go_wp2_with fail
          go_region_held3 (fun w' => Below wr.heap.size wr w' ∧ w'.cell? ⟨w.heap.size, 0, none⟩ = some (.int .i64 p.1) ∧ w'.cell? ⟨w.heap.size, 1, none⟩ = some (.int .i64 p.2) ∧ w'.cell? ⟨b, off + k * 6, none⟩ = some (.int .i64 x.1) ∧ w'.cell? ⟨b, off + k * 6 + 1, none⟩ = some (.int .i64 x.2.1) ∧ w'.cell? ⟨b, off + k * 6 + 2, none⟩ = some (.int .i64 (cv x)) ∧ w'.cell? ⟨b, off + k * 6 + 3, none⟩ = some (.slice a l d) ∧ w'.cell? ⟨b, off + k * 6 + 4, none⟩ = some (.int .i64 (ch x)) ∧ w'.cell? ⟨b, off + k * 6 + 5, none⟩ = some (.bool (cr x)))
            (first
            | exact ⟨bel_draw1 _, m0, m1, g1, g2, g3, g4, g5, g6⟩
            | (go_split_ands
               refine ⟨bel_on (by assumption) hbc, cell_later hbc (by assumption), cell_later hbc (by assumption), cell_later hbc (by assumption), cell_later hbc (by assumption), cell_later hbc (by assumption), cell_later hbc (by assumption), cell_later hbc (by assumption), cell_later hbc (by assumption)⟩))
            (first | (go_at_call 176; refine ((unhide C) _).mono ?_; rintro e w' ⟨rfl, hbc⟩))
          rename_i hH
          have HH := hide (bel_on (unhide HB) hH.1)
          clear hH
          go_wp2
          go_ret2
          exact ⟨by rw [unhide F]; rfl, bel_on (unhide HBX) (unhide HH)⟩
        · have F : Hid (f = false) := by show _ = _; rw [unhide hfz]; exact decide_eq_false hz0
          have gz : (z == 0) = false := by simp [hz0]
          clear hfz
          go_wp2_with fail
          go_region_held3 (fun w' => Below wr.heap.size wr w' ∧ w'.cell? ⟨w.heap.size, 0, none⟩ = some (.int .i64 p.1) ∧ w'.cell? ⟨w.heap.size, 1, none⟩ = some (.int .i64 p.2) ∧ w'.cell? ⟨b, off + k * 6, none⟩ = some (.int .i64 x.1) ∧ w'.cell? ⟨b, off + k * 6 + 1, none⟩ = some (.int .i64 x.2.1) ∧ w'.cell? ⟨b, off + k * 6 + 2, none⟩ = some (.int .i64 (cv x)) ∧ w'.cell? ⟨b, off + k * 6 + 3, none⟩ = some (.slice a l d) ∧ w'.cell? ⟨b, off + k * 6 + 4, none⟩ = some (.int .i64 (ch x)) ∧ w'.cell? ⟨b, off + k * 6 + 5, none⟩ = some (.bool (cr x)))
            (first
            | exact ⟨bel_draw1 _, m0, m1, g1, g2, g3, g4, g5, g6⟩
            | (go_split_ands
               refine ⟨bel_on (by assumption) hbc, cell_later hbc (by assumption), cell_later hbc (by assumption), cell_later hbc (by assumption), cell_later hbc (by assumption), cell_later hbc (by assumption), cell_later hbc (by assumption), cell_later hbc (by assumption), cell_later hbc (by assumption)⟩))
            (first | (go_at_call 176; refine ((unhide C) _).mono ?_; rintro e w' ⟨rfl, hbc⟩))
          rename_i hH
          have HH := hide (bel_on (unhide HB) hH.1)
          clear hH
          go_wp2
          go_ret2
          exact ⟨by rw [unhide F]; rfl, bel_on (unhide HBX) (unhide HH)⟩
      · have F : Hid (f = false) := by show _ = _; rw [hf, decide_eq_false hkn, Bool.false_and]
        have hg : decide ((k : Int) < (n : Int)) = false := decide_eq_false (by omega)
        clear hf hb I
        go_wp2_with fail
        go_quiet (fail)
        go_wp2
        go_ret2
        exact ⟨by rw [unhide F]; rfl, bel_on (unhide HBX) (bel_on (unhide HB) (bel_dw _ _))⟩

set_option maxHeartbeats 800000 in
theorem bin_none (a : Option Addr) (c : Nat) (p : PtD) (v : Value) (w : World) :
    Calls Tryz.prog 175 #[.slice a 0 c, .agg #[.int .i64 p.1, .int .i64 p.2], v] w fun e w' => e = .returned (.tuple #[.int .i64 0, .bool false]) ∧ Below w.heap.size w w' := by
  have HB := hide (bel_new w (.cells #[.int .i64 p.1, .int .i64 p.2] 86))
  go_enter Tryz.func175, Tryz.ntmps175
  go_wp2
  refine wp_loop_rounds 1 ?_
  rw [rounds_succ]
  go_wp2_with fail
  go_quiet (fail)
  go_wp2
  go_ret2
  exact ⟨rfl, bel_on (unhide HB) (bel_dw _ _)⟩

theorem bin_any (a : Option Addr) (n c : Nat) (L : List CoinD) (p : PtD) (k : Nat) (f : Bool) (w : World) (hs : Srt L) (hn : n ≤ 4611686018427387903) (h : CoinsAt w a n L) (hk : pos p L = k) (hf : hasP p L = f) :
    Calls Tryz.prog 175 #[.slice a n c, .agg #[.int .i64 p.1, .int .i64 p.2], .func (.func 176) #[] #[]] w fun e w' => e = .returned (.tuple #[.int .i64 k, .bool f]) ∧ Below w.heap.size w w' := by
  obtain ⟨hl, hc⟩ := h
  by_cases h2 : n = 0
  · subst h2
    have e : L = [] := List.length_eq_zero_iff.1 hl
    subst e
    subst hk hf
    exact bin_none a c p _ w
  · obtain ⟨b, off, rfl, _, hcell⟩ := hc (by omega)
    exact bin_some b off n c L p k f w hs hn hl hcell hk hf

set_option maxHeartbeats 800000 in
theorem place_any (a : Option Addr) (n c : Nat) (L : List CoinD) (p : PtD) (k : Nat) (f : Bool) (w : World) (hs : Srt L) (hn : n ≤ 4611686018427387903) (h : CoinsAt w a n L) (hk : pos p L = k) (hf : hasP p L = f) :
    Calls Tryz.prog 141 #[.slice a n c, .agg #[.int .i64 p.1, .int .i64 p.2]] w fun e w' => e = .returned (.tuple #[.int .i64 k, .bool f]) ∧ Below w.heap.size w w' := by
  have hb := bel_new w (.cells #[.int .i64 p.1, .int .i64 p.2] 86)
  have HB := hide hb
  have C := hide (bin_any a n c L p k f _ hs hn (h.later hb) hk hf)
  clear hs h hk hf hb
  go_enter Tryz.func141, Tryz.ntmps141
  go_wp2_with fail
  refine (unhide C).mono ?_
  rintro e w2 ⟨rfl, hb2⟩
  have HB2 := hide (bel_on (unhide HB) hb2)
  clear hb2
  go_wp2
  go_ret2
  exact ⟨rfl, unhide HB2⟩

end Go.Proofs.YtepmnpapdknocaaGreatDoor
