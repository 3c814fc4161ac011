/- The contract of place: where a point stands among coins that are in order. -/
import Derived.Test.YtmomfkikogbdeaaGreatDoorCoinMemToCoinCheckB
import Derived.Test.YtmomfkikogbdeaaGreatDoorCoinInsertBToCoinGr
import Derived.Test.YtmomfkikogbdeaaGreatDoorTxCheckCToCoinMath
namespace Go.Proofs.YtmomfkikogbdeaaGreatDoor
open Go.RowKit

set_option maxRecDepth 10000 in
set_option maxHeartbeats 800000 in
theorem place1_is (x : CoinD) (a : Option Addr) (n c : Nat) (p : PtD) (z : Int) (w : World) (hz : cmpP (pt x) p = z) :
    Calls Tryz.prog 279 #[cnV x a n c, .agg #[.int .i64 p.1, .int .i64 p.2]] w fun e w' => e = .returned (.int .i64 z) ∧ Below w.heap.size w w' := by
  unfold cnV
  have HB := hide (bel_on (bel_new w (.cells #[.int .i64 x.1, .int .i64 x.2.1, .int .i64 (cv x), .slice a n c, .int .i64 (ch x), .bool (cr x)] 124)) (bel_new _ (.cells #[.int .i64 p.1, .int .i64 p.2] 117)))
  have C := hide (fun w => compare_is (pt x) p z w hz)
  unfold pt at C
  clear hz
  go_enter Tryz.func279, Tryz.ntmps279
  go_wp2_with fail
  refine ((unhide C) _).mono ?_
  rintro e w2 ⟨rfl, hb2⟩
  have HB2 := hide (bel_on (unhide HB) hb2)
  clear hb2
  go_wp2
  go_ret
  exact ⟨rfl, unhide HB2⟩

theorem pos_bound {L : List CoinD} (h : Srt L) (p : PtD) (i : Nat) (hi : i ≤ L.length) (h1 : ∀ t (ht : t < L.length), t < i → lt (pt L[t]) p = true) (h2 : ∀ t (ht : t < L.length), i ≤ t → lt (pt L[t]) p = false) : pos p L = i := by
  obtain ⟨e1, _⟩ := pos_split (p := p) h
  have hl := pos_le p L
  rcases Nat.lt_trichotomy (pos p L) i with q | q | q
  · have := h1 (pos p L) (by omega) q
    have hm : L[pos p L]'(by omega) ∈ L.drop (pos p L) := by rw [List.drop_eq_getElem_cons (by omega)]; exact List.mem_cons_self ..
    rw [(pos_split (p := p) h).2, List.mem_filter] at hm
    rw [this] at hm
    exact absurd hm.2 (by decide)
  · exact q
  · have := h2 i (by omega) (Nat.le_refl _)
    have hm : L[i]'(by omega) ∈ L.take (pos p L) := by
      rw [List.mem_take_iff_getElem]
      exact ⟨i, by omega, rfl⟩
    rw [e1, List.mem_filter, this] at hm
    exact absurd hm.2 (by decide)
theorem srt_mono {L : List CoinD} (h : Srt L) (p : PtD) (i j : Nat) (hi : i < L.length) (hj : j < L.length) (hij : i ≤ j) (hl : lt (pt L[j]) p = true) : lt (pt L[i]) p = true := by
  rcases Nat.lt_or_ge i j with q | q
  · exact lt_trans (List.pairwise_iff_getElem.1 h i j hi hj q) hl
  · obtain rfl : i = j := by omega
    exact hl

set_option maxRecDepth 10000 in
set_option maxHeartbeats 6400000 in
theorem bin_some (b off n c : Nat) (L : List CoinD) (p : PtD) (k : Nat) (f : Bool) (w : World) (hs : Srt L) (hn : n ≤ 4611686018427387903) (hz : L.length = n) (hc : ∀ i (h : i < L.length), CoinAt w b (off + i * 6) L[i])
    (hk : pos p L = k) (hf : hasP p L = f) :
    Calls Tryz.prog 278 #[.slice (some ⟨b, off, none⟩) n c, .agg #[.int .i64 p.1, .int .i64 p.2], .func (.func 279) #[] #[]] w fun e w' => e = .returned (.tuple #[.int .i64 k, .bool f]) ∧ Below w.heap.size w w' := by
  have HS := hide hs
  have HC := hide hc
  have HZ := hide hz
  have HK := hide hk
  have HF := hide hf
  clear hs hc hz hk hf
  obtain ⟨X, hX⟩ : ∃ X, X = w.alloc (.cells #[.int .i64 p.1, .int .i64 p.2] 117) := ⟨_, rfl⟩
  obtain ⟨n0, n1⟩ := two_cells w (.int .i64 p.1) (.int .i64 p.2) 117
  rw [← hX] at n0 n1
  have hbX : Below w.heap.size w X := by rw [hX]; exact bel_new _ _
  have HBX := hide hbX
  have N0 := hide n0
  have N1 := hide n1
  clear n0 n1 hbX
  go_enter Tryz.func278, Tryz.ntmps278
  go_wp2
  rw [← hX]
  clear hX
  go_loopw [9, 10] (fun s9 s10 wr => ∃ lo hi : Nat, s9 = .int .i64 lo ∧ s10 = .int .i64 hi ∧ lo ≤ hi ∧ hi ≤ n ∧ Hid ((∀ t (ht : t < L.length), t < lo → lt (pt L[t]) p = true) ∧ (∀ t (ht : t < L.length), hi ≤ t → lt (pt L[t]) p = false)) ∧ Below X.heap.size X wr) (fun s9 s10 _ => (intOf s10).toNat - (intOf s9).toNat)
  case atStart => exact ⟨0, n, rfl, rfl, Nat.zero_le _, Nat.le_refl _, (⟨fun t _ h => absurd h (by omega), fun t ht h => absurd ht (by rw [unhide HZ]; omega)⟩ : (∀ t (ht : t < L.length), t < 0 → lt (pt L[t]) p = true) ∧ (∀ t (ht : t < L.length), n ≤ t → lt (pt L[t]) p = false)), Below.refl _ _⟩
  case round =>
    obtain ⟨lo, hi, rfl, rfl, hlh, hin, I, hb⟩ := hrel
    have HB := hide hb
    have m0 := cell_later hb (unhide N0)
    have m1 := cell_later hb (unhide N1)
    have hsz := World.block_lt_of_cell? _ _ m0
    by_cases hlt : lo < hi
    · obtain ⟨m, hm⟩ : ∃ m : Nat, m = (lo + hi) / 2 := ⟨_, rfl⟩
      have hmI : ((lo : Int) + (hi : Int)) / 2 = (m : Int) := by omega
      have hmn : m < n := by omega
      have hmn2 : (m : Int) < (n : Int) := by omega
      have hml : m < L.length := by rw [unhide HZ]; exact hmn
      have hin := CoinAt.kept _ _ _ _ _ (bel_on (unhide HBX) hb) ((unhide HC) m hml)
      have I1 : Hid (lt (pt L[m]) p = true → (∀ t (ht : t < L.length), t < m + 1 → lt (pt L[t]) p = true) ∧ (∀ t (ht : t < L.length), hi ≤ t → lt (pt L[t]) p = false)) := fun h => ⟨fun t ht h2 => srt_mono (unhide HS) p t m ht hml (by omega) h, (unhide I).2⟩
      have I2 : Hid (lt (pt L[m]) p = false → (∀ t (ht : t < L.length), t < lo → lt (pt L[t]) p = true) ∧ (∀ t (ht : t < L.length), m ≤ t → lt (pt L[t]) p = false)) := fun h => ⟨(unhide I).1, fun t ht h2 => by
        rw [← Bool.not_eq_true]
        intro q
        rw [srt_mono (unhide HS) p m t hml ht h2 q] at h
        exact Bool.noConfusion h⟩
      obtain ⟨x, hx⟩ : ∃ x, L[m] = x := ⟨_, rfl⟩
      rw [hx] at hin I1 I2
      obtain ⟨a, l, d, g1, g2, g3, g4, g5, g6, _, _⟩ := hin.val
      obtain ⟨z, hz⟩ : ∃ z, cmpP (pt x) p = z := ⟨_, rfl⟩
      have C := hide (fun w => place1_is x a l d p z w hz)
      unfold cnV at C
      have hz2 : z < 0 ↔ lt (pt x) p = true := by rw [← hz]; exact cmpP_lt
      have hml2 : lo ≤ m := by omega
      have hmh : m < hi := by omega
      have HM := hide hm
      clear hin hx hz I hb hm
      by_cases hz0 : z < 0
      · have J := hide ((unhide I1) (hz2.1 hz0))
        clear I1 I2 hz2
        go_wp2_with fail
        go_region_held3 (fun w' => Below wr.heap.size wr w' ∧ w'.cell? ⟨w.heap.size, 0, none⟩ = some (.int .i64 p.1) ∧ w'.cell? ⟨w.heap.size, 1, none⟩ = some (.int .i64 p.2) ∧ w'.cell? ⟨b, off + m * 6, none⟩ = some (.int .i64 x.1) ∧ w'.cell? ⟨b, off + m * 6 + 1, none⟩ = some (.int .i64 x.2.1) ∧ w'.cell? ⟨b, off + m * 6 + 2, none⟩ = some (.int .i64 (cv x)) ∧ w'.cell? ⟨b, off + m * 6 + 3, none⟩ = some (.slice a l d) ∧ w'.cell? ⟨b, off + m * 6 + 4, none⟩ = some (.int .i64 (ch x)) ∧ w'.cell? ⟨b, off + m * 6 + 5, none⟩ = some (.bool (cr x)))
          (first
          | exact ⟨bel_draw1 _, m0, m1, g1, g2, g3, g4, g5, g6⟩
          | (go_split_ands
             refine ⟨bel_on (by assumption) hbc, cell_later hbc (by assumption), cell_later hbc (by assumption), cell_later hbc (by assumption), cell_later hbc (by assumption), cell_later hbc (by assumption), cell_later hbc (by assumption), cell_later hbc (by assumption), cell_later hbc (by assumption)⟩))
          (first | (go_at_call 279; refine ((unhide C) _).mono ?_; rintro e w' ⟨rfl, hbc⟩))
        rename_i hH
        have HH := hide (bel_on (unhide HB) hH.1)
        clear hH
        go_wp2
        go_roundw
        case rel => exact ⟨m + 1, hi, by go_num, rfl, by omega, by omega, J, unhide HH⟩
        case measure => simp [intOf]; omega
      · have J := hide ((unhide I2) (by rw [← Bool.not_eq_true]; intro q; exact hz0 (hz2.2 q)))
        clear I1 I2 hz2
        go_wp2_with fail
        go_region_held3 (fun w' => Below wr.heap.size wr w' ∧ w'.cell? ⟨w.heap.size, 0, none⟩ = some (.int .i64 p.1) ∧ w'.cell? ⟨w.heap.size, 1, none⟩ = some (.int .i64 p.2) ∧ w'.cell? ⟨b, off + m * 6, none⟩ = some (.int .i64 x.1) ∧ w'.cell? ⟨b, off + m * 6 + 1, none⟩ = some (.int .i64 x.2.1) ∧ w'.cell? ⟨b, off + m * 6 + 2, none⟩ = some (.int .i64 (cv x)) ∧ w'.cell? ⟨b, off + m * 6 + 3, none⟩ = some (.slice a l d) ∧ w'.cell? ⟨b, off + m * 6 + 4, none⟩ = some (.int .i64 (ch x)) ∧ w'.cell? ⟨b, off + m * 6 + 5, none⟩ = some (.bool (cr x)))
          (first
          | exact ⟨bel_draw1 _, m0, m1, g1, g2, g3, g4, g5, g6⟩
          | (go_split_ands
             refine ⟨bel_on (by assumption) hbc, cell_later hbc (by assumption), cell_later hbc (by assumption), cell_later hbc (by assumption), cell_later hbc (by assumption), cell_later hbc (by assumption), cell_later hbc (by assumption), cell_later hbc (by assumption), cell_later hbc (by assumption)⟩))
          (first | (go_at_call 279; refine ((unhide C) _).mono ?_; rintro e w' ⟨rfl, hbc⟩))
        rename_i hH
        have HH := hide (bel_on (unhide HB) hH.1)
        clear hH
        go_wp2
        go_roundw
        case rel => exact ⟨lo, m, rfl, by go_num, by omega, by omega, J, unhide HH⟩
        case measure => simp [intOf]; omega
    · have e : lo = hi := by omega
      subst e
      have ek : k = lo := by rw [← unhide HK]; exact pos_bound (unhide HS) p lo (by rw [unhide HZ]; exact hin) (fun t ht h => (unhide I).1 t ht h) (fun t ht h => (unhide I).2 t ht h)
      subst ek
      have hf := hasP_pos (p := p) (unhide HS)
      rw [unhide HF, unhide HK, unhide HZ] at hf
      by_cases hkn : k < n
      · have hkl : k < L.length := by rw [unhide HZ]; exact hkn
        have hkn2 : (k : Int) < (n : Int) := by omega
        have hin2 := CoinAt.kept _ _ _ _ _ (bel_on (unhide HBX) hb) ((unhide HC) k hkl)
        rw [List.getElem?_eq_getElem hkl, Option.map_some] at hf
        obtain ⟨x, hx⟩ : ∃ x, L[k] = x := ⟨_, rfl⟩
        rw [hx] at hin2 hf
        obtain ⟨a, l, d, g1, g2, g3, g4, g5, g6, _, _⟩ := hin2.val
        obtain ⟨z, hz⟩ : ∃ z, cmpP (pt x) p = z := ⟨_, rfl⟩
        have C := hide (fun w => place1_is x a l d p z w hz)
        unfold cnV at C
        have hg : decide ((k : Int) < (n : Int)) = true := decide_eq_true hkn2
        have hfz : Hid (f = decide (z = 0)) := by
          show _ = _
          rw [hf, decide_eq_true hkn, Bool.true_and, ← hz]
          exact decide_eq_decide.2 (by rw [Option.some.injEq, cmpP_eq])
        clear hin2 hx hz hf hb I
        by_cases hz0 : z = 0
        · subst hz0
          have F : Hid (f = true) := by show _ = _; rw [unhide hfz]; rfl
          clear hfz
          go_wp2_with fail
          go_region_held3 (fun w' => Below wr.heap.size wr w' ∧ w'.cell? ⟨w.heap.size, 0, none⟩ = some (.int .i64 p.1) ∧ w'.cell? ⟨w.heap.size, 1, none⟩ = some (.int .i64 p.2) ∧ w'.cell? ⟨b, off + k * 6, none⟩ = some (.int .i64 x.1) ∧ w'.cell? ⟨b, off + k * 6 + 1, none⟩ = some (.int .i64 x.2.1) ∧ w'.cell? ⟨b, off + k * 6 + 2, none⟩ = some (.int .i64 (cv x)) ∧ w'.cell? ⟨b, off + k * 6 + 3, none⟩ = some (.slice a l d) ∧ w'.cell? ⟨b, off + k * 6 + 4, none⟩ = some (.int .i64 (ch x)) ∧ w'.cell? ⟨b, off + k * 6 + 5, none⟩ = some (.bool (cr x)))
            (first
            | exact ⟨bel_draw1 _, m0, m1, g1, g2, g3, g4, g5, g6⟩
            | (go_split_ands
               refine ⟨bel_on (by assumption) hbc, cell_later hbc (by assumption), cell_later hbc (by assumption), cell_later hbc (by assumption), cell_later hbc (by assumption), cell_later hbc (by assumption), cell_later hbc (by assumption), cell_later hbc (by assumption), cell_later hbc (by assumption)⟩))
            (first | (go_at_call 279; refine ((unhide C) _).mono ?_; rintro e w' ⟨rfl, hbc⟩))
          rename_i hH
          have HH := hide (bel_on (unhide HB) hH.1)
          clear hH
          go_wp2
          go_ret2
          exact ⟨by rw [unhide F]; rfl, bel_on (unhide HBX) (unhide HH)⟩
        · have F : Hid (f = false) := by show _ = _; rw [unhide hfz]; exact decide_eq_false hz0
          have gz : (z == 0) = false := by simp [hz0]
          clear hfz
          go_wp2_with fail
          go_region_held3 (fun w' => Below wr.heap.size wr w' ∧ w'.cell? ⟨w.heap.size, 0, none⟩ = some (.int .i64 p.1) ∧ w'.cell? ⟨w.heap.size, 1, none⟩ = some (.int .i64 p.2) ∧ w'.cell? ⟨b, off + k * 6, none⟩ = some (.int .i64 x.1) ∧ w'.cell? ⟨b, off + k * 6 + 1, none⟩ = some (.int .i64 x.2.1) ∧ w'.cell? ⟨b, off + k * 6 + 2, none⟩ = some (.int .i64 (cv x)) ∧ w'.cell? ⟨b, off + k * 6 + 3, none⟩ = some (.slice a l d) ∧ w'.cell? ⟨b, off + k * 6 + 4, none⟩ = some (.int .i64 (ch x)) ∧ w'.cell? ⟨b, off + k * 6 + 5, none⟩ = some (.bool (cr x)))
            (first
            | exact ⟨bel_draw1 _, m0, m1, g1, g2, g3, g4, g5, g6⟩
            | (go_split_ands
               refine ⟨bel_on (by assumption) hbc, cell_later hbc (by assumption), cell_later hbc (by assumption), cell_later hbc (by assumption), cell_later hbc (by assumption), cell_later hbc (by assumption), cell_later hbc (by assumption), cell_later hbc (by assumption), cell_later hbc (by assumption)⟩))
            (first | (go_at_call 279; refine ((unhide C) _).mono ?_; rintro e w' ⟨rfl, hbc⟩))
          rename_i hH
          have HH := hide (bel_on (unhide HB) hH.1)
          clear hH
          go_wp2
          go_ret2
          exact ⟨by rw [unhide F]; rfl, bel_on (unhide HBX) (unhide HH)⟩
      · have F : Hid (f = false) := by show _ = _; rw [hf, decide_eq_false hkn, Bool.false_and]
        have hg : decide ((k : Int) < (n : Int)) = false := decide_eq_false (by omega)
        clear hf hb I
        go_wp2_with fail
        go_quiet (fail)
        go_wp2
        go_ret2
        exact ⟨by rw [unhide F]; rfl, bel_on (unhide HBX) (bel_on (unhide HB) (bel_dw _ _))⟩

set_option maxHeartbeats 800000 in
theorem bin_none (a : Option Addr) (c : Nat) (p : PtD) (v : Value) (w : World) :
    Calls Tryz.prog 278 #[.slice a 0 c, .agg #[.int .i64 p.1, .int .i64 p.2], v] w fun e w' => e = .returned (.tuple #[.int .i64 0, .bool false]) ∧ Below w.heap.size w w' := by
  have HB := hide (bel_new w (.cells #[.int .i64 p.1, .int .i64 p.2] 117))
  go_enter Tryz.func278, Tryz.ntmps278
  go_wp2
  refine wp_loop_rounds 1 ?_
  rw [rounds_succ]
  go_wp2_with fail
  go_quiet (fail)
  go_wp2
  go_ret2
  exact ⟨rfl, bel_on (unhide HB) (bel_dw _ _)⟩

theorem bin_any (a : Option Addr) (n c : Nat) (L : List CoinD) (p : PtD) (k : Nat) (f : Bool) (w : World) (hs : Srt L) (hn : n ≤ 4611686018427387903) (h : CoinsAt w a n L) (hk : pos p L = k) (hf : hasP p L = f) :
    Calls Tryz.prog 278 #[.slice a n c, .agg #[.int .i64 p.1, .int .i64 p.2], .func (.func 279) #[] #[]] w fun e w' => e = .returned (.tuple #[.int .i64 k, .bool f]) ∧ Below w.heap.size w w' := by
  obtain ⟨hl, hc⟩ := h
  by_cases h2 : n = 0
  · subst h2
    have e : L = [] := List.length_eq_zero_iff.1 hl
    subst e
    subst hk hf
    exact bin_none a c p _ w
  · obtain ⟨b, off, rfl, _, hcell⟩ := hc (by omega)
    exact bin_some b off n c L p k f w hs hn hl hcell hk hf

set_option maxHeartbeats 800000 in
theorem place_any (a : Option Addr) (n c : Nat) (L : List CoinD) (p : PtD) (k : Nat) (f : Bool) (w : World) (hs : Srt L) (hn : n ≤ 4611686018427387903) (h : CoinsAt w a n L) (hk : pos p L = k) (hf : hasP p L = f) :
    Calls Tryz.prog 250 #[.slice a n c, .agg #[.int .i64 p.1, .int .i64 p.2]] w fun e w' => e = .returned (.tuple #[.int .i64 k, .bool f]) ∧ Below w.heap.size w w' := by
  have hb := bel_new w (.cells #[.int .i64 p.1, .int .i64 p.2] 117)
  have HB := hide hb
  have C := hide (bin_any a n c L p k f _ hs hn (h.later hb) hk hf)
  clear hs h hk hf hb
  go_enter Tryz.func250, Tryz.ntmps250
  go_wp2_with fail
  refine (unhide C).mono ?_
  rintro e w2 ⟨rfl, hb2⟩
  have HB2 := hide (bel_on (unhide HB) hb2)
  clear hb2
  go_wp2
  go_ret2
  exact ⟨rfl, unhide HB2⟩

end Go.Proofs.YtmomfkikogbdeaaGreatDoor

/- The contract of take: the coin of a point, which isn't there any more. -/
namespace Go.Proofs.YtmomfkikogbdeaaGreatDoor
open Go.RowKit

theorem results_cell_tmp1 {fn : Func} {p u : Tmp} {ty : TypeId} (h : fn.results = #[.cell p ty, .tmp u]) (tmps : Array Value) (P : Program) (w : World) :
    (results fn tmps).run P w =
      ((asAddr (tmps.getD p undef)).run P w).andThen fun a w₁ => ((loadVar ty a).run P w₁).andThen fun x w₂ => .ok (.tuple #[x, tmps.getD u undef]) w₂ := by
  simp only [results, h]
  simp [Sem.run_bind, Result.andThen]

set_option maxRecDepth 10000 in
set_option maxHeartbeats 3200000 in
theorem ptake_none (w0 w : World) (p : Nat) (v : Value) (K : List CV) (q : PtD) (h : Pu w0 w p v K) (hs : Srt (K.map (·.1))) (hn : K.length ≤ 4096) (hf : hasP q (K.map (·.1)) = false) :
    Calls Tryz.prog 205 #[.pointer (some ⟨p, 0, none⟩), .agg #[.int .i64 q.1, .int .i64 q.2]] w fun e w' => e = .returned (.tuple #[zeroC, .bool false]) ∧ Below w.heap.size w w' := by
  obtain ⟨a, c, rfl, hC, hS⟩ := h.coins
  obtain ⟨n, hn'⟩ : ∃ n, K.length = n := ⟨_, rfl⟩
  obtain ⟨k, hk⟩ : ∃ k, pos q (K.map (·.1)) = k := ⟨_, rfl⟩
  have hbox := h.box
  rw [hn'] at hC hbox hn
  obtain ⟨X, hX⟩ : ∃ X, X = (w.alloc (.cells #[.int .i64 q.1, .int .i64 q.2] 117)).alloc (.cells #[.int .i64 0, .int .i64 0, .int .i64 0, .slice none 0 0, .int .i64 0, .bool false] 124) := ⟨_, rfl⟩
  have hbX : Below w.heap.size w X := by rw [hX]; exact bel_on (bel_new _ _) (bel_new _ _)
  have hX1 : X.heap[w.heap.size + 1]? = some (.cells zeroCs.toArray 124 (0, 0)) := by
    rw [hX]
    have := heap_alloc_new (w.alloc (.cells #[.int .i64 q.1, .int .i64 q.2] 117)) (.cells zeroCs.toArray 124)
    rw [show (w.alloc (.cells #[.int .i64 q.1, .int .i64 q.2] 117)).heap.size = w.heap.size + 1 by simp] at this
    exact this
  have x0 : X.cell? ⟨w.heap.size, 0, none⟩ = some (.int .i64 q.1) := by rw [hX]; exact cell_later (bel_new _ _) (two_cells w _ _ _).1
  have x1 : X.cell? ⟨w.heap.size, 1, none⟩ = some (.int .i64 q.2) := by rw [hX]; exact cell_later (bel_new _ _) (two_cells w _ _ _).2
  have xp : X.cell? ⟨p, 0, none⟩ = some (.slice a n c) := cell_later hbX (cell_of (X := [.slice a n c]) hbox 0 _ rfl)
  have PL := hide (fun w' (hb : Below X.heap.size X w') => place_any a n c (K.map (·.1)) q k false w' hs (by omega) ((hC.later hbX).later hb) hk hf)
  have HBX := hide hbX
  have HX1 := hide hX1
  clear hk hf hC hS hs hbox hbX hX1 h hn'
  go_enter Tryz.func205, Tryz.ntmps205
  go_wp2_with fail
  rw [← hX]
  clear hX
  go_region_held3 (fun w' => Below X.heap.size X w' ∧ w'.cell? ⟨w.heap.size, 0, none⟩ = some (.int .i64 q.1) ∧ w'.cell? ⟨w.heap.size, 1, none⟩ = some (.int .i64 q.2) ∧ w'.cell? ⟨p, 0, none⟩ = some (.slice a n c))
    (first
    | exact ⟨bel_draw1 _, x0, x1, xp⟩
    | (go_split_ands
       refine ⟨bel_on (by assumption) hbc, cell_later hbc (by assumption), cell_later hbc (by assumption), cell_later hbc (by assumption)⟩))
    (first | (go_at_call 250; go_split_ands; refine ((unhide PL) _ (by assumption)).mono ?_; rintro e w' ⟨rfl, hbc⟩))
  rename_i hH
  have hh := (hH.1.block _ (lt_of_block (unhide HX1))).trans (unhide HX1)
  have HB := hide (bel_on (unhide HBX) hH.1)
  have f0 := frozen_of hh 0
  have f1 := frozen_of hh 1
  have f2 := frozen_of hh 2
  have f3 := frozen_of hh 3
  have f4 := frozen_of hh 4
  have f5 := frozen_of hh 5
  have c0 := cell_of hh 0 _ rfl
  have c1 := cell_of hh 1 _ rfl
  have c2 := cell_of hh 2 _ rfl
  have c3 := cell_of hh 3 _ rfl
  have c4 := cell_of hh 4 _ rfl
  have c5 := cell_of hh 5 _ rfl
  clear hh hH
  go_wp2
  (try simp only [Exit.inBlock, Exit.then])
  refine bodyPost_ret (v := .tuple #[zeroC, .bool false]) ?_ rfl ⟨rfl, ?_⟩
  · rw [results_cell_tmp1 rfl]
    unfold zeroC
    go_simp
  · exact ((((((unhide HB).setCell (Nat.le_succ _) _).setCell (Nat.le_succ _) _).setCell (Nat.le_succ _) _).setCell (Nat.le_succ _) _).setCell (Nat.le_succ _) _).setCell (Nat.le_succ _) _

theorem box_set {w : World} {p : Nat} {v u : Value} {t : TypeId} (h : w.heap[p]? = some (.cells #[v] t (0, 0))) : (w.setCell ⟨p, 0, none⟩ u).heap[p]? = some (.cells #[u] t (0, 0)) := by
  rw [setCell_eq_setRow w p 0 #[v] t (0, 0) u h]
  exact setRow_heap w p _ _ t _ h
theorem list_at (K : List CV) (k : Nat) (h : k < K.length) : (K.map (·.1))[k]'(by simpa using h) = K[k].1 := by simp
theorem six_heap (w : World) (a b c d e f : Value) (t : TypeId) : (w.alloc (.cells #[a, b, c, d, e, f] t)).heap[w.heap.size]? = some (.cells [a, b, c, d, e, f].toArray t (0, 0)) := heap_alloc_new w _

set_option maxRecDepth 10000 in
set_option maxHeartbeats 6400000 in
theorem ptake_some (w0 w : World) (p : Nat) (v : Value) (K : List CV) (q : PtD) (h : Pu w0 w p v K) (hs : Srt (K.map (·.1))) (hn : K.length ≤ 4096) (hf : hasP q (K.map (·.1)) = true) :
    Calls Tryz.prog 205 #[.pointer (some ⟨p, 0, none⟩), .agg #[.int .i64 q.1, .int .i64 q.2]] w fun e w' => ∃ (x : CV) (v' : Value) (K' : List CV), e = .returned (.tuple #[cnV x.1 x.2.1 x.2.2.1 x.2.2.2, .bool true]) ∧ takeD q (K.map (·.1)) = some (x.1, K'.map (·.1)) ∧ x ∈ K ∧ (∀ y ∈ K', y ∈ K) ∧ K'.length + 1 = K.length ∧
      Pu w0 w' p v' K' ∧ Gr w w' (PuS p v) ∧ v'.ownBlock = v.ownBlock := by
  have hO := h.own
  obtain ⟨k, hk⟩ : ∃ k, pos q (K.map (·.1)) = k := ⟨_, rfl⟩
  have hp := hasP_pos (p := q) hs
  rw [hf, hk] at hp
  have hp2 := Eq.symm hp
  rw [Bool.and_eq_true, decide_eq_true_eq, decide_eq_true_eq, List.length_map] at hp2
  obtain ⟨hkl, hke⟩ := hp2
  have hke2 : pt ((K.map (·.1))[k]'(by simpa using hkl)) = q := by
    rw [List.getElem?_eq_getElem (by simpa using hkl), Option.map_some, Option.some.injEq] at hke; exact hke
  have hT := takeD_at (p := q) hs (by rw [hk]; simpa using hkl) (by simp only [hk]; exact hke2)
  simp only [hk] at hT
  rw [list_at K k hkl, ← List.map_take, ← List.map_drop, ← List.map_append] at hT
  obtain ⟨a, c, rfl, hC, hS⟩ := h.coins
  obtain ⟨g, rfl⟩ : ∃ g, a = some ⟨g, 0, none⟩ := by
    rcases hO.2 with ⟨_, e⟩ | ⟨g, _, _, e, _⟩
    · omega
    · simp only [Value.slice.injEq] at e; exact ⟨g, e.1⟩
  obtain ⟨n, hn'⟩ : ∃ n, K.length = n := ⟨_, rfl⟩
  have hbox := h.box
  have hgp : g ≠ p := fun e => h.ne (by rw [e]; rfl)
  have hbg : w0.heap.size ≤ g := own_lo hO g rfl
  obtain ⟨x, hx⟩ : ∃ x, K[k] = x := ⟨_, rfl⟩
  have hxm : x ∈ K := by rw [← hx]; exact List.getElem_mem hkl
  obtain ⟨f0, f1, f2, f3, f4, f5⟩ := flatC_at K k hkl
  rw [hx] at f0 f1 f2 f3 f4 f5 hT
  rw [hn'] at hC hbox hn hkl hO
  have cg : ∀ j u, j < n * 6 → (flatC K)[j]? = some u → w.cell? ⟨g, j, none⟩ = some u := fun j u hj hu => by rw [World.ownsRow.cellAt hO j hj]; exact hu
  obtain ⟨X, hX⟩ : ∃ X, X = (w.alloc (.cells #[.int .i64 q.1, .int .i64 q.2] 117)).alloc (.cells #[.int .i64 0, .int .i64 0, .int .i64 0, .slice none 0 0, .int .i64 0, .bool false] 124) := ⟨_, rfl⟩
  have hbX : Below w.heap.size w X := by rw [hX]; exact bel_on (bel_new _ _) (bel_new _ _)
  have hX1 : X.heap[w.heap.size + 1]? = some (.cells zeroCs.toArray 124 (0, 0)) := by
    rw [hX]
    have := heap_alloc_new (w.alloc (.cells #[.int .i64 q.1, .int .i64 q.2] 117)) (.cells zeroCs.toArray 124)
    rw [show (w.alloc (.cells #[.int .i64 q.1, .int .i64 q.2] 117)).heap.size = w.heap.size + 1 by simp] at this
    exact this
  have x0 : X.cell? ⟨w.heap.size, 0, none⟩ = some (.int .i64 q.1) := by rw [hX]; exact cell_later (bel_new _ _) (two_cells w _ _ _).1
  have x1 : X.cell? ⟨w.heap.size, 1, none⟩ = some (.int .i64 q.2) := by rw [hX]; exact cell_later (bel_new _ _) (two_cells w _ _ _).2
  have xp : X.cell? ⟨p, 0, none⟩ = some (.slice (some ⟨g, 0, none⟩) n c) := cell_later hbX (cell_of (X := [.slice (some ⟨g, 0, none⟩) n c]) hbox 0 _ rfl)
  have PL := hide (fun w' (hb : Below X.heap.size X w') => place_any (some ⟨g, 0, none⟩) n c (K.map (·.1)) q k true w' hs (by omega) ((hC.later hbX).later hb) hk hf)
  have D0 := hide (cg _ _ (by omega) f0)
  have D1 := hide (cg _ _ (by omega) f1)
  have D2 := hide (cg _ _ (by omega) f2)
  have D3 := hide (cg _ _ (by omega) f3)
  have D4 := hide (cg _ _ (by omega) f4)
  have D5 := hide (cg _ _ (by omega) f5)
  have HBX := hide hbX
  have HX1 := hide hX1
  have HO := hide hO
  have HT := hide hT
  have HP := hide h
  have HBOX := hide hbox
  have HXM := hide hxm
  have HN' := hide hn'
  have hpw : p < w.heap.size := h.lt
  have hgw : g < w.heap.size := (hO.lt g rfl).2
  clear hk hf hC hS hs hbox hbX hX1 h hO hT hke hke2 hp f0 f1 f2 f3 f4 f5 cg hx hxm hn'
  go_enter Tryz.func205, Tryz.ntmps205
  go_wp2_with fail
  rw [← hX]
  clear hX
  go_region_held3 (fun w' => Below X.heap.size X w' ∧ w'.cell? ⟨w.heap.size, 0, none⟩ = some (.int .i64 q.1) ∧ w'.cell? ⟨w.heap.size, 1, none⟩ = some (.int .i64 q.2) ∧ w'.cell? ⟨p, 0, none⟩ = some (.slice (some ⟨g, 0, none⟩) n c))
    (first
    | exact ⟨bel_draw1 _, x0, x1, xp⟩
    | (go_split_ands
       refine ⟨bel_on (by assumption) hbc, cell_later hbc (by assumption), cell_later hbc (by assumption), cell_later hbc (by assumption)⟩))
    (first | (go_at_call 250; go_split_ands; refine ((unhide PL) _ (by assumption)).mono ?_; rintro e w' ⟨rfl, hbc⟩))
  rename_i hH
  have hb2 := bel_on (unhide HBX) hH.1
  have hh2 := (hH.1.block _ (lt_of_block (unhide HX1))).trans (unhide HX1)
  have d0 := cell_later hb2 (unhide D0)
  have d1 := cell_later hb2 (unhide D1)
  have d2 := cell_later hb2 (unhide D2)
  have d3 := cell_later hb2 (unhide D3)
  have d4 := cell_later hb2 (unhide D4)
  have d5 := cell_later hb2 (unhide D5)
  have xp2 := hH.2.2.2
  have hpl := World.block_lt_of_cell? _ _ xp2
  have hkI : (k : Int) < (n : Int) := by omega
  have hw1 : IntKind.i64.wrap ((k : Int) + 1) = (k : Int) + 1 := by rw [IntKind.wrap_i64]; omega
  obtain ⟨Y, hY⟩ : ∃ Y, Y = w'.alloc (.cells #[.int .i64 x.1.1, .int .i64 x.1.2.1, .int .i64 (cv x.1), .slice x.2.1 x.2.2.1 x.2.2.2, .int .i64 (ch x.1), .bool (cr x.1)] 124) := ⟨_, rfl⟩
  have hbY : Below w'.heap.size w' Y := by rw [hY]; exact bel_new _ _
  have hy : Y.heap[w'.heap.size]? = some (.cells [.int .i64 x.1.1, .int .i64 x.1.2.1, .int .i64 (cv x.1), .slice x.2.1 x.2.2.1 x.2.2.2, .int .i64 (ch x.1), .bool (cr x.1)].toArray 124 (0, 0)) := by rw [hY]; exact six_heap _ _ _ _ _ _ _ _
  have hOY : Y.ownsRow w0.heap.size 124 6 (.slice (some ⟨g, 0, none⟩) n c) n (flatC K) := (Gr.of (S := fun _ => False) (bel_on hb2 hbY)).own (unhide HO) (fun _ _ q => q)
  have DEL := deleteCoin_is w0.heap.size g n c k (k + 1) K Y hkl rfl (unhide HN') hOY
  rw [show ((k + 1 : Nat) : Int) = (k : Int) + 1 by omega] at DEL
  have HDEL := hide DEL
  have yp := cell_later hbY xp2
  have hpl2 := World.block_lt_of_cell? _ _ yp
  have HBY := hide (bel_on hb2 hbY)
  have HHY := hide ((hbY.block _ (lt_of_block hh2)).trans hh2)
  have HY6 := hide hy
  have hsw : w.heap.size + 1 < w'.heap.size := lt_of_block hh2
  clear hH hbc hb2 hh2 xp x0 x1 hbY hy hOY DEL
  go_wp2_with fail
  rw [← hY]
  clear hY
  go_wp2_with fail
  refine (unhide HDEL).mono ?_
  rintro e w4 ⟨rfl, hown4, hgr4⟩
  have hp4 := (hgr4.block p (by omega) (by simp; exact fun e => hgp e.symm)).trans (((unhide HBY).block p hpw).trans (unhide HBOX))
  have hz4 := (hgr4.block (w.heap.size + 1) (lt_of_block (unhide HHY)) (by simp; omega)).trans (unhide HHY)
  have hy4 := (hgr4.block w'.heap.size (lt_of_block (unhide HY6)) (by simp; omega)).trans (unhide HY6)
  have p4 := cell_of (X := [.slice (some ⟨g, 0, none⟩) n c]) hp4 0 _ rfl
  have p4f := frozen_of hp4 0
  have e0 := cell_of hy4 0 _ rfl
  have e1 := cell_of hy4 1 _ rfl
  have e2 := cell_of hy4 2 _ rfl
  have e3 := cell_of hy4 3 _ rfl
  have e4 := cell_of hy4 4 _ rfl
  have e5 := cell_of hy4 5 _ rfl
  have z0 := cell_of hz4 0 _ rfl
  have z1 := cell_of hz4 1 _ rfl
  have z2 := cell_of hz4 2 _ rfl
  have z3 := cell_of hz4 3 _ rfl
  have z4 := cell_of hz4 4 _ rfl
  have z5 := cell_of hz4 5 _ rfl
  have y0 := frozen_of hz4 0
  have y1 := frozen_of hz4 1
  have y2 := frozen_of hz4 2
  have y3 := frozen_of hz4 3
  have y4 := frozen_of hz4 4
  have y5 := frozen_of hz4 5
  have n1 : ¬ (w'.heap.size = p) := by omega
  have n2 : ¬ (p = w'.heap.size) := by omega
  have n3 : ¬ (w.heap.size + 1 = p) := by omega
  have n4 : ¬ (p = w.heap.size + 1) := by omega
  have n5 : ¬ (w'.heap.size = w.heap.size + 1) := by omega
  have n6 : ¬ (w.heap.size + 1 = w'.heap.size) := by omega
  have GA : Hid (Gr w w4 (PuS p (.slice (some ⟨g, 0, none⟩) n c))) := (Gr.of (unhide HBY)).grown hgr4 (fun k hk => .inl (.inr hk))
  have GS : Hid (∀ k, PuS p (.slice (some ⟨g, 0, none⟩) n c) k → w0.heap.size ≤ k) := fun k hk => by
    rcases hk with rfl | hk
    · exact (unhide HP).ge
    · cases hk; exact hbg
  have GO : Hid (∀ k, (Value.slice (some ⟨g, 0, none⟩) (n - 1) c).ownBlock = some k → ¬ (k = p ∨ k = w.heap.size + 1)) := fun k hk => by
    cases hk
    rintro (e | e)
    · exact hgp e
    · have e2 : g = w.heap.size + 1 := e
      omega
  have HO4 := hide hown4
  have HP4 := hide hp4
  have hlt4 := lt_of_block hy4
  have hlt4p : p < w4.heap.size := lt_of_block hp4
  clear hgr4 hown4 hp4 hz4 hy4 d0 d1 d2 d3 d4 d5 yp xp2
  go_wp2
  (try simp only [Exit.inBlock, Exit.then])
  refine bodyPost_ret (v := .tuple #[cnV x.1 x.2.1 x.2.2.1 x.2.2.2, .bool true]) ?_ rfl ⟨x, .slice (some ⟨g, 0, none⟩) (n - 1) c, K.take k ++ K.drop (k + 1), rfl, unhide HT, unhide HXM, ?_, ?_, ?_, ?_, rfl⟩
  · rw [results_cell_tmp1 rfl]
    unfold cnV
    go_simp
  · exact fun y hy => (List.mem_append.1 hy).elim List.mem_of_mem_take List.mem_of_mem_drop
  · have := unhide HN'
    simp only [List.length_append, List.length_take, List.length_drop]
    omega
  · have hl : (K.take k ++ K.drop (k + 1)).length = n - 1 := by
      have := unhide HN'
      simp only [List.length_append, List.length_take, List.length_drop]
      omega
    have hp := unhide HP
    refine ⟨?_, hp.ge, ?_, ?_, fun e => hgp (by cases e; rfl), fun y hy => hp.lk y ((List.mem_append.1 hy).elim List.mem_of_mem_take List.mem_of_mem_drop)⟩
    · exact (((unhide GA).one p 0 (.inl (.inl rfl)) _).six (w.heap.size + 1) (.inr (Nat.le_succ _)) _ _ _ _ _ _).below hp.bel hp.bel.size (unhide GS)
    · exact ((Gr.refl _ (fun k => k = w.heap.size + 1)).six (w.heap.size + 1) (.inl rfl) _ _ _ _ _ _).heap (box_set (unhide HP4)) n4
    · rw [hl]
      exact (((Gr.refl w4 (fun k => k = p ∨ k = w.heap.size + 1)).one p 0 (.inl (.inl rfl)) _).six (w.heap.size + 1) (.inl (.inr rfl)) _ _ _ _ _ _).own (unhide HO4) (unhide GO)
  · exact ((unhide GA).one p 0 (.inl (.inl rfl)) _).six (w.heap.size + 1) (.inr (Nat.le_succ _)) _ _ _ _ _ _

end Go.Proofs.YtmomfkikogbdeaaGreatDoor

/- Blocks as plain data and in memory; what is wrong with one. -/
namespace Go.Proofs.YtmomfkikogbdeaaGreatDoor
open Go.RowKit

/-- A block: its parent, height, work, nonce and transactions. -/
abbrev BlkD := Int × Int × Int × Int × List TxD
def TxAt (w : World) (b o : Nat) (t : TxD) : Prop :=
  w.cell? ⟨b, o, none⟩ = some (.int .i64 t.1) ∧ (∃ a n c, w.cell? ⟨b, o + 1, none⟩ = some (.slice a n c) ∧ InsAt w a n t.2.1 ∧ SlOk a n c) ∧ (∃ a n c, w.cell? ⟨b, o + 2, none⟩ = some (.slice a n c) ∧ OutsAt w a n t.2.2 ∧ SlOk a n c)
theorem TxAt.kept : KeptR TxAt := fun _ _ _ _ _ hb h => by
  obtain ⟨h1, ⟨a, n, c, h2, h3, h4⟩, a', n', c', h5, h6, h7⟩ := h
  exact ⟨cell_later hb h1, ⟨a, n, c, cell_later hb h2, h3.later hb, h4⟩, a', n', c', cell_later hb h5, h6.later hb, h7⟩
def TxsAt (w : World) (a : Option Addr) (len : Nat) (l : List TxD) : Prop := RowsAt TxAt 3 w a len l
theorem TxsAt.later {w w' : World} {a : Option Addr} {len : Nat} {l : List TxD} (h : TxsAt w a len l) (hb : Below w.heap.size w w') : TxsAt w' a len l := RowsAt.later TxAt.kept h hb

def headOk (p h k n : Int) : Bool := (decide (0 ≤ p) && decide (p ≤ 120)) && ((decide (1 ≤ h) && decide (h ≤ 1000)) && ((decide (1 ≤ k) && decide (k ≤ 1000)) && (decide (0 ≤ n) && decide (n ≤ 1000000000))))
def standsD (t : TxD) (i h : Int) : Bool := if 0 < i then !decide (t.2.1.length = 0) else decide (t.2.1.length = 0) && decide (t.1 = h)
def chkTs (h : Int) : Nat → List TxD → Int
  | _, [] => 0
  | i, t :: r => if chkTx t ≠ 0 then chkTx t else if standsD t i h = false then 4 else chkTs h (i + 1) r
def chkB (b : BlkD) : Int := if headOk b.1 b.2.1 b.2.2.1 b.2.2.2.1 = false then 3 else if 4 < b.2.2.2.2.length then 2 else if b.2.2.2.2.length = 0 then 4 else chkTs b.2.1 0 b.2.2.2.2
theorem chkTs_at (h : Int) (T : List TxD) (k : Nat) (hk : k < T.length) : chkTs h k (T.drop k) = if chkTx T[k] ≠ 0 then chkTx T[k] else if standsD T[k] k h = false then 4 else chkTs h (k + 1) (T.drop (k + 1)) := by
  rw [List.drop_eq_getElem_cons hk]; rfl
theorem chkTs_end (h : Int) (T : List TxD) (k : Nat) (hk : T.length ≤ k) : chkTs h k (T.drop k) = 0 := by
  rw [List.drop_of_length_le hk]; rfl

theorem five_heap (w : World) (a b c d e : Value) (t : TypeId) : (w.alloc (.cells #[a, b, c, d, e] t)).heap[w.heap.size]? = some (.cells [a, b, c, d, e].toArray t (0, 0)) := heap_alloc_new w _
theorem results_cell1 {fn : Func} {p : Tmp} {ty : TypeId} (h : fn.results = #[.cell p ty]) (tmps : Array Value) (P : Program) (w : World) :
    (results fn tmps).run P w = ((asAddr (tmps.getD p undef)).run P w).andThen fun a w₁ => (loadVar ty a).run P w₁ := by
  simp only [results, h]
  simp [Sem.run_bind, Result.andThen]

end Go.Proofs.YtmomfkikogbdeaaGreatDoor
