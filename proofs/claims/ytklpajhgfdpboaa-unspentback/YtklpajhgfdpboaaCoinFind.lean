/- The contract of Find: the coin of a point. -/
import Derived.Test.YtklpajhgfdpboaaCoinApplyB
namespace Go.Proofs.Ytklpajhgfdpboaa
open Go.RowKit

def zeroD : CoinD := (0, 0, 0, [], 0, false)
/-- What Find answers: what is wrong, and the coin. -/
def fdD (L : List CoinD) (p : PtD) : Int × CoinD := if ckCoins L ≠ 0 then (ckCoins L, zeroD) else match L.find? (fun c => decide (pt c = p)) with | none => (7, zeroD) | some c => (0, c)
theorem fdD_bad {L : List CoinD} {p : PtD} (h : ckCoins L ≠ 0) : fdD L p = (ckCoins L, zeroD) := by unfold fdD; rw [if_pos h]
theorem fdD_none {L : List CoinD} {p : PtD} (h : ckCoins L = 0) (hf : hasP p L = false) : fdD L p = (7, zeroD) := by
  have : L.find? (fun c => decide (pt c = p)) = none := by
    rw [List.find?_eq_none]
    intro x hx
    rw [← Bool.not_eq_true, hasP_iff] at hf
    simp only [decide_eq_true_eq]
    exact fun e => hf ⟨x, hx, e⟩
  unfold fdD; rw [if_neg (by rw [h]; decide), this]
theorem fdD_some {L : List CoinD} {p : PtD} {c : CoinD} (h : ckCoins L = 0) (hs : Srt L) (hc : c ∈ L) (e : pt c = p) : fdD L p = (0, c) := by
  have : L.find? (fun c => decide (pt c = p)) = some c := by
    cases q : L.find? (fun c => decide (pt c = p)) with
    | none => rw [List.find?_eq_none] at q; exact absurd (decide_eq_true e) (q c hc)
    | some d =>
      have h1 := List.find?_some q
      have h2 := List.mem_of_find?_eq_some q
      simp only [decide_eq_true_eq] at h1
      rw [hs.inj h2 hc (by rw [h1, e])]
  unfold fdD; rw [if_neg (by rw [h]; decide), this]

/-- What Find leaves. -/
def FdR (w w' : World) (x : Int) (q : CoinD) (e : Ending) : Prop := ∃ la ln lc, e = .returned (.tuple #[cnV q la ln lc, .int .i64 x]) ∧ OpsAt w' la ln (ck q) ∧ SlOk la ln lc ∧ Below w.heap.size w w'
theorem fd_err {w w' : World} {x y : Int} {q : CoinD} {b : Nat} (h : (x, q) = ((y : Int), zeroD) ∧ w.heap.size ≤ b) (hb : Below w.heap.size w w') : FdR w ((((((w'.setCell ⟨b, 0, none⟩ (.int .i64 0)).setCell ⟨b, 1, none⟩ (.int .i64 0)).setCell ⟨b, 2, none⟩ (.int .i64 0)).setCell ⟨b, 3, none⟩ (.slice none 0 0)).setCell ⟨b, 4, none⟩ (.int .i64 0)).setCell ⟨b, 5, none⟩ (.bool false)) x q (.returned (.tuple #[zeroC, .int .i64 y])) := by
  obtain ⟨h1, h2⟩ := h
  injection h1 with h1 h3
  subst h1 h3
  exact ⟨none, 0, 0, rfl, ⟨rfl, fun h => absurd h (by omega)⟩, slok_nil, below_six hb b h2 _ _ _ _ _ _⟩

set_option maxRecDepth 10000 in
set_option maxHeartbeats 6400000 in
theorem find_is (a : Option Addr) (n c : Nat) (L : List CoinD) (p : PtD) (x : Int) (q : CoinD) (w : World) (hL : CoinsAt w a n L) (hx : fdD L p = (x, q)) :
    Calls Try.prog 7 #[.slice a n c, .agg #[.int .i64 p.1, .int .i64 p.2]] w fun e w' => FdR w w' x q e := by
  obtain ⟨X, hX⟩ : ∃ X, X = (w.alloc (.cells #[.int .i64 p.1, .int .i64 p.2] 24)).alloc (.cells #[.int .i64 0, .int .i64 0, .int .i64 0, .slice none 0 0, .int .i64 0, .bool false] 29) := ⟨_, rfl⟩
  have hbX : Below w.heap.size w X := by rw [hX]; exact bel_on (bel_new _ _) (bel_new _ _)
  have hX0 : X.heap[w.heap.size]? = some (.cells [.int .i64 p.1, .int .i64 p.2].toArray 24 (0, 0)) := by
    rw [hX, Below.heap_alloc _ _ _ (by simp)]; exact heap_alloc_new w _
  have hX1 : X.heap[w.heap.size + 1]? = some (.cells zeroCs.toArray 29 (0, 0)) := by
    rw [hX]
    have := heap_alloc_new (w.alloc (.cells #[.int .i64 p.1, .int .i64 p.2] 24)) (.cells zeroCs.toArray 29)
    rw [show (w.alloc (.cells #[.int .i64 p.1, .int .i64 p.2] 24)).heap.size = w.heap.size + 1 by simp] at this
    exact this
  obtain ⟨y, hy⟩ : ∃ y, ckCoins L = y := ⟨_, rfl⟩
  have C1 := hide (uCheck_any a n c L y X (hL.later hbX) hy)
  have HX0 := hide hX0
  have HX1 := hide hX1
  have HBX := hide hbX
  by_cases e1 : y = 0
  · subst e1
    have hRC := (ckCoins_zero L).1 hy
    have hn : n ≤ 720 := by rw [← hL.1]; exact hRC.len
    obtain ⟨k, hk⟩ : ∃ k, pos p L = k := ⟨_, rfl⟩
    have PL := hide (fun (f : Bool) W (hb : Below X.heap.size X W) hf => place_any a n c L p k f W hRC.srt (by omega) ((hL.later hbX).later hb) hk hf)
    cases hf : hasP p L with
    | false =>
      have HE : Hid ((x, q) = ((7 : Int), zeroD) ∧ w.heap.size ≤ w.heap.size + 1) := ⟨by rw [← hx]; exact fdD_none hy hf, Nat.le_succ _⟩
      have PL2 := hide (fun W hb => (unhide PL) false W hb hf)
      clear hL hx hX0 hX1 hbX hRC hk hf hy PL
      go_enter Try.func7, Try.ntmps7
      go_wp2_with fail
      rw [← hX]
      clear hX
      refine (unhide C1).mono ?_
      rintro e w2 ⟨rfl, hb2⟩
      have h0 := (hb2.block _ (lt_of_block (unhide HX0))).trans (unhide HX0)
      have c0 := cell_of h0 0 _ rfl
      have c1 := cell_of h0 1 _ rfl
      have C2 := hide ((unhide PL2) w2 hb2)
      have HB2 := hide hb2
      clear hb2 h0 C1
      go_wp2_with fail
      refine (unhide C2).mono ?_
      rintro e w3 ⟨rfl, hb3⟩
      have hb23 := bel_on (unhide HB2) hb3
      have h1 := (hb23.block _ (lt_of_block (unhide HX1))).trans (unhide HX1)
      have z0 := cell_of h1 0 _ rfl
      have z1 := cell_of h1 1 _ rfl
      have z2 := cell_of h1 2 _ rfl
      have z3 := cell_of h1 3 _ rfl
      have z4 := cell_of h1 4 _ rfl
      have z5 := cell_of h1 5 _ rfl
      have y0 := frozen_of h1 0
      have y1 := frozen_of h1 1
      have y2 := frozen_of h1 2
      have y3 := frozen_of h1 3
      have y4 := frozen_of h1 4
      have y5 := frozen_of h1 5
      have HB3 := hide (bel_on (unhide HBX) hb23)
      clear hb3 hb23 h1 c0 c1
      go_wp2
      (try simp only [Exit.inBlock, Exit.then])
      refine bodyPost_ret (v := .tuple #[zeroC, .int .i64 7]) ?_ rfl ?_
      · rw [results_cell_tmp1 rfl]
        unfold zeroC
        go_simp
      · exact fd_err (unhide HE) (unhide HB3)
    | true =>
      have hp := hasP_pos (p := p) hRC.srt
      rw [hf, hk] at hp
      have hp2 := Eq.symm hp
      rw [Bool.and_eq_true, decide_eq_true_eq, decide_eq_true_eq] at hp2
      obtain ⟨hkl, hke⟩ := hp2
      rw [List.getElem?_eq_getElem hkl, Option.map_some, Option.some.injEq] at hke
      have hxx := fdD_some hy hRC.srt (List.getElem_mem hkl) hke
      rw [hx] at hxx
      obtain ⟨b, off, rfl, hbl, hcell⟩ := hL.2 (by have := hL.1; omega)
      have hin := CoinAt.kept _ _ _ _ _ hbX (hcell k hkl)
      have hkn : k < n := by rw [← hL.1]; exact hkl
      have hone := (ck1_zero (hRC.one _ (List.getElem_mem hkl))).2.2.2.2.2.2.2.2
      obtain ⟨z, hz⟩ : ∃ z, L[k] = z := ⟨_, rfl⟩
      rw [hz] at hxx hin hone
      have hx0 : x = 0 := by injection hxx
      have hq : q = z := by injection hxx
      subst hx0 hq
      obtain ⟨la, ln, lc, g0, g1, g2, g3, g4, g5, hO, hs⟩ := hin.val
      have hln : ln ≤ 4096 := by have := chk_len hone; rw [← hO.1]; omega
      have CP := hide (fun W (hb : Below X.heap.size X W) => copyCoin_is q la ln lc W hln (hO.later hb) hs)
      unfold cnV at CP
      have G0 := hide g0
      have G1 := hide g1
      have G2 := hide g2
      have G3 := hide g3
      have G4 := hide g4
      have G5 := hide g5
      have PL2 := hide (fun W hb => (unhide PL) true W hb hf)
      have hkI : (k : Int) < (n : Int) := by omega
      clear hL hx hX0 hX1 hbX hRC hk hf hy PL hp hkl hke hxx hcell hin hone hz g0 g1 g2 g3 g4 g5 hO hs hln
      go_enter Try.func7, Try.ntmps7
      go_wp2_with fail
      rw [← hX]
      clear hX
      refine (unhide C1).mono ?_
      rintro e w2 ⟨rfl, hb2⟩
      have h0 := (hb2.block _ (lt_of_block (unhide HX0))).trans (unhide HX0)
      have c0 := cell_of h0 0 _ rfl
      have c1 := cell_of h0 1 _ rfl
      have C2 := hide ((unhide PL2) w2 hb2)
      have HB2 := hide hb2
      clear hb2 h0 C1
      go_wp2_with fail
      refine (unhide C2).mono ?_
      rintro e w3 ⟨rfl, hb3⟩
      have hb23 := bel_on (unhide HB2) hb3
      have d0 := cell_later hb23 (unhide G0)
      have d1 := cell_later hb23 (unhide G1)
      have d2 := cell_later hb23 (unhide G2)
      have d3 := cell_later hb23 (unhide G3)
      have d4 := cell_later hb23 (unhide G4)
      have d5 := cell_later hb23 (unhide G5)
      have C3 := hide ((unhide CP) w3 hb23)
      have HB3 := hide hb23
      clear hb3 hb23 c0 c1
      go_wp2_with fail
      refine (unhide C3).mono ?_
      rintro e w4 ⟨a4, c4, rfl, hO4, hs4, hb4', hb4⟩
      have hb34 := bel_on (unhide HB3) hb4
      have h1 := (hb34.block _ (lt_of_block (unhide HX1))).trans (unhide HX1)
      have z0 := cell_of h1 0 _ rfl
      have z1 := cell_of h1 1 _ rfl
      have z2 := cell_of h1 2 _ rfl
      have z3 := cell_of h1 3 _ rfl
      have z4 := cell_of h1 4 _ rfl
      have z5 := cell_of h1 5 _ rfl
      have y0 := frozen_of h1 0
      have y1 := frozen_of h1 1
      have y2 := frozen_of h1 2
      have y3 := frozen_of h1 3
      have y4 := frozen_of h1 4
      have y5 := frozen_of h1 5
      have HX2 : Hid (w.heap.size + 1 < X.heap.size) := lt_of_block (unhide HX1)
      have H4 : Hid (OpsAt w4 a4 ln (ck q) ∧ SlOk a4 ln c4 ∧ (∀ ad, a4 = some ad → w3.heap.size ≤ ad.block) ∧ Below X.heap.size X w4 ∧ X.heap.size ≤ w3.heap.size) := ⟨hO4, hs4, hb4', hb34, (unhide HB3).size⟩
      clear hO4 hs4 hb4' hb4 hb34 h1 d0 d1 d2 d3 d4 d5
      go_wp2
      (try simp only [Exit.inBlock, Exit.then])
      obtain ⟨hO4, hs4, hb4', hb34, hsz⟩ := unhide H4
      have hlt := unhide HX2
      have hG := (Gr.refl w4 (fun k => k = w.heap.size + 1)).six (w.heap.size + 1) (.inl rfl) (.int .i64 q.1) (.int .i64 q.2.1) (.int .i64 (cv q)) (.slice a4 ln c4) (.int .i64 (ch q)) (.bool (cr q))
      refine bodyPost_ret (v := .tuple #[cnV q a4 ln c4, .int .i64 0]) ?_ rfl ⟨a4, ln, c4, rfl, hO4.gr hG (fun ad e r => ?_), hs4, ?_⟩
      · rw [results_cell_tmp1 rfl]
        unfold cnV
        go_simp
      · have := hb4' ad e; omega
      · exact below_six (bel_on (unhide HBX) hb34) (w.heap.size + 1) (Nat.le_succ _) _ _ _ _ _ _
  · have g : (y != 0) = true := by simp [e1]
    have HE : Hid ((x, q) = ((y : Int), zeroD) ∧ w.heap.size ≤ w.heap.size + 1) := ⟨by rw [← hx, ← hy]; exact fdD_bad (by rw [hy]; exact e1), Nat.le_succ _⟩
    clear hL hx hX0 hX1 hbX hy e1
    go_enter Try.func7, Try.ntmps7
    go_wp2_with fail
    rw [← hX]
    clear hX
    refine (unhide C1).mono ?_
    rintro e w3 ⟨rfl, hb3⟩
    have h1 := (hb3.block _ (lt_of_block (unhide HX1))).trans (unhide HX1)
    have z0 := cell_of h1 0 _ rfl
    have z1 := cell_of h1 1 _ rfl
    have z2 := cell_of h1 2 _ rfl
    have z3 := cell_of h1 3 _ rfl
    have z4 := cell_of h1 4 _ rfl
    have z5 := cell_of h1 5 _ rfl
    have y0 := frozen_of h1 0
    have y1 := frozen_of h1 1
    have y2 := frozen_of h1 2
    have y3 := frozen_of h1 3
    have y4 := frozen_of h1 4
    have y5 := frozen_of h1 5
    have HB3 := hide (bel_on (unhide HBX) hb3)
    clear hb3 h1 C1
    go_wp2
    (try simp only [Exit.inBlock, Exit.then])
    refine bodyPost_ret (v := .tuple #[zeroC, .int .i64 y]) ?_ rfl ?_
    · rw [results_cell_tmp1 rfl]
      unfold zeroC
      go_simp
    · exact fd_err (unhide HE) (unhide HB3)

end Go.Proofs.Ytklpajhgfdpboaa
