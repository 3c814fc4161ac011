/- The reference does in whatever order what the program does in order: mathematics. Nothing of the program. -/
import Derived.Test.YtakcleadfcelmaaGreatCoinTotalToSortIns
import Derived.Test.YtakcleadfcelmaaGreatCoinPutToLockMach
import Derived.Test.YtakcleadfcelmaaGreatSortCoinToSortCoinC
import Derived.Test.YtakcleadfcelmaaGreatCoinGr
import Derived.Test.YtakcleadfcelmaaGreatShelf
import Derived.Test.YtakcleadfcelmaaGreatCoinCopyCToCoinCovers
import Derived.Test.YtakcleadfcelmaaGreatLockBaseToTxMem
import Derived.Test.YtakcleadfcelmaaGreatRefCheck
import Derived.Test.YtakcleadfcelmaaGreatLockMathToTxMath
namespace Go.Proofs.YtakcleadfcelmaaGreat

theorem takeD_idx : ∀ {L : List CoinD} {p : PtD} (_ : Srt L) (i : Nat) (hi : i < L.length), pt L[i] = p → takeD p L = some (L[i], L.take i ++ L.drop (i + 1))
  | c :: L, p, h, 0, _, e => by
    have e' : pt c = p := e
    have hf : L.filter (fun d => decide (pt d ≠ p)) = L := by
      rw [List.filter_eq_self]
      intro x hx
      rw [decide_eq_true_eq, ← e']
      exact fun q => lt_ne (h.head x hx) q.symm
    unfold takeD
    rw [List.find?_cons_of_pos (by simpa using e')]
    simp only [List.filter_cons, e', ne_eq, not_true, decide_false, Bool.false_eq_true, if_false]
    simp only [ne_eq] at hf
    rw [hf]
    rfl
  | c :: L, p, h, i + 1, hi, e => by
    have hi' : i < L.length := by simpa using hi
    have e' : pt L[i] = p := by simpa using e
    have hne : pt c ≠ p := fun q => by
      have := lt_ne (h.head L[i] (List.getElem_mem hi'))
      rw [e', q] at this
      exact this rfl
    have ih := takeD_idx h.tail i hi' e'
    unfold takeD at ih ⊢
    rw [List.find?_cons_of_neg (by simpa using hne)]
    cases hq : L.find? (fun c => decide (pt c = p)) with
    | none => rw [hq] at ih; cases ih
    | some d =>
      rw [hq] at ih
      simp only [Option.some.injEq, Prod.mk.injEq] at ih ⊢
      rw [List.filter_cons_of_pos (by simpa using hne), ih.2]
      exact ⟨by rw [ih.1]; simp, by simp⟩
theorem takeD_no {L : List CoinD} {p : PtD} (h : hasP p L = false) : takeD p L = none := by
  unfold takeD
  have : L.find? (fun c => decide (pt c = p)) = none := by
    rw [List.find?_eq_none]
    intro x hx q
    rw [← Bool.not_eq_true, hasP_iff] at h
    exact h ⟨x, hx, by simpa using q⟩
  rw [this]

theorem plc_ways (p : PtD) : ∀ (L : List CoinD) (k : Nat), (plc p L k = -1 ∧ hasP p L = false) ∨ ∃ i, ∃ h : i < L.length, plc p L k = ((k + i : Nat) : Int) ∧ pt L[i] = p ∧ hasP p L = true
  | [], _ => .inl ⟨rfl, rfl⟩
  | c :: L, k => by
    by_cases h : pt c = p
    · exact .inr ⟨0, by simp, by unfold plc; rw [if_pos h]; rfl, h, by simp [hasP, h]⟩
    · rcases plc_ways p L (k + 1) with ⟨h1, h2⟩ | ⟨i, hi, h1, h2, h3⟩
      · refine .inl ⟨by unfold plc; rw [if_neg h]; exact h1, ?_⟩
        unfold hasP at h2 ⊢
        rw [List.any_cons, h2]
        simp [h]
      · refine .inr ⟨i + 1, by simp; omega, ?_, by simpa using h2, ?_⟩
        · unfold plc
          rw [if_neg h, h1]
          congr 1
          omega
        · unfold hasP at h3 ⊢
          rw [List.any_cons, h3]
          simp

theorem Srt.nodup {L : List CoinD} (h : Srt L) : L.Nodup := by
  unfold List.Nodup
  refine List.Pairwise.imp (fun {x y} q => ?_) h
  intro e
  exact lt_ne q (by rw [e])
theorem wk_unique {L G : List CoinD} (hw : Wk L) (hp : L.Perm G) (hs : Srt G) : L = G := by
  have hn : L.Nodup := hp.nodup_iff.2 hs.nodup
  have hm : ∀ x, x ∈ L ↔ x ∈ G := fun x => hp.mem_iff
  refine Srt.ext ?_ hs hm
  unfold Srt
  have hb : L.Pairwise fun x y => lt (pt y) (pt x) = false ∧ x ≠ y := List.pairwise_and_iff.2 ⟨hw, hn⟩
  refine List.Pairwise.imp_of_mem (fun {x y} hx hy q => ?_) hb
  rcases lt_tri (pt x) (pt y) with r | r | r
  · exact r
  · exact absurd (hs.inj ((hm x).1 hx) ((hm y).1 hy) r) q.2
  · rw [q.1] at r
    exact Bool.noConfusion r

theorem hasP_perm {L M : List CoinD} (h : L.Perm M) (p : PtD) : hasP p L = hasP p M := by
  rw [Bool.eq_iff_iff, hasP_iff, hasP_iff]
  exact ⟨fun ⟨c, hc, e⟩ => ⟨c, h.mem_iff.1 hc, e⟩, fun ⟨c, hc, e⟩ => ⟨c, h.mem_iff.2 hc, e⟩⟩
theorem putC_perm {R L : List CoinD} {c : CoinD} (h : R.Perm L) (hn : hasP (pt c) L = false) : (R ++ [c]).Perm (putC c L) := by
  have hf : L.filter (fun x => lt (pt c) (pt x)) = L.filter (fun x => !lt (pt x) (pt c)) := by
    apply List.filter_congr
    intro x hx
    rcases lt_tri (pt x) (pt c) with q | q | q
    · rw [q, lt_asymm q]; rfl
    · exact absurd ((hasP_iff _ _).2 ⟨x, hx, q⟩) (by rw [hn]; decide)
    · rw [q, lt_asymm q]; rfl
  unfold putC
  rw [hf]
  refine ((List.perm_append_comm).trans ?_).trans (List.perm_middle.symm)
  exact (h.trans (List.filter_append_perm _ L).symm).cons c

end Go.Proofs.YtakcleadfcelmaaGreat

/- The contract of slices.Concat at two slices of coins. -/
namespace Go.Proofs.YtakcleadfcelmaaGreat
open Go.RowKit

theorem zeroC_size (z : Array Value) (n : Nat) : (Builtin.zeroCells z n).size = n * z.size := by simp [Builtin.zeroCells]

/-- Grow of nothing: it is owned, and nothing lies in it. -/
theorem growC_nil (n : Nat) (w : World) (hn : n ≤ 4096) :
    Calls Tryz.prog 59 #[.slice none 0 0, .int .i64 n] w fun e w' => ∃ v, e = .returned v ∧ w'.ownsRow w.heap.size 55 6 v 0 [] ∧ Below w.heap.size w w' := by
  obtain ⟨i0, hi, hz0, hz1, hz2⟩ := info_parts Tryz.infoCoin
  by_cases h : n = 0
  · subst h
    exact (Any8.slices_Grow_room Tryz.growC none 0 0 0 w (Nat.le_refl _) (by omega) (by omega) (by omega)).mono fun e w' ⟨h1, h2⟩ => ⟨_, h1, ⟨rfl, Or.inl ⟨rfl, rfl⟩⟩, h2 ▸ Below.refl _ _⟩
  · refine (Any8.slices_Grow_grow Tryz.growC i0 zeroC hi hz0 (by rw [hz1]; decide) none 0 0 n [] w (Nat.le_refl _) (by omega) (by rw [hz2]; omega) (by omega) (by simp) (fun _ => rfl) (fun a h => by cases h)).mono fun e w' ⟨h1, h2⟩ => ⟨_, h1, ?_, ?_⟩
    · rw [h2]
      have hge := grownCap_ge w (0 + n) 0 (Tryz.growC_ren.t 25)
      have hle := grownCap_le_maxLen w (0 + n) 0 (Tryz.growC_ren.t 25) (by unfold maxLen; omega)
      refine ⟨rfl, Or.inr ⟨w.heap.size, _, _, rfl, Nat.le_refl _, heap_alloc_new _ _, Nat.zero_le _, hle, ?_, rfl⟩⟩
      simp only [Array.size_append, zeroC_size, List.size_toArray, List.length_nil]
      show 0 + (0 + n - 0) * 6 + _ * 6 = _ * 6
      omega
    · rw [h2]
      exact ⟨rfl, rfl, rfl, by simp, fun k hk => Below.heap_alloc w.drew _ k hk⟩

theorem flat_cat (K : List CV) (M : List CV) : flatC K ++ flatC M = flatC (K ++ M) := (flatC_append K M).symm

set_option maxRecDepth 100000 in
set_option maxHeartbeats 3200000 in
theorem concatC_two (B : Nat) (x y : Addr) (lenk capk len cap : Nat) (k l : List CV) (w : World) (hsum : lenk + len ≤ 4096) (hzk : k.length = lenk) (hzl : l.length = len)
    (hK : ∀ j u, (flatC k)[j]? = some u → w.cell? (x.add j) = some u) (hL : ∀ j u, (flatC l)[j]? = some u → w.cell? (y.add j) = some u)
    (c0 : w.cell? ⟨B, 0, none⟩ = some (.slice (some x) lenk capk)) (c1 : w.cell? ⟨B, 1, none⟩ = some (.slice (some y) len cap)) :
    Calls Tryz.prog 31 #[.slice (some ⟨B, 0, none⟩) 2 2] w fun e w' => ∃ v, e = .returned v ∧ w'.ownsRow w.heap.size 55 6 v (lenk + len) (flatC (k ++ l)) ∧ Below w.heap.size w w' := by
  obtain ⟨i0, hi, hz0, hz1, hz2⟩ := info_parts Tryz.infoCoin
  have hBl : B < w.heap.size := World.block_lt_of_cell? _ _ c0
  have HK := hide hK
  have HL := hide hL
  have HZK := hide hzk
  have HZL := hide hzl
  clear hK hL hzk hzl
  go_enter Tryz.func31, Tryz.ntmps31
  go_wp2
  refine wp_loop_rounds 3 ?_
  rw [rounds_succ]
  go_wp2
  rw [rounds_succ]
  go_wp2
  rw [rounds_succ]
  have GR := hide (growC_nil (lenk + len) w hsum)
  rw [Int.natCast_add] at GR
  go_wp2_with fail
  refine (unhide GR).mono ?_
  rintro e w1 ⟨v, rfl, hw1, hb1⟩
  have HW1 := hide hw1
  have HB1 := hide hb1
  have c01 := (hb1.cell (p := ⟨B, 0, none⟩) hBl).trans c0
  have c11 := (hb1.cell (p := ⟨B, 1, none⟩) hBl).trans c1
  clear hw1 hb1
  go_wp2
  refine wp_loop_rounds 3 ?_
  rw [rounds_succ]
  go_wp2_with (at_builtin; refine wpList_append_own _ rfl _ _ 22 rfl w.heap.size 55 i0 zeroC 6 64 Tryz.underlying22 hi hz0 hz1 hz2 rfl (by decide) _ _ _ rfl (unhide HW1) x lenk capk (flatC k) rfl (by rw [flatC_len, unhide HZK]) (fun j u hj => cell_later (unhide HB1) ((unhide HK) j u hj)) (flatC_one k) (by unfold maxLen; omega) (by omega) (unhide HB1).size ?_; intro v1 w2 hown2 hgrow2 _)
  have HW2 : Hid (w2.ownsRow w.heap.size 55 6 v1 (0 + lenk) (flatC k)) := hide (by simpa using hown2)
  have HB2 := hide ((unhide HB1).grown hgrow2 (unhide HB1).size (own_lo (unhide HW1)))
  have c02 := ((unhide HB2).cell (p := ⟨B, 0, none⟩) hBl).trans c0
  have c12 := ((unhide HB2).cell (p := ⟨B, 1, none⟩) hBl).trans c1
  clear hown2 hgrow2
  clear c01 c11
  go_wp2
  rw [rounds_succ]
  go_wp2_with (at_builtin; refine wpList_append_own _ rfl _ _ 22 rfl w.heap.size 55 i0 zeroC 6 64 Tryz.underlying22 hi hz0 hz1 hz2 rfl (by decide) _ _ _ rfl (unhide HW2) y len cap (flatC l) rfl (by rw [flatC_len, unhide HZL]) (fun j u hj => cell_later (unhide HB2) ((unhide HL) j u hj)) (flatC_one l) (by unfold maxLen; omega) (by omega) (unhide HB2).size ?_; intro v2 w3 hown3 hgrow3 _)
  have HW3 : Hid (w3.ownsRow w.heap.size 55 6 v2 (lenk + len) (flatC (k ++ l))) := by
    have q := hown3
    rw [flat_cat, Nat.zero_add] at q
    exact q
  have HB3 := hide ((unhide HB2).grown hgrow3 (unhide HB2).size (own_lo (unhide HW2)))
  clear hown3 hgrow3 c02 c12
  go_wp2
  rw [rounds_succ]
  go_wp2
  go_ret
  exact ⟨v2, rfl, unhide HW3, unhide HB3⟩

end Go.Proofs.YtakcleadfcelmaaGreat

/- The contract of the reference's FeeOf. -/
namespace Go.Proofs.YtakcleadfcelmaaGreat
open Go.RowKit

set_option maxRecDepth 10000 in
set_option maxHeartbeats 6400000 in
theorem rfee_is (sa : Option Addr) (ns cs : Nat) (S : List CoinD) (ht : Int) (ai ao : Option Addr) (ni ci no co : Nat) (O : List OutD) (x : Int) (w : World) (hns : ns ≤ 6) (hno : no ≤ 6) (hS : CoinsAt w sa ns S) (hO : OutsAt w ao no O)
    (hs : ∀ c ∈ S, 0 ≤ cv c ∧ cv c ≤ 1000000000) (ho : ∀ c ∈ O, 0 ≤ c.1 ∧ c.1 ≤ 1000000000) (hx : sumC S - sumO O = x) :
    Calls Tryz.prog 32 #[.agg #[.int .i64 ht, .slice ai ni ci, .slice ao no co], .slice sa ns cs] w fun e w' => e = .returned (.int .i64 x) ∧ Below w.heap.size w w' := by
  obtain ⟨X0, hX0⟩ : ∃ X0, X0 = w.alloc (.cells #[.int .i64 ht, .slice ai ni ci, .slice ao no co] 26) := ⟨_, rfl⟩
  have hb0 : Below w.heap.size w X0 := by rw [hX0]; exact bel_new _ _
  have hX1 : X0.heap[w.heap.size]? = some (.cells [.int .i64 ht, .slice ai ni ci, .slice ao no co].toArray 26 (0, 0)) := by rw [hX0]; exact three_heap _ _ _ _ _
  have HSB := hide (fun k => sumC_bd S k hs)
  have HOB := hide (fun k => sumO_bd O k ho)
  have HS := hide (hS.later hb0)
  have HO := hide (hO.later hb0)
  have HZS := hide hS.1
  have HZO := hide hO.1
  have HX := hide hx
  have HX1 := hide hX1
  have HB0 := hide hb0
  clear hS hO hs ho hx hX1 hb0
  go_enter Tryz.func32, Tryz.ntmps32
  go_wp2
  rw [← hX0]
  clear hX0
  go_loopw [5, 12] (fun sv i wr => ∃ (k : Nat) (s : Int), k ≤ ns ∧ sv = .int .i64 s ∧ i = .int .i64 k ∧ Hid (s = sumC (S.take k)) ∧ Hid (Below X0.heap.size X0 wr)) (fun _ i _ => ns - (intOf i).toNat)
  case atStart => exact ⟨0, 0, Nat.zero_le _, rfl, rfl, rfl, Below.refl _ _⟩
  case round =>
    obtain ⟨k, s, hk, rfl, rfl, A, HB⟩ := hrel
    by_cases hlt : k < ns
    · have hlk : k < S.length := by rw [unhide HZS]; exact hlt
      obtain ⟨b, off, rfl, hbl, hcell⟩ := (unhide HS).2 (by omega)
      have hin := CoinAt.kept _ _ _ _ _ (unhide HB) (hcell k hlk)
      have b1 := (unhide HSB) k
      have b2 := (unhide HSB) (k + 1)
      have hst := sumC_take S k hlk
      obtain ⟨c, hc⟩ : ∃ c, S[k] = c := ⟨_, rfl⟩
      rw [hc] at hin hst
      obtain ⟨la, ln, lc, g0, g1, g2, g3, g4, g5, _, _⟩ := hin.val
      obtain ⟨v, hv⟩ : ∃ v, cv c = v := ⟨_, rfl⟩
      rw [hv] at g2 hst
      rw [← unhide A] at b1 hst
      rw [hst] at b2
      have A2 : Hid (s + v = sumC (S.take (k + 1))) := hst.symm
      have HB2 := hide (bel_on (unhide HB) (bel_new wr (.cells #[.int .i64 c.1, .int .i64 c.2.1, .int .i64 v, .slice la ln lc, .int .i64 (ch c), .bool (cr c)] 55)))
      have hw1 : IntKind.i64.wrap (s + v) = s + v := by rw [IntKind.wrap_i64]; omega
      clear hin hc hst A HB
      go_wp2
      go_roundw
      case rel => exact ⟨k + 1, s + v, by omega, rfl, by go_num, A2, HB2⟩
      case measure => simp [intOf]; omega
    · have e : k = ns := by omega
      subst e
      have A2 : Hid (s = sumC S) := by
        show _ = _
        rw [unhide A, List.take_of_length_le (by rw [unhide HZS]; exact Nat.le_refl _)]
      have b1 := (unhide HSB) k
      rw [← unhide A] at b1
      have hh := ((unhide HB).block _ (lt_of_block (unhide HX1))).trans (unhide HX1)
      have c2 := cell_of hh 2 _ rfl
      have hl := lt_of_block hh
      clear A hh
      go_wp2
      go_loopw [5, 25] (fun sv i wr2 => ∃ (j : Nat) (d : Int), j ≤ no ∧ sv = .int .i64 d ∧ i = .int .i64 j ∧ Hid (d = s - sumO (O.take j)) ∧ Hid (Below X0.heap.size X0 wr2)) (fun _ i _ => no - (intOf i).toNat)
      case atStart => exact ⟨0, s, Nat.zero_le _, rfl, rfl, (by simp [sumO] : s = s - sumO (O.take 0)), HB⟩
      case round =>
        obtain ⟨j, d, hj, rfl, rfl, D, HD⟩ := hrel
        clear HB
        have hbd := unhide HD
        by_cases hlt : j < no
        · have hlk : j < O.length := by rw [unhide HZO]; exact hlt
          obtain ⟨b, off, rfl, hbl, hcell⟩ := (unhide HO).2 (by omega)
          have hin := OutAt.kept _ _ _ _ _ hbd (hcell j hlk)
          have d1 := (unhide HOB) j
          have d2 := (unhide HOB) (j + 1)
          have hst := sumO_take O j hlk
          obtain ⟨o, hc⟩ : ∃ o, O[j] = o := ⟨_, rfl⟩
          rw [hc] at hin hst
          obtain ⟨q1, q2⟩ := o
          obtain ⟨g0, la, ln, lc, g1, _, _⟩ := hin
          simp only at g0 g1 hst
          have hd : d = s - sumO (O.take j) := unhide D
          have A3 : Hid (d - q1 = s - sumO (O.take (j + 1))) := by show _ = _; rw [hst]; omega
          have HB2 := hide (bel_on (unhide HD) (bel_new wr (.cells #[.int .i64 q1, .slice la ln lc] 53)))
          have hw1 : IntKind.i64.wrap (d - q1) = d - q1 := by rw [IntKind.wrap_i64]; omega
          clear hc hst D HD hd d1 d2 hbd
          go_wp2
          go_roundw
          case rel => exact ⟨j + 1, d - q1, by omega, rfl, by go_num, A3, HB2⟩
          case measure => simp [intOf]; omega
        · have e : j = no := by omega
          subst e
          have hd : d = sumC S - sumO O := by
            have := unhide D
            rw [List.take_of_length_le (by rw [unhide HZO]; exact Nat.le_refl _), unhide A2] at this
            exact this
          have HBD := hide (bel_on (unhide HB0) hbd)
          have R : Hid (x = d) := by show _ = _; rw [← unhide HX, hd]
          clear hbd D hd
          go_wp2
          go_ret
          exact ⟨by rw [unhide R]; rfl, unhide HBD⟩

end Go.Proofs.YtakcleadfcelmaaGreat

/- Contracts of the reference's small functions: fits, a truth's row. -/
namespace Go.Proofs.YtakcleadfcelmaaGreat
open Go.RowKit

set_option maxHeartbeats 400000 in
theorem rfits_is (n : Int) (b : Bool) (w : World) (hb : b = fit n) :
    Calls Tryz.prog 73 #[.int .i64 n] w fun e w' => e = .returned (.bool b) ∧ w = w' := by
  subst hb
  by_cases h1 : -1000000 ≤ n
  · by_cases h2 : n ≤ 1000000
    · have e : fit n = true := (fit_iff n).2 ⟨h1, h2⟩
      rw [e]
      clear e
      go_enter Tryz.func73, Tryz.ntmps73
      go_wp2
      go_ret
      exact ⟨rfl, rfl⟩
    · have e : fit n = false := (fit_not n).2 (by omega)
      have h3 : decide (n ≤ 1000000) = false := by simp; omega
      rw [e]
      clear e
      go_enter Tryz.func73, Tryz.ntmps73
      go_wp2
      go_ret
      exact ⟨rfl, rfl⟩
  · have e : fit n = false := (fit_not n).2 (by omega)
    have h3 : n < -1000000 := by omega
    rw [e]
    clear e h1
    go_enter Tryz.func73, Tryz.ntmps73
    go_wp2
    go_ret
    exact ⟨rfl, rfl⟩

set_option maxHeartbeats 400000 in
theorem is_any (b : Bool) (w : World) :
    Calls Tryz.prog 72 #[.bool b] w fun e w' => e = .returned (.slice (some ⟨w.heap.size, 0, none⟩) 1 1) ∧ w' = w.alloc (.cells #[.int .i64 (b01 b)] 3) := by
  cases b
  all_goals
    go_enter Tryz.func72, Tryz.ntmps72
    go_wp2
    go_ret
    exact ⟨rfl, rfl⟩

end Go.Proofs.YtakcleadfcelmaaGreat

/- An order on a list, in the reference's way: what it takes, what it puts. No program is spoken of. -/
namespace Go.Proofs.YtakcleadfcelmaaGreat
open Go.RowKit

theorem dropL_snoc (M : List Int) (a : Int) : dropL (M ++ [a]) = some M := by simp [dropL]
theorem topL_snoc (M : List Int) (a : Int) : topL (M ++ [a]) = a := by simp [topL]
theorem dropL_two (M : List Int) (a b : Int) : dropL (M ++ [a, b]) = some (M ++ [a]) := by
  rw [show M ++ [a, b] = (M ++ [a]) ++ [b] by simp]; exact dropL_snoc _ _
theorem topL_two (M : List Int) (a b : Int) : topL (M ++ [a, b]) = b := by
  rw [show M ++ [a, b] = (M ++ [a]) ++ [b] by simp]; exact topL_snoc _ _

theorem step_push (h n : Int) (L : List Int) : stepL h 1 n L = putsL L [n] := by simp [stepL, putsL]
theorem step_height (h n : Int) (L : List Int) : stepL h 12 n L = putsL L [h] := by simp [stepL, putsL]
theorem step_dup (h n : Int) (M : List Int) (a : Int) : stepL h 2 n (M ++ [a]) = putsL M [a, a] := by
  simp [stepL, putsL, dropL_snoc, topL_snoc]
theorem step_drop (h n : Int) (M : List Int) (a : Int) : stepL h 4 n (M ++ [a]) = some M := by simp [stepL, dropL_snoc]
theorem step_not (h n : Int) (M : List Int) (a : Int) : stepL h 9 n (M ++ [a]) = putsL M [b01 (a == 0)] := by
  simp [stepL, putsL, dropL_snoc, topL_snoc, g1]
theorem step_mix (h n : Int) (M : List Int) (a : Int) : stepL h 13 n (M ++ [a]) = putsL M [mixOf a] := by
  simp [stepL, putsL, dropL_snoc, topL_snoc, g1]
theorem step_verify (h n : Int) (M : List Int) (a : Int) : stepL h 11 n (M ++ [a]) = if a = 0 then none else some M := by
  simp [stepL, dropL_snoc, topL_snoc]
theorem step_swap (h n : Int) (M : List Int) (a b : Int) : stepL h 3 n (M ++ [a, b]) = putsL M [b, a] := by
  simp [stepL, putsL, dropL_two, topL_two, dropL_snoc, topL_snoc]
theorem step_add (h n : Int) (M : List Int) (a b : Int) : stepL h 5 n (M ++ [a, b]) = putsL M [a + b] := by
  simp [stepL, putsL, dropL_two, topL_two, dropL_snoc, topL_snoc, g2]
theorem step_sub (h n : Int) (M : List Int) (a b : Int) : stepL h 6 n (M ++ [a, b]) = putsL M [a - b] := by
  simp [stepL, putsL, dropL_two, topL_two, dropL_snoc, topL_snoc, g2]
theorem step_same (h n : Int) (M : List Int) (a b : Int) : stepL h 7 n (M ++ [a, b]) = putsL M [b01 (a == b)] := by
  simp [stepL, putsL, dropL_two, topL_two, dropL_snoc, topL_snoc, g2]
theorem step_less (h n : Int) (M : List Int) (a b : Int) : stepL h 8 n (M ++ [a, b]) = putsL M [b01 (decide (a < b))] := by
  simp [stepL, putsL, dropL_two, topL_two, dropL_snoc, topL_snoc, g2]
theorem step_and (h n : Int) (M : List Int) (a b : Int) : stepL h 10 n (M ++ [a, b]) = putsL M [b01 (a != 0 && b != 0)] := by
  simp [stepL, putsL, dropL_two, topL_two, dropL_snoc, topL_snoc, g2]

theorem dropL_nil : dropL [] = none := rfl
theorem step_nil (h k n : Int) (hk : k ≠ 1) (hk' : k ≠ 12) : stepL h k n [] = none := by
  simp [stepL, dropL_nil, hk, hk']
theorem step_one (h k n a : Int) (hk : k = 3 ∨ k = 5 ∨ k = 6 ∨ k = 7 ∨ k = 8 ∨ k = 10) : stepL h k n [a] = none := by
  have e : dropL [a] = some [] := rfl
  rcases hk with rfl | rfl | rfl | rfl | rfl | rfl <;> simp [stepL, e, dropL_nil]

/-- A list parted at its end. -/
theorem part_one {L : List Int} (h : 1 ≤ L.length) : ∃ M a, L = M ++ [a] := by
  have hn : L ≠ [] := fun e => by subst e; simp at h
  exact ⟨L.dropLast, L.getLast hn, (List.dropLast_concat_getLast hn).symm⟩
theorem part_two {L : List Int} (h : 2 ≤ L.length) : ∃ M a b, L = M ++ [a, b] := by
  obtain ⟨M, b, rfl⟩ := part_one (L := L) (by omega)
  obtain ⟨N, a, rfl⟩ := part_one (L := M) (by simp at h; omega)
  exact ⟨N, a, b, by simp⟩

theorem puts1_yes {M : List Int} {x : Int} (h1 : M.length < 16) (h2 : fit x = true) : putsL M [x] = some (M ++ [x]) := by
  have : ¬ M.length = 16 := by omega
  simp [putsL, putL, this, h2]
theorem puts1_full {M : List Int} {x : Int} {r : List Int} (h1 : M.length = 16) : putsL M (x :: r) = none := by simp [putsL, putL, h1]
theorem puts1_unfit {M : List Int} {x : Int} {r : List Int} (h2 : fit x = false) : putsL M (x :: r) = none := by simp [putsL, putL, h2]
theorem puts2_is {M : List Int} {x y : Int} (h1 : M.length < 16) (h2 : fit x = true) : putsL M [x, y] = putsL (M ++ [x]) [y] := by
  have : ¬ M.length = 16 := by omega
  simp [putsL, putL, this, h2]

theorem stack_parts {L : List Int} (h : stackOk L = true) : L.length ≤ 16 ∧ ∀ x ∈ L, fit x = true := by
  simpa [stackOk] using h

end Go.Proofs.YtakcleadfcelmaaGreat
