/- The contract of the reference's SameTree. -/
import Derived.Test.YtklekpbladmjhaaRefSameV
namespace Go.Proofs.Ytklekpbladmjhaa
open Go.RowKit

set_option maxRecDepth 10000 in
set_option maxHeartbeats 6400000 in
theorem reqBlks_some (b1 o1 b2 o2 n c d : Nat) (l k : List BlkD) (o : Bool) (w : World) (hn : n ≤ maxLen) (z1 : l.length = n) (z2 : k.length = n)
    (h1 : ∀ i (h : i < l.length), BlkAt w b1 (o1 + i * 5) l[i]) (h2 : ∀ i (h : i < k.length), BlkAt w b2 (o2 + i * 5) k[i]) (ho : decide (l = k) = o) :
    Calls Try.prog 35 #[.slice (some ⟨b1, o1, none⟩) n c, .slice (some ⟨b2, o2, none⟩) n d, .func (.func 14) #[] #[]] w fun e w' => e = .returned (.bool o) ∧ Below w.heap.size w w' := by
  subst ho
  unfold maxLen at hn
  have H1 := hide h1
  have H2 := hide h2
  have Z1 := hide z1
  have Z2 := hide z2
  clear h1 h2 z1 z2
  go_enter Try.func35, Try.ntmps35
  go_wp2
  go_loopw [17] (fun i wr => ∃ j : Nat, j ≤ n ∧ i = .int .i64 j ∧ Below w.heap.size w wr ∧ Hid (l.take j = k.take j)) (fun i _ => n - (intOf i).toNat)
  case atStart => exact ⟨0, Nat.zero_le _, rfl, Below.refl _ _, rfl⟩
  case round =>
    obtain ⟨j, hk, rfl, hb, A⟩ := hrel
    have HB := hide hb
    by_cases hlt : j < n
    · have hl1 : j < l.length := by rw [unhide Z1]; exact hlt
      have hl2 : j < k.length := by rw [unhide Z2]; exact hlt
      have g := BlkAt.kept _ _ _ _ _ hb ((unhide H1) j hl1)
      have f := BlkAt.kept _ _ _ _ _ hb ((unhide H2) j hl2)
      have TS := hide (take_same hl1 hl2 (unhide A))
      have TU := hide (take_unlike hl1 hl2)
      obtain ⟨q, hq⟩ : ∃ q, l[j] = q := ⟨_, rfl⟩
      obtain ⟨r, hr⟩ : ∃ r, k[j] = r := ⟨_, rfl⟩
      rw [hq] at g
      rw [hr] at f
      rw [hq, hr] at TS TU
      obtain ⟨q1, q2, q3, q4, qT⟩ := q
      obtain ⟨r1, r2, r3, r4, rT⟩ := r
      obtain ⟨g1, g2, g3, g4, qa, qn, qc, g6, gh4, gh5⟩ := g
      obtain ⟨f1, f2, f3, f4, ra, rn, rc, f6, fh4, fh5⟩ := f
      simp only at g1 g2 g3 g4 g6 gh4 gh5 f1 f2 f3 f4 f6 fh4 fh5
      have lt2 : b2 < wr.heap.size := World.block_lt_of_cell? _ _ f1
      have hb2 := bel_on (bel_new wr (.cells #[.int .i64 q1, .int .i64 q2, .int .i64 q3, .int .i64 q4, .slice qa qn qc] 28)) (bel_new _ (.cells #[.int .i64 r1, .int .i64 r2, .int .i64 r3, .int .i64 r4, .slice ra rn rc] 28))
      have HB2 := hide hb2
      have C : Hid (∀ o, decide (((q1, q2, q3, q4, qT) : BlkD) = (r1, r2, r3, r4, rT)) = o → Calls Try.prog 14 #[.agg #[.int .i64 q1, .int .i64 q2, .int .i64 q3, .int .i64 q4, .slice qa qn qc], .agg #[.int .i64 r1, .int .i64 r2, .int .i64 r3, .int .i64 r4, .slice ra rn rc]] ((wr.alloc (.cells #[.int .i64 q1, .int .i64 q2, .int .i64 q3, .int .i64 q4, .slice qa qn qc] 28)).alloc (.cells #[.int .i64 r1, .int .i64 r2, .int .i64 r3, .int .i64 r4, .slice ra rn rc] 28)) fun e w' => e = .returned (.bool o) ∧ Below _ _ w') :=
        fun o ho => rsameBlk_is q1 q2 q3 q4 r1 r2 r3 r4 qa ra qn qc rn rc qT rT o _ gh5.len (gh4.later hb2) (fh4.later hb2) ho
      clear hq hr A hb hb2 gh4 gh5 fh4 fh5
      by_cases he : ((q1, q2, q3, q4, qT) : BlkD) = (r1, r2, r3, r4, rT)
      · have T := hide ((unhide TS) he)
        have C2 := hide ((unhide C) true (decide_eq_true he))
        clear TS TU C he
        go_wp2_with fail
        refine (unhide C2).mono ?_
        rintro e w3 ⟨rfl, hb3⟩
        have HB3 := hide (bel_on (bel_on (unhide HB) (unhide HB2)) hb3)
        clear hb3
        go_wp2
        go_roundw
        case rel => exact ⟨j + 1, by omega, by go_num, unhide HB3, T⟩
        case measure => simp [intOf]; omega
      · have U : Hid (decide (l = k) = false) := decide_eq_false ((unhide TU) he)
        have C2 := hide ((unhide C) false (decide_eq_false he))
        clear TS TU C he
        go_wp2_with fail
        refine (unhide C2).mono ?_
        rintro e w3 ⟨rfl, hb3⟩
        have HB3 := hide (bel_on (bel_on (unhide HB) (unhide HB2)) hb3)
        clear hb3
        go_wp2
        go_ret
        exact ⟨by rw [unhide U]; rfl, unhide HB3⟩
    · have U : Hid (decide (l = k) = true) := by
        have h := unhide A
        rw [List.take_of_length_le (by rw [unhide Z1]; omega), List.take_of_length_le (by rw [unhide Z2]; omega)] at h
        exact decide_eq_true h
      clear A hb
      go_wp2
      go_ret
      exact ⟨by rw [unhide U]; rfl, unhide HB⟩

set_option maxHeartbeats 400000 in
theorem reqBlks_lens (a b : Option Addr) (n m c d : Nat) (v : Value) (w : World) (h : n ≠ m) :
    Calls Try.prog 35 #[.slice a n c, .slice b m d, v] w fun e w' => e = .returned (.bool false) ∧ w = w' := by
  have g : ((n : Int) != (m : Int)) = true := by simp; omega
  clear h
  go_enter Try.func35, Try.ntmps35
  go_wp2
  go_ret
  exact ⟨rfl, rfl⟩
set_option maxHeartbeats 400000 in
theorem reqBlks_none (a b : Option Addr) (c d : Nat) (v : Value) (w : World) :
    Calls Try.prog 35 #[.slice a 0 c, .slice b 0 d, v] w fun e w' => e = .returned (.bool true) ∧ w = w' := by
  go_enter Try.func35, Try.ntmps35
  go_wp2
  refine wp_loop_rounds 1 ?_
  rw [rounds_succ]
  go_wp2
  go_ret
  exact ⟨rfl, rfl⟩
theorem reqBlks_is (a b : Option Addr) (n m c d : Nat) (l k : List BlkD) (o : Bool) (w : World) (hn : n ≤ maxLen) (hA : RowsAt BlkAt 5 w a n l) (hB : RowsAt BlkAt 5 w b m k) (ho : decide (l = k) = o) :
    Calls Try.prog 35 #[.slice a n c, .slice b m d, .func (.func 14) #[] #[]] w fun e w' => e = .returned (.bool o) ∧ Below w.heap.size w w' := by
  by_cases h : n = m
  · subst h
    by_cases h0 : n = 0
    · subst h0
      have e1 : l = [] := List.length_eq_zero_iff.1 hA.1
      have e2 : k = [] := List.length_eq_zero_iff.1 hB.1
      subst e1 e2
      rw [decide_eq_true rfl] at ho
      subst ho
      exact (reqBlks_none a b c d _ w).mono fun e w' ⟨h1, h2⟩ => ⟨h1, h2 ▸ Below.refl _ _⟩
    · obtain ⟨b1, o1, rfl, _, h1⟩ := hA.2 (by omega)
      obtain ⟨b2, o2, rfl, _, h2⟩ := hB.2 (by omega)
      exact reqBlks_some b1 o1 b2 o2 n c d l k o w hn hA.1 hB.1 h1 h2 ho
  · have e : l ≠ k := fun e => h (by rw [← hA.1, ← hB.1, e])
    rw [decide_eq_false e] at ho
    subst ho
    exact (reqBlks_lens a b n m c d _ w h).mono fun e w' ⟨h1, h2⟩ => ⟨h1, h2 ▸ Below.refl _ _⟩

set_option maxRecDepth 10000 in
set_option maxHeartbeats 6400000 in
theorem rsameTree_is (a b a' b' : Option Addr) (n c m d n' c' m' d' : Nat) (N N' : List Int) (T T' : List BlkD) (o : Bool) (w : World) (hn : n ≤ maxLen) (hm : m ≤ maxLen) (hN : IntsAt w a n N) (hT : BlksAt w b m T) (hN' : IntsAt w a' n' N') (hT' : BlksAt w b' m' T')
    (ho : decide (N = N' ∧ T = T') = o) :
    Calls Try.prog 13 #[.agg #[.slice a n c, .slice b m d], .agg #[.slice a' n' c', .slice b' m' d']] w fun e w' => e = .returned (.bool o) ∧ Below w.heap.size w w' := by
  obtain ⟨X, hX⟩ : ∃ X, X = (w.alloc (.cells #[.slice a n c, .slice b m d] 25)).alloc (.cells #[.slice a' n' c', .slice b' m' d'] 25) := ⟨_, rfl⟩
  have hb : Below w.heap.size w X := by rw [hX]; exact bel_on (bel_new _ _) (bel_new _ _)
  have hX0 : X.heap[w.heap.size]? = some (.cells [.slice a n c, .slice b m d].toArray 25 (0, 0)) := by rw [hX, Below.heap_alloc _ _ _ (by simp)]; exact two_heap _ _ _ _
  have hX1 : X.heap[w.heap.size + 1]? = some (.cells [.slice a' n' c', .slice b' m' d'].toArray 25 (0, 0)) := by
    rw [hX]
    have := two_heap (w.alloc (.cells #[.slice a n c, .slice b m d] 25)) (.slice a' n' c') (.slice b' m' d') 25
    rw [show (w.alloc (.cells #[.slice a n c, .slice b m d] 25)).heap.size = w.heap.size + 1 by simp] at this
    exact this
  have HB := hide hb
  have HX0 := hide hX0
  have HX1 := hide hX1
  have x0 := cell_of hX0 0 _ rfl
  have x1 := cell_of hX0 1 _ rfl
  have xl := lt_of_block hX0
  have v0 := cell_of hX1 0 _ rfl
  have v1 := cell_of hX1 1 _ rfl
  have vl := lt_of_block hX1
  by_cases e : N = N'
  · subst e
    have C := hide (eqInt_is a a' n n' c c' N N true X hn (hN.later hb) (hN'.later hb) (by simp))
    have C2 := hide (fun W (hW : Below X.heap.size X W) => reqBlks_is b b' m m' d d' T T' o W hm ((hT.later hb).later hW) ((hT'.later hb).later hW) (by rw [← ho]; simp))
    clear hN hT hN' hT' ho hb hX0 hX1
    go_enter Try.func13, Try.ntmps13
    go_wp2_with fail
    rw [← hX]
    clear hX
    refine (unhide C).mono ?_
    rintro e w1 ⟨rfl, hb1⟩
    have hy0 := (hb1.block _ (lt_of_block (unhide HX0))).trans (unhide HX0)
    have hy1 := (hb1.block _ (lt_of_block (unhide HX1))).trans (unhide HX1)
    have y0 := cell_of hy0 1 _ rfl
    have yl := lt_of_block hy0
    have u0 := cell_of hy1 1 _ rfl
    have ul := lt_of_block hy1
    have CC := hide ((unhide C2) w1 hb1)
    have HB1 := hide (bel_on (unhide HB) hb1)
    clear hb1 hy0 hy1 x0 x1 xl v0 v1 vl
    go_wp2_with fail
    refine (unhide CC).mono ?_
    rintro e w2 ⟨rfl, hb2⟩
    have HB2 := hide (bel_on (unhide HB1) hb2)
    clear hb2
    go_wp2
    go_ret
    exact ⟨rfl, unhide HB2⟩
  · have C := hide (eqInt_is a a' n n' c c' N N' false X hn (hN.later hb) (hN'.later hb) (by simp [e]))
    obtain rfl : false = o := by rw [← ho]; simp [e]
    clear hN hT hN' hT' ho hb hX0 hX1
    go_enter Try.func13, Try.ntmps13
    go_wp2_with fail
    rw [← hX]
    clear hX
    refine (unhide C).mono ?_
    rintro e w1 ⟨rfl, hb1⟩
    have HB1 := hide (bel_on (unhide HB) hb1)
    clear hb1
    go_wp2
    go_ret
    exact ⟨rfl, unhide HB1⟩

end Go.Proofs.Ytklekpbladmjhaa
