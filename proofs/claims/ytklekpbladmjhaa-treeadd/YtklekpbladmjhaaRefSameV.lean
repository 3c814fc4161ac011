/- Contracts of the reference's SameBlock and SameTree, and of rows held against each other by them. -/
import Derived.Test.YtklekpbladmjhaaRefSameU
import Derived.Test.YtklekpbladmjhaaTrMem
import Derived.Test.YtklekpbladmjhaaTrEq
namespace Go.Proofs.Ytklekpbladmjhaa
open Go.RowKit

instance decTx : DecidableEq TxD := fun a b => decidable_of_iff (sameT a b = true) (sameT_iff a b)
theorem sameT_dec (t u : TxD) : sameT t u = decide (t = u) := by
  by_cases h : t = u
  · rw [decide_eq_true h]; exact (sameT_iff t u).2 h
  · rw [decide_eq_false h]
    cases q : sameT t u with
    | false => rfl
    | true => exact absurd ((sameT_iff t u).1 q) h

set_option maxRecDepth 10000 in
set_option maxHeartbeats 6400000 in
theorem reqTxs_some (b1 o1 b2 o2 n c d : Nat) (l k : List TxD) (o : Bool) (w : World) (hn : n ≤ maxLen) (z1 : l.length = n) (z2 : k.length = n)
    (h1 : ∀ i (h : i < l.length), TxAt w b1 (o1 + i * 3) l[i]) (h2 : ∀ i (h : i < k.length), TxAt w b2 (o2 + i * 3) k[i]) (ho : decide (l = k) = o) :
    Calls Try.prog 36 #[.slice (some ⟨b1, o1, none⟩) n c, .slice (some ⟨b2, o2, none⟩) n d, .func (.func 37) #[] #[]] w fun e w' => e = .returned (.bool o) ∧ Below w.heap.size w w' := by
  subst ho
  unfold maxLen at hn
  have H1 := hide h1
  have H2 := hide h2
  have Z1 := hide z1
  have Z2 := hide z2
  clear h1 h2 z1 z2
  go_enter Try.func36, Try.ntmps36
  go_wp2
  go_loopw [17] (fun i wr => ∃ j : Nat, j ≤ n ∧ i = .int .i64 j ∧ Below w.heap.size w wr ∧ Hid (l.take j = k.take j)) (fun i _ => n - (intOf i).toNat)
  case atStart => exact ⟨0, Nat.zero_le _, rfl, Below.refl _ _, rfl⟩
  case round =>
    obtain ⟨j, hk, rfl, hb, A⟩ := hrel
    have HB := hide hb
    by_cases hlt : j < n
    · have hl1 : j < l.length := by rw [unhide Z1]; exact hlt
      have hl2 : j < k.length := by rw [unhide Z2]; exact hlt
      have g := TxAt.kept _ _ _ _ _ hb ((unhide H1) j hl1)
      have f := TxAt.kept _ _ _ _ _ hb ((unhide H2) j hl2)
      have TS := hide (take_same hl1 hl2 (unhide A))
      have TU := hide (take_unlike hl1 hl2)
      obtain ⟨q, hq⟩ : ∃ q, l[j] = q := ⟨_, rfl⟩
      obtain ⟨r, hr⟩ : ∃ r, k[j] = r := ⟨_, rfl⟩
      rw [hq] at g
      rw [hr] at f
      rw [hq, hr] at TS TU
      obtain ⟨q1, qI, qO⟩ := q
      obtain ⟨r1, rI, rO⟩ := r
      obtain ⟨g1, ⟨qa, qn, qc, g2, gh4, gh5⟩, qb, qm, qd, g3, gh6, gh7⟩ := g
      obtain ⟨f1, ⟨ra, rn, rc, f2, fh4, fh5⟩, rb, rm, rd, f3, fh6, fh7⟩ := f
      simp only at g1 g2 g3 gh4 gh6 gh5 gh7 f1 f2 f3 fh4 fh6 fh5 fh7
      have lt2 : b2 < wr.heap.size := World.block_lt_of_cell? _ _ f1
      have hb2 := bel_on (bel_new wr (.cells #[.int .i64 q1, .slice qa qn qc, .slice qb qm qd] 71)) (bel_new _ (.cells #[.int .i64 r1, .slice ra rn rc, .slice rb rm rd] 71))
      have HB2 := hide hb2
      have C : Hid (∀ o, decide (((q1, qI, qO) : TxD) = (r1, rI, rO)) = o → Calls Try.prog 37 #[.agg #[.int .i64 q1, .slice qa qn qc, .slice qb qm qd], .agg #[.int .i64 r1, .slice ra rn rc, .slice rb rm rd]] ((wr.alloc (.cells #[.int .i64 q1, .slice qa qn qc, .slice qb qm qd] 71)).alloc (.cells #[.int .i64 r1, .slice ra rn rc, .slice rb rm rd] 71)) fun e w' => e = .returned (.bool o) ∧ Below _ _ w') :=
        fun o ho => rsameTx_is q1 r1 qa qb ra rb qn qc qm qd rn rc rm rd qI rI qO rO o _ gh5.len gh7.len (gh4.later hb2) (gh6.later hb2) (fh4.later hb2) (fh6.later hb2) ((sameT_dec _ _).trans ho)
      clear hq hr A hb hb2 gh4 gh6 gh5 gh7 fh4 fh6 fh5 fh7
      by_cases he : ((q1, qI, qO) : TxD) = (r1, rI, rO)
      · have T := hide ((unhide TS) he)
        have C2 := hide ((unhide C) true (decide_eq_true he))
        clear TS TU C he
        go_wp2_with fail
        refine (unhide C2).mono ?_
        rintro e w3 ⟨rfl, hb3⟩
        have HB3 := hide (bel_on (bel_on (unhide HB) (unhide HB2)) hb3)
        clear hb3
        go_wp2
        go_roundw
        case rel => exact ⟨j + 1, by omega, by go_num, unhide HB3, T⟩
        case measure => simp [intOf]; omega
      · have U : Hid (decide (l = k) = false) := decide_eq_false ((unhide TU) he)
        have C2 := hide ((unhide C) false (decide_eq_false he))
        clear TS TU C he
        go_wp2_with fail
        refine (unhide C2).mono ?_
        rintro e w3 ⟨rfl, hb3⟩
        have HB3 := hide (bel_on (bel_on (unhide HB) (unhide HB2)) hb3)
        clear hb3
        go_wp2
        go_ret
        exact ⟨by rw [unhide U]; rfl, unhide HB3⟩
    · have U : Hid (decide (l = k) = true) := by
        have h := unhide A
        rw [List.take_of_length_le (by rw [unhide Z1]; omega), List.take_of_length_le (by rw [unhide Z2]; omega)] at h
        exact decide_eq_true h
      clear A hb
      go_wp2
      go_ret
      exact ⟨by rw [unhide U]; rfl, unhide HB⟩

set_option maxHeartbeats 400000 in
theorem reqTxs_lens (a b : Option Addr) (n m c d : Nat) (v : Value) (w : World) (h : n ≠ m) :
    Calls Try.prog 36 #[.slice a n c, .slice b m d, v] w fun e w' => e = .returned (.bool false) ∧ w = w' := by
  have g : ((n : Int) != (m : Int)) = true := by simp; omega
  clear h
  go_enter Try.func36, Try.ntmps36
  go_wp2
  go_ret
  exact ⟨rfl, rfl⟩
set_option maxHeartbeats 400000 in
theorem reqTxs_none (a b : Option Addr) (c d : Nat) (v : Value) (w : World) :
    Calls Try.prog 36 #[.slice a 0 c, .slice b 0 d, v] w fun e w' => e = .returned (.bool true) ∧ w = w' := by
  go_enter Try.func36, Try.ntmps36
  go_wp2
  refine wp_loop_rounds 1 ?_
  rw [rounds_succ]
  go_wp2
  go_ret
  exact ⟨rfl, rfl⟩
theorem reqTxs_is (a b : Option Addr) (n m c d : Nat) (l k : List TxD) (o : Bool) (w : World) (hn : n ≤ maxLen) (hA : RowsAt TxAt 3 w a n l) (hB : RowsAt TxAt 3 w b m k) (ho : decide (l = k) = o) :
    Calls Try.prog 36 #[.slice a n c, .slice b m d, .func (.func 37) #[] #[]] w fun e w' => e = .returned (.bool o) ∧ Below w.heap.size w w' := by
  by_cases h : n = m
  · subst h
    by_cases h0 : n = 0
    · subst h0
      have e1 : l = [] := List.length_eq_zero_iff.1 hA.1
      have e2 : k = [] := List.length_eq_zero_iff.1 hB.1
      subst e1 e2
      rw [decide_eq_true rfl] at ho
      subst ho
      exact (reqTxs_none a b c d _ w).mono fun e w' ⟨h1, h2⟩ => ⟨h1, h2 ▸ Below.refl _ _⟩
    · obtain ⟨b1, o1, rfl, _, h1⟩ := hA.2 (by omega)
      obtain ⟨b2, o2, rfl, _, h2⟩ := hB.2 (by omega)
      exact reqTxs_some b1 o1 b2 o2 n c d l k o w hn hA.1 hB.1 h1 h2 ho
  · have e : l ≠ k := fun e => h (by rw [← hA.1, ← hB.1, e])
    rw [decide_eq_false e] at ho
    subst ho
    exact (reqTxs_lens a b n m c d _ w h).mono fun e w' ⟨h1, h2⟩ => ⟨h1, h2 ▸ Below.refl _ _⟩

set_option maxRecDepth 10000 in
set_option maxHeartbeats 6400000 in
theorem rsameBlk_is (p h k n p' h' k' n' : Int) (a b : Option Addr) (m c m' c' : Nat) (T U : List TxD) (o : Bool) (w : World) (hm : m ≤ maxLen) (hT : TxsAt w a m T) (hU : TxsAt w b m' U) (ho : decide (((p, h, k, n, T) : BlkD) = (p', h', k', n', U)) = o) :
    Calls Try.prog 14 #[.agg #[.int .i64 p, .int .i64 h, .int .i64 k, .int .i64 n, .slice a m c], .agg #[.int .i64 p', .int .i64 h', .int .i64 k', .int .i64 n', .slice b m' c']] w fun e w' => e = .returned (.bool o) ∧ Below w.heap.size w w' := by
  have hb1 := bel_new w (.cells #[.int .i64 p, .int .i64 h, .int .i64 k, .int .i64 n, .slice a m c] 28)
  have hb2 := bel_new (w.alloc (.cells #[.int .i64 p, .int .i64 h, .int .i64 k, .int .i64 n, .slice a m c] 28)) (.cells #[.int .i64 p', .int .i64 h', .int .i64 k', .int .i64 n', .slice b m' c'] 28)
  have hb := bel_on hb1 hb2
  have HB := hide hb
  by_cases e0 : p = p'
  rotate_left
  · have e : o = false := by rw [← ho]; exact decide_eq_false (fun e => e0 (congrArg (fun z : BlkD => z.1) e))
    subst e
    have g0 : (p == p') = false := by simp [e0]
    clear hT hU ho hb hb1 hb2 e0
    go_enter Try.func14, Try.ntmps14
    go_wp2
    go_ret
    exact ⟨rfl, unhide HB⟩
  subst e0
  by_cases e1 : h = h'
  rotate_left
  · have e : o = false := by rw [← ho]; exact decide_eq_false (fun e => e1 (congrArg (fun z : BlkD => z.2.1) e))
    subst e
    have g1 : (h == h') = false := by simp [e1]
    clear hT hU ho hb hb1 hb2 e1
    go_enter Try.func14, Try.ntmps14
    go_wp2
    go_ret
    exact ⟨rfl, unhide HB⟩
  subst e1
  by_cases e2 : k = k'
  rotate_left
  · have e : o = false := by rw [← ho]; exact decide_eq_false (fun e => e2 (congrArg (fun z : BlkD => z.2.2.1) e))
    subst e
    have g2 : (k == k') = false := by simp [e2]
    clear hT hU ho hb hb1 hb2 e2
    go_enter Try.func14, Try.ntmps14
    go_wp2
    go_ret
    exact ⟨rfl, unhide HB⟩
  subst e2
  by_cases e3 : n = n'
  rotate_left
  · have e : o = false := by rw [← ho]; exact decide_eq_false (fun e => e3 (congrArg (fun z : BlkD => z.2.2.2.1) e))
    subst e
    have g3 : (n == n') = false := by simp [e3]
    clear hT hU ho hb hb1 hb2 e3
    go_enter Try.func14, Try.ntmps14
    go_wp2
    go_ret
    exact ⟨rfl, unhide HB⟩
  subst e3
  have C := hide (reqTxs_is a b m m' c c' T U o _ hm (hT.later hb) (hU.later hb) (by rw [← ho]; simp))
  clear hT hU ho hb hb1 hb2
  go_enter Try.func14, Try.ntmps14
  go_wp2_with fail
  refine (unhide C).mono ?_
  rintro e w2 ⟨rfl, hb2⟩
  have HB2 := hide (bel_on (unhide HB) hb2)
  clear hb2
  go_wp2
  go_ret
  exact ⟨rfl, unhide HB2⟩
theorem rsameBlk_zero (p h k n : Int) (a : Option Addr) (m c : Nat) (T : List TxD) (o : Bool) (w : World) (hm : m ≤ maxLen) (hT : TxsAt w a m T) (ho : decide (((p, h, k, n, T) : BlkD) = zeroB) = o) :
    Calls Try.prog 14 #[.agg #[.int .i64 p, .int .i64 h, .int .i64 k, .int .i64 n, .slice a m c], .agg #[.int .i64 0, .int .i64 0, .int .i64 0, .int .i64 0, .slice none 0 0]] w fun e w' => e = .returned (.bool o) ∧ Below w.heap.size w w' :=
  rsameBlk_is p h k n 0 0 0 0 a none m c 0 0 T [] o w hm hT (RowsAt.nil _ _) ho

end Go.Proofs.Ytklekpbladmjhaa
