/- Mathematics of the law BlockBack: what is printed of a right block is read. -/
import Derived.Test.YtepmnpapdknocaaGreatDoorTxLinesCToBlkParseM
import Derived.Lib.IndexMore
import Derived.Test.YtepmnpapdknocaaGreatDoorTxSameToCoinEq
import Derived.Test.YtepmnpapdknocaaGreatDoorTxPrintToBlkPrint
import Derived.Test.YtepmnpapdknocaaGreatDoorBlkMemToBlkHead
import Derived.DeepKeys
import Derived.Laws.StructEq
namespace Go.Proofs.YtepmnpapdknocaaGreatDoor
open Go.RowKit

theorem cut_line (x r : List UInt8) (h : ∀ b ∈ x, b ≠ 10) : Lib.cut (x ++ 10 :: r) [10] = (x, r, true) := by
  have hi : Lib.index (x ++ 10 :: r) [10] = (x.length : Int) := by rw [Lib.index_one]; exact idx_hit 10 x r h
  unfold Lib.cut
  rw [hi, if_pos (by omega), Int.toNat_natCast, List.take_left]
  have hd : (x ++ 10 :: r).drop (x.length + ([10] : List UInt8).length) = r := by
    rw [List.length_singleton, ← List.drop_drop, List.drop_left]; rfl
  rw [hd]
def cutL : List UInt8 := [10, 116, 120, 32]
theorem occ_line (x rest : List UInt8) (h : ∀ b ∈ x, b ≠ 10) (j : Nat) : Lib.occAt (x ++ 10 :: rest) cutL j = if j < x.length then false else if j = x.length then [116, 120, 32].isPrefixOf rest else Lib.occAt rest cutL (j - x.length - 1) := by
  unfold Lib.occAt cutL
  split
  · next q =>
    rw [List.drop_append_of_le_length (by omega), List.drop_eq_getElem_cons q, List.cons_append, List.isPrefixOf]
    have := h x[j] (List.getElem_mem q)
    rw [show ((10 : UInt8) == x[j]) = false by simpa using Ne.symm this]
    rfl
  · split
    · next q =>
      subst q
      rw [List.drop_left]
      simp [List.isPrefixOf]
    · next q1 q2 =>
      congr 1
      rw [show j = x.length + (1 + (j - x.length - 1)) by omega, ← List.drop_drop, List.drop_left, ← List.drop_drop]
      simp
theorem pre_no (y r : List UInt8) (h : y.head? ≠ some 116) : [116, 120, 32].isPrefixOf (y ++ 10 :: r) = false := by
  cases y with
  | nil => simp [List.isPrefixOf]
  | cons b y =>
    have : b ≠ 116 := fun e => h (by rw [e]; rfl)
    simp [List.isPrefixOf, Ne.symm this]
theorem unl_len_pos (x : List UInt8) (ls : List (List UInt8)) : 0 < (unl (x :: ls)).length := by rw [unl_cons]; simp; omega
theorem occ_none : ∀ (ls : List (List UInt8)) (x r : List UInt8), (∀ b ∈ x, b ≠ 10) → (∀ y ∈ ls, (∀ b ∈ y, b ≠ 10) ∧ y.head? ≠ some 116) → ∀ j, j < (unl (x :: ls)).length - 1 → Lib.occAt (unl (x :: ls) ++ r) cutL j = false
  | [], x, r, hx, _, j, hj => by
    rw [unl_cons] at hj ⊢
    simp [unl] at hj
    rw [List.append_assoc, List.cons_append, occ_line x _ hx, if_pos hj]
  | y :: ls, x, r, hx, hl, j, hj => by
    rw [unl_cons x] at hj ⊢
    rw [List.append_assoc, List.cons_append, occ_line x _ hx]
    obtain ⟨hy, hh⟩ := hl y (by simp)
    split
    · rfl
    · split
      · rw [unl_cons y, List.append_assoc, List.cons_append]
        exact pre_no y _ hh
      · refine occ_none ls y r hy (fun z hz => hl z (by simp [hz])) _ ?_
        simp only [List.length_append, List.length_cons] at hj
        have := unl_len_pos y ls
        omega
theorem occ_end : ∀ (ls : List (List UInt8)) (x r : List UInt8), (∀ b ∈ x, b ≠ 10) → (∀ y ∈ ls, ∀ b ∈ y, b ≠ 10) → Lib.occAt (unl (x :: ls) ++ r) cutL ((unl (x :: ls)).length - 1) = [116, 120, 32].isPrefixOf r
  | [], x, r, hx, _ => by
    rw [unl_cons, List.append_assoc, List.cons_append, occ_line x _ hx]
    simp [unl]
  | y :: ls, x, r, hx, hl => by
    rw [unl_cons x, List.append_assoc, List.cons_append, occ_line x _ hx]
    have hp := unl_len_pos y ls
    simp only [List.length_append, List.length_cons]
    rw [if_neg (by omega), if_neg (by omega), show x.length + ((unl (y :: ls)).length + 1) - 1 - x.length - 1 = (unl (y :: ls)).length - 1 by omega]
    exact occ_end ls y r (hl y (by simp)) (fun z hz => hl z (by simp [hz]))
theorem occ_past (s : List UInt8) (j : Nat) (h : s.length ≤ j) : Lib.occAt s cutL j = false := by
  unfold Lib.occAt
  rw [List.drop_of_length_le h]
  rfl

/-- Where the first transaction of a text ends. -/
theorem endP_tx (t : TxD) (ht : chkTx t = 0) (T : List TxD) : endP (txText t ++ txsText T) = (txText t).size := by
  obtain ⟨x, ls, e, _, hls⟩ := lns_split t
  have hfree := lns_free ht
  rw [e] at hfree
  have hx : ∀ b ∈ x, b ≠ 10 := hfree x (by simp)
  have hl : ∀ y ∈ ls, (∀ b ∈ y, b ≠ 10) ∧ y.head? ≠ some 116 := fun y hy => ⟨hfree y (by simp [hy]), hls y hy⟩
  have hs : (txText t ++ txsText T).data.toList = unl (x :: ls) ++ unl (lnsTs T) := by
    simp [ByteArray.data_append, tx_unl, txs_unl, e]
  have hsz : (txText t).size = (unl (x :: ls)).length := by rw [← e, ← tx_unl, Array.length_toList]; rfl
  have hp := unl_len_pos x ls
  unfold endP
  rw [hs, show cutB.data.toList = cutL from rfl]
  cases T with
  | nil =>
    have hi : Lib.index (unl (x :: ls) ++ unl (lnsTs [])) cutL = -1 := Lib.index_none (fun j hj => by
      rcases Nat.lt_trichotomy j ((unl (x :: ls)).length - 1) with q | q | q
      · exact occ_none ls x _ hx hl j q
      · rw [q, occ_end ls x _ hx (fun y hy => (hl y hy).1)]
        rfl
      · exact occ_past _ _ (by simp [lnsTs, unl] at hj ⊢; simp [unl] at q; omega))
    rw [if_pos hi]
    rw [hsz]
    show ((txText t ++ txsText []).data.toList).length = _ 
    rw [hs]
    simp [lnsTs, unl]
  | cons u T =>
    have hpre : [116, 120, 32].isPrefixOf (unl (lnsTs (u :: T))) = true := by
      have e2 : lnsTs (u :: T) = (rowB txB [u.1]).data.toList :: ((u.2.1.map inL ++ u.2.2.map outL).map (·.data.toList) ++ lnsTs T) := by simp [lnsTs, lnsT]
      rw [e2, unl_cons, row_fold]
      rfl
    have hi : Lib.index (unl (x :: ls) ++ unl (lnsTs (u :: T))) cutL = ((unl (x :: ls)).length - 1 : Nat) := Lib.index_first (by simp; omega) (by rw [occ_end ls x _ hx (fun y hy => (hl y hy).1)]; exact hpre) (fun j hj => occ_none ls x _ hx hl j hj)
    rw [hi, if_neg (by omega), hsz]
    omega

theorem ext_left (a b : ByteArray) : (a ++ b).extract 0 a.size = a := by
  apply ba_ext
  rw [ext_list, size_list]
  simp [ByteArray.data_append]
theorem ext_right (a b : ByteArray) : (a ++ b).extract a.size (a ++ b).size = b := by
  apply ba_ext
  rw [ext_list, size_list, size_list]
  simp [ByteArray.data_append]
  rw [List.take_of_length_le (by rw [← size_list]; exact Nat.le_refl _)]
theorem txText_pos (t : TxD) : 0 < (txText t).size := by
  obtain ⟨x, ls, e, _⟩ := lns_split t
  have : (txText t).size = (unl (x :: ls)).length := by rw [← e, ← tx_unl, Array.length_toList]; rfl
  have := unl_len_pos x ls
  omega
theorem pcsF_txs : ∀ (T : List TxD) (f : Nat), (∀ t ∈ T, chkTx t = 0) → (txsText T).size ≤ f → pcsF f (txsText T) = T.map txText
  | [], f, _, _ => by
    rw [pcsF_none f _ rfl]
    rfl
  | t :: T, f, h, hf => by
    have e : txsText (t :: T) = txText t ++ txsText T := rfl
    have hp := txText_pos t
    have hz : (txsText (t :: T)).size = (txText t).size + (txsText T).size := by rw [e, ByteArray.size_append]
    obtain ⟨g, rfl⟩ : ∃ g, f = g + 1 := ⟨f - 1, by omega⟩
    rw [pcsF_step g _ (by omega), e, endP_tx t (h t (by simp)) T, ext_left, ext_right, pcsF_txs T g (fun u hu => h u (by simp [hu])) (by omega)]
    rfl
theorem txs_each : ∀ (T : List TxD), ∀ t ∈ T, (txText t).size ≤ (txsText T).size
  | [], t, h => by cases h
  | u :: T, t, h => by
    have hz : (txsText (u :: T)).size = (txText u).size + (txsText T).size := by rw [show txsText (u :: T) = txText u ++ txsText T from rfl, ByteArray.size_append]
    rcases List.mem_cons.1 h with rfl | h
    · omega
    · have := txs_each T t h
      omega
theorem prsGo_map : ∀ (T acc : List TxD), (∀ t ∈ T, chkTx t = 0 ∧ (txText t).size ≤ 4000) → prsGo acc (T.map txText) = (0, acc ++ T)
  | [], acc, _ => by simp [prsGo]
  | t :: T, acc, h => by
    obtain ⟨h1, h2⟩ := h t (by simp)
    have e1 : pE (txText t) = 0 := by unfold pE; rw [if_neg (by omega), tx_back t h1]; exact h1
    have e2 : pT (txText t) = t := by unfold pT; rw [if_pos e1, tx_back t h1]; rfl
    rw [List.map_cons, prsGo, if_neg (by simp [e1]), e2, prsGo_map T (acc ++ [t]) (fun u hu => h u (by simp [hu])), List.append_assoc]
    rfl
/-- What is printed of a right block is read. -/
theorem blk_back (b : BlkD) (hb : chkB b = 0) (hs : (blkText b).size ≤ 4000) : prB (blkText b) = (0, b) := by
  have f := chkB_zero (p := b.1) (h := b.2.1) (k := b.2.2.1) (n := b.2.2.2.1) (T := b.2.2.2.2) hb
  have hd : (blkText b).data.toList = (rowB blockB [b.1, b.2.1, b.2.2.1, b.2.2.2.1]).data.toList ++ 10 :: (txsText b.2.2.2.2).data.toList := by simp [blkText, ByteArray.data_append]
  have hc := cut_line _ (txsText b.2.2.2.2).data.toList (row_free blockB [b.1, b.2.1, b.2.2.1, b.2.2.2.1] 10 (fun b hb => (block_signs b hb).2.2) (.inr rfl))
  have e1 : cutN (blkText b) = rowB blockB [b.1, b.2.1, b.2.2.1, b.2.2.2.1] := by unfold cutN; rw [hd, hc]
  have e2 : resN (blkText b) = txsText b.2.2.2.2 := by unfold resN; rw [hd, hc]
  have e3 : rowOf (rowB blockB [b.1, b.2.1, b.2.2.1, b.2.2.2.1]) blockB 4 = some [b.1, b.2.1, b.2.2.1, b.2.2.2.1] := rowOf_row blockB [b.1, b.2.1, b.2.2.1, b.2.2.2.1] (fun b hb => (block_signs b hb).1) (head_fits f.1)
  have hz : (txsText b.2.2.2.2).size ≤ (blkText b).size := by
    rw [size_list, size_list, hd]
    simp
    omega
  have e4 : prsGo [] (pcs (txsText b.2.2.2.2)) = (0, b.2.2.2.2) := by
    unfold pcs
    rw [pcsF_txs _ _ f.2.2.2.2 (Nat.le_refl _), prsGo_map _ [] (fun t ht => ⟨f.2.2.2.2 t ht, Nat.le_trans (txs_each _ t ht) (Nat.le_trans hz hs)⟩)]
    rfl
  unfold prB
  rw [if_neg (by omega), e1, e2, e3]
  simp only [e4]
  rw [if_neg (by simp)]
  have e5 : chkB ([b.1, b.2.1, b.2.2.1, b.2.2.2.1].getD 0 0, [b.1, b.2.1, b.2.2.1, b.2.2.2.1].getD 1 0, [b.1, b.2.1, b.2.2.1, b.2.2.2.1].getD 2 0, [b.1, b.2.1, b.2.2.1, b.2.2.2.1].getD 3 0, b.2.2.2.2) = 0 := hb
  rw [if_neg (by rw [e5]; simp)]
  rfl

end Go.Proofs.YtepmnpapdknocaaGreatDoor

/- Contracts of what holds rows of ins and outs, and transactions, against each other, whatever they are. -/
namespace Go.Proofs.YtepmnpapdknocaaGreatDoor
open Go.RowKit

set_option maxRecDepth 10000 in
set_option maxHeartbeats 3200000 in
theorem eqOuts_some (b1 o1 b2 o2 n c d : Nat) (l k : List OutD) (o : Bool) (w : World) (hn : n ≤ maxLen) (z1 : l.length = n) (z2 : k.length = n)
    (h1 : ∀ i (h : i < l.length), OutAt w b1 (o1 + i * 2) l[i]) (h2 : ∀ i (h : i < k.length), OutAt w b2 (o2 + i * 2) k[i]) (ho : decide (l = k) = o) :
    Calls Tryz.prog 104 #[.slice (some ⟨b1, o1, none⟩) n c, .slice (some ⟨b2, o2, none⟩) n d, .func (.func 105) #[] #[]] w fun e w' => e = .returned (.bool o) ∧ Below w.heap.size w w' := by
  subst ho
  unfold maxLen at hn
  have H1 := hide h1
  have H2 := hide h2
  have Z1 := hide z1
  have Z2 := hide z2
  clear h1 h2 z1 z2
  go_enter Tryz.func104, Tryz.ntmps104
  go_wp2
  go_loopw [17] (fun i wr => ∃ j : Nat, j ≤ n ∧ i = .int .i64 j ∧ Below w.heap.size w wr ∧ Hid (l.take j = k.take j)) (fun i _ => n - (intOf i).toNat)
  case atStart => exact ⟨0, Nat.zero_le _, rfl, Below.refl _ _, rfl⟩
  case round =>
    obtain ⟨j, hk, rfl, hb, A⟩ := hrel
    have HB := hide hb
    by_cases hlt : j < n
    · have hl1 : j < l.length := by rw [unhide Z1]; exact hlt
      have hl2 : j < k.length := by rw [unhide Z2]; exact hlt
      have g := OutAt.kept _ _ _ _ _ hb ((unhide H1) j hl1)
      have f := OutAt.kept _ _ _ _ _ hb ((unhide H2) j hl2)
      have TS := hide (take_same hl1 hl2 (unhide A))
      have TU := hide (take_unlike hl1 hl2)
      obtain ⟨q, hq⟩ : ∃ q, l[j] = q := ⟨_, rfl⟩
      obtain ⟨r, hr⟩ : ∃ r, k[j] = r := ⟨_, rfl⟩
      rw [hq] at g
      rw [hr] at f
      rw [hq, hr] at TS TU
      obtain ⟨g1, qa, qn, qc, g3, g4, g5⟩ := g
      obtain ⟨f1, ra, rn, rc, f3, f4, _⟩ := f
      obtain ⟨q1, qk⟩ := q
      obtain ⟨r1, rk⟩ := r
      simp only at g1 g3 g4 f1 f3 f4
      have lt2 : b2 < wr.heap.size := World.block_lt_of_cell? _ _ f1
      have hb2 := bel_on (bel_new wr (.cells #[.int .i64 q1, .slice qa qn qc] 84)) (bel_new _ (.cells #[.int .i64 r1, .slice ra rn rc] 84))
      have HB2 := hide hb2
      have C : Hid (∀ o, decide (((q1, qk) : OutD) = (r1, rk)) = o → Calls Tryz.prog 105 #[.agg #[.int .i64 q1, .slice qa qn qc], .agg #[.int .i64 r1, .slice ra rn rc]] ((wr.alloc (.cells #[.int .i64 q1, .slice qa qn qc] 84)).alloc (.cells #[.int .i64 r1, .slice ra rn rc] 84)) fun e w' => e = .returned (.bool o) ∧ Below _ _ w') :=
        fun o ho => sameOut_is (q1, qk) (r1, rk) qa ra qn qc rn rc o _ g5.len (g4.later hb2) (f4.later hb2) ho
      clear hq hr A g4 f4 g5 hb hb2
      by_cases he : ((q1, qk) : OutD) = (r1, rk)
      · have T := hide ((unhide TS) he)
        have C2 := hide ((unhide C) true (decide_eq_true he))
        clear TS TU C he
        go_wp2_with fail
        refine (unhide C2).mono ?_
        rintro e w3 ⟨rfl, hb3⟩
        have HB3 := hide (bel_on (bel_on (unhide HB) (unhide HB2)) hb3)
        clear hb3
        go_wp2
        go_roundw
        case rel => exact ⟨j + 1, by omega, by go_num, unhide HB3, T⟩
        case measure => simp [intOf]; omega
      · have U : Hid (decide (l = k) = false) := decide_eq_false ((unhide TU) he)
        have C2 := hide ((unhide C) false (decide_eq_false he))
        clear TS TU C he
        go_wp2_with fail
        refine (unhide C2).mono ?_
        rintro e w3 ⟨rfl, hb3⟩
        have HB3 := hide (bel_on (bel_on (unhide HB) (unhide HB2)) hb3)
        clear hb3
        go_wp2
        go_ret
        exact ⟨by rw [unhide U]; rfl, unhide HB3⟩
    · have U : Hid (decide (l = k) = true) := by
        have h := unhide A
        rw [List.take_of_length_le (by rw [unhide Z1]; omega), List.take_of_length_le (by rw [unhide Z2]; omega)] at h
        exact decide_eq_true h
      clear A hb
      go_wp2
      go_ret
      exact ⟨by rw [unhide U]; rfl, unhide HB⟩

set_option maxHeartbeats 400000 in
theorem eqIns_lens (a b : Option Addr) (n m c d : Nat) (v : Value) (w : World) (h : n ≠ m) :
    Calls Tryz.prog 103 #[.slice a n c, .slice b m d, v] w fun e w' => e = .returned (.bool false) ∧ w = w' := by
  have g : ((n : Int) != (m : Int)) = true := by simp; omega
  clear h
  go_enter Tryz.func103, Tryz.ntmps103
  go_wp2
  go_ret
  exact ⟨rfl, rfl⟩
set_option maxHeartbeats 400000 in
theorem eqIns_none (a b : Option Addr) (c d : Nat) (v : Value) (w : World) :
    Calls Tryz.prog 103 #[.slice a 0 c, .slice b 0 d, v] w fun e w' => e = .returned (.bool true) ∧ w = w' := by
  go_enter Tryz.func103, Tryz.ntmps103
  go_wp2
  refine wp_loop_rounds 1 ?_
  rw [rounds_succ]
  go_wp2
  go_ret
  exact ⟨rfl, rfl⟩
theorem eqIns_is (a b : Option Addr) (n m c d : Nat) (l k : List InD) (o : Bool) (w : World) (hn : n ≤ maxLen) (hA : InsAt w a n l) (hB : InsAt w b m k) (ho : decide (l = k) = o) :
    Calls Tryz.prog 103 #[.slice a n c, .slice b m d, .func (.func 102) #[] #[]] w fun e w' => e = .returned (.bool o) ∧ Below w.heap.size w w' := by
  by_cases h : n = m
  · subst h
    by_cases h0 : n = 0
    · subst h0
      have e1 : l = [] := List.length_eq_zero_iff.1 hA.1
      have e2 : k = [] := List.length_eq_zero_iff.1 hB.1
      subst e1 e2
      rw [decide_eq_true rfl] at ho
      subst ho
      exact (eqIns_none a b c d _ w).mono fun e w' ⟨h1, h2⟩ => ⟨h1, h2 ▸ Below.refl _ _⟩
    · obtain ⟨b1, o1, rfl, _, h1⟩ := hA.2 (by omega)
      obtain ⟨b2, o2, rfl, _, h2⟩ := hB.2 (by omega)
      exact eqIns_some b1 o1 b2 o2 n c d l k o w hn hA.1 hB.1 h1 h2 ho
  · have e : l ≠ k := fun e => h (by rw [← hA.1, ← hB.1, e])
    rw [decide_eq_false e] at ho
    subst ho
    exact (eqIns_lens a b n m c d _ w h).mono fun e w' ⟨h1, h2⟩ => ⟨h1, h2 ▸ Below.refl _ _⟩

set_option maxHeartbeats 400000 in
theorem eqOuts_lens (a b : Option Addr) (n m c d : Nat) (v : Value) (w : World) (h : n ≠ m) :
    Calls Tryz.prog 104 #[.slice a n c, .slice b m d, v] w fun e w' => e = .returned (.bool false) ∧ w = w' := by
  have g : ((n : Int) != (m : Int)) = true := by simp; omega
  clear h
  go_enter Tryz.func104, Tryz.ntmps104
  go_wp2
  go_ret
  exact ⟨rfl, rfl⟩
set_option maxHeartbeats 400000 in
theorem eqOuts_none (a b : Option Addr) (c d : Nat) (v : Value) (w : World) :
    Calls Tryz.prog 104 #[.slice a 0 c, .slice b 0 d, v] w fun e w' => e = .returned (.bool true) ∧ w = w' := by
  go_enter Tryz.func104, Tryz.ntmps104
  go_wp2
  refine wp_loop_rounds 1 ?_
  rw [rounds_succ]
  go_wp2
  go_ret
  exact ⟨rfl, rfl⟩
theorem eqOuts_is (a b : Option Addr) (n m c d : Nat) (l k : List OutD) (o : Bool) (w : World) (hn : n ≤ maxLen) (hA : OutsAt w a n l) (hB : OutsAt w b m k) (ho : decide (l = k) = o) :
    Calls Tryz.prog 104 #[.slice a n c, .slice b m d, .func (.func 105) #[] #[]] w fun e w' => e = .returned (.bool o) ∧ Below w.heap.size w w' := by
  by_cases h : n = m
  · subst h
    by_cases h0 : n = 0
    · subst h0
      have e1 : l = [] := List.length_eq_zero_iff.1 hA.1
      have e2 : k = [] := List.length_eq_zero_iff.1 hB.1
      subst e1 e2
      rw [decide_eq_true rfl] at ho
      subst ho
      exact (eqOuts_none a b c d _ w).mono fun e w' ⟨h1, h2⟩ => ⟨h1, h2 ▸ Below.refl _ _⟩
    · obtain ⟨b1, o1, rfl, _, h1⟩ := hA.2 (by omega)
      obtain ⟨b2, o2, rfl, _, h2⟩ := hB.2 (by omega)
      exact eqOuts_some b1 o1 b2 o2 n c d l k o w hn hA.1 hB.1 h1 h2 ho
  · have e : l ≠ k := fun e => h (by rw [← hA.1, ← hB.1, e])
    rw [decide_eq_false e] at ho
    subst ho
    exact (eqOuts_lens a b n m c d _ w h).mono fun e w' ⟨h1, h2⟩ => ⟨h1, h2 ▸ Below.refl _ _⟩

set_option maxRecDepth 10000 in
set_option maxHeartbeats 3200000 in
theorem txSame_is (h h' : Int) (ai ao bi bo : Option Addr) (ni ci no co mi di mo eo : Nat) (I I' : List InD) (O O' : List OutD) (o : Bool) (w : World) (li : ni ≤ maxLen) (lo : no ≤ maxLen)
    (hI : InsAt w ai ni I) (hO : OutsAt w ao no O) (hI' : InsAt w bi mi I') (hO' : OutsAt w bo mo O') (ho : sameT (h, I, O) (h', I', O') = o) :
    Calls Tryz.prog 59 #[.agg #[.int .i64 h, .slice ai ni ci, .slice ao no co], .agg #[.int .i64 h', .slice bi mi di, .slice bo mo eo]] w fun e w' => e = .returned (.bool o) ∧ Below w.heap.size w w' := by
  have hb1 := bel_new w (.cells #[.int .i64 h, .slice ai ni ci, .slice ao no co] 74)
  have hb2 := bel_new (w.alloc (.cells #[.int .i64 h, .slice ai ni ci, .slice ao no co] 74)) (.cells #[.int .i64 h', .slice bi mi di, .slice bo mo eo] 74)
  have hb := bel_on hb1 hb2
  have HB := hide hb
  have M2 := hide (cell_later hb2 (three_new w (.int .i64 h) (.slice ai ni ci) (.slice ao no co) 74).2.2)
  have N2 := hide (three_new (w.alloc (.cells #[.int .i64 h, .slice ai ni ci, .slice ao no co] 74)) (.int .i64 h') (.slice bi mi di) (.slice bo mo eo) 74).2.2
  have HI := hide (hI.later hb)
  have HO := hide (hO.later hb)
  have HI' := hide (hI'.later hb)
  have HO' := hide (hO'.later hb)
  have LI := hide li
  have LO := hide lo
  clear hI hO hI' hO' hb hb1 hb2 li lo
  by_cases h1 : h = h'
  · subst h1
    by_cases h2 : I = I'
    · have ho' : decide (O = O') = o := by rw [← ho]; unfold sameT; simp [h2]
      have CI := hide (eqIns_is ai bi ni mi ci di I I' true _ (unhide LI) (unhide HI) (unhide HI') (decide_eq_true h2))
      have HQ := hide ho'
      clear ho ho' h2
      go_enter Tryz.func59, Tryz.ntmps59
      go_wp2_with fail
      refine (unhide CI).mono ?_
      rintro e w2 ⟨rfl, hb2⟩
      have m2 := cell_later hb2 (unhide M2)
      have n2 := cell_later hb2 (unhide N2)
      rw [show (w.alloc (.cells #[.int .i64 h, .slice ai ni ci, .slice ao no co] 74)).heap.size = w.heap.size + 1 by simp] at n2
      have s2 : w.heap.size + 1 < w2.heap.size := World.block_lt_of_cell? _ _ n2
      have s1 : w.heap.size < w2.heap.size := by omega
      have CO := hide (eqOuts_is ao bo no mo co eo O O' o w2 (unhide LO) ((unhide HO).later hb2) ((unhide HO').later hb2) (unhide HQ))
      have HB2 := hide (bel_on (unhide HB) hb2)
      clear hb2
      go_wp2_with fail
      refine (unhide CO).mono ?_
      rintro e w3 ⟨rfl, hb3⟩
      have HB3 := hide (bel_on (unhide HB2) hb3)
      clear hb3
      go_wp2
      go_ret
      exact ⟨rfl, unhide HB3⟩
    · have e : o = false := by rw [← ho]; unfold sameT; simp [h2]
      subst e
      have CI := hide (eqIns_is ai bi ni mi ci di I I' false _ (unhide LI) (unhide HI) (unhide HI') (decide_eq_false h2))
      clear ho h2
      go_enter Tryz.func59, Tryz.ntmps59
      go_wp2_with fail
      refine (unhide CI).mono ?_
      rintro e w2 ⟨rfl, hb2⟩
      have HB2 := hide (bel_on (unhide HB) hb2)
      clear hb2
      go_wp2
      go_ret
      exact ⟨rfl, unhide HB2⟩
  · have e : o = false := by rw [← ho]; unfold sameT; simp [h1]
    subst e
    have g : (h == h') = false := by simp [h1]
    clear ho
    go_enter Tryz.func59, Tryz.ntmps59
    go_wp2
    go_ret
    exact ⟨rfl, unhide HB⟩

end Go.Proofs.YtepmnpapdknocaaGreatDoor

/- Contracts of what holds transactions' rows and blocks against each other. -/
namespace Go.Proofs.YtepmnpapdknocaaGreatDoor
open Go.RowKit

def sameTs : List TxD → List TxD → Bool
  | [], [] => true
  | x :: r, y :: q => sameT x y && sameTs r q
  | _, _ => false
theorem sameT_eq (x y : TxD) : sameT x y = true ↔ x = y := by
  obtain ⟨a, b, c⟩ := x
  obtain ⟨d, e, f⟩ := y
  unfold sameT
  simp
theorem sameTs_iff : ∀ (l k : List TxD), sameTs l k = true ↔ l = k
  | [], [] => by simp [sameTs]
  | [], y :: q => by simp [sameTs]
  | x :: r, [] => by simp [sameTs]
  | x :: r, y :: q => by rw [sameTs, Bool.and_eq_true, sameT_eq, sameTs_iff r q, List.cons.injEq]
theorem sameTs_no {l k : List TxD} (h : l ≠ k) : sameTs l k = false := by
  rw [← Bool.not_eq_true, sameTs_iff]; exact h
theorem sameTs_yes {l k : List TxD} (h : l = k) : sameTs l k = true := (sameTs_iff l k).2 h

set_option maxHeartbeats 400000 in
theorem eqTx_lens (a b : Option Addr) (n m c d : Nat) (v : Value) (w : World) (h : n ≠ m) :
    Calls Tryz.prog 58 #[.slice a n c, .slice b m d, v] w fun e w' => e = .returned (.bool false) ∧ w = w' := by
  have g : ((n : Int) != (m : Int)) = true := by simp; omega
  clear h
  go_enter Tryz.func58, Tryz.ntmps58
  go_wp2
  go_ret
  exact ⟨rfl, rfl⟩

set_option maxHeartbeats 400000 in
theorem eqTx_none (a b : Option Addr) (c d : Nat) (v : Value) (w : World) :
    Calls Tryz.prog 58 #[.slice a 0 c, .slice b 0 d, v] w fun e w' => e = .returned (.bool true) ∧ w = w' := by
  go_enter Tryz.func58, Tryz.ntmps58
  go_wp2
  refine wp_loop_rounds 1 ?_
  rw [rounds_succ]
  go_wp2
  go_ret
  exact ⟨rfl, rfl⟩

set_option maxRecDepth 10000 in
set_option maxHeartbeats 3200000 in
theorem eqTx_some (b1 o1 b2 o2 n c d : Nat) (l k : List TxD) (o : Bool) (w : World) (hn : n ≤ maxLen) (z1 : l.length = n) (z2 : k.length = n)
    (h1 : ∀ i (h : i < l.length), TxAt w b1 (o1 + i * 3) l[i]) (h2 : ∀ i (h : i < k.length), TxAt w b2 (o2 + i * 3) k[i]) (ho : sameTs l k = o) :
    Calls Tryz.prog 58 #[.slice (some ⟨b1, o1, none⟩) n c, .slice (some ⟨b2, o2, none⟩) n d, .func (.func 59) #[] #[]] w fun e w' => e = .returned (.bool o) ∧ Below w.heap.size w w' := by
  subst ho
  unfold maxLen at hn
  have H1 := hide h1
  have H2 := hide h2
  have Z1 := hide z1
  have Z2 := hide z2
  clear h1 h2 z1 z2
  go_enter Tryz.func58, Tryz.ntmps58
  go_wp2
  go_loopw [17] (fun i wr => ∃ j : Nat, j ≤ n ∧ i = .int .i64 j ∧ Below w.heap.size w wr ∧ Hid (l.take j = k.take j)) (fun i _ => n - (intOf i).toNat)
  case atStart => exact ⟨0, Nat.zero_le _, rfl, Below.refl _ _, rfl⟩
  case round =>
    obtain ⟨j, hk, rfl, hb, A⟩ := hrel
    have HB := hide hb
    by_cases hlt : j < n
    · have hl1 : j < l.length := by rw [unhide Z1]; exact hlt
      have hl2 : j < k.length := by rw [unhide Z2]; exact hlt
      have g := TxAt.kept _ _ _ _ _ hb ((unhide H1) j hl1)
      have f := TxAt.kept _ _ _ _ _ hb ((unhide H2) j hl2)
      have TS := hide (take_same hl1 hl2 (unhide A))
      have TU := hide (take_unlike hl1 hl2)
      obtain ⟨q, hq⟩ : ∃ q, l[j] = q := ⟨_, rfl⟩
      obtain ⟨r, hr⟩ : ∃ r, k[j] = r := ⟨_, rfl⟩
      rw [hq] at g
      rw [hr] at f
      rw [hq, hr] at TS TU
      obtain ⟨q1, I, O⟩ := q
      obtain ⟨r1, I', O'⟩ := r
      obtain ⟨g0, ⟨ai, ni, ci, g1, gI, sI⟩, ao, no, co, g2, gO, sO⟩ := g
      obtain ⟨f0, ⟨bi, mi, di, f1, fI, _⟩, bo, mo, eo, f2, fO, _⟩ := f
      simp only at g0 g1 g2 f0 f1 f2 gI gO fI fO
      have hb2 := bel_on (bel_new wr (.cells #[.int .i64 q1, .slice ai ni ci, .slice ao no co] 74)) (bel_new _ (.cells #[.int .i64 r1, .slice bi mi di, .slice bo mo eo] 74))
      obtain ⟨o', ho'⟩ : ∃ o', sameT (q1, I, O) (r1, I', O') = o' := ⟨_, rfl⟩
      have HC := hide (txSame_is q1 r1 ai ao bi bo ni ci no co mi di mo eo I I' O O' o' _ sI.len sO.len (gI.later hb2) (gO.later hb2) (fI.later hb2) (fO.later hb2) ho')
      have HB2 := hide (bel_on (unhide HB) hb2)
      have hrl : b2 < wr.heap.size := World.block_lt_of_cell? _ _ f0
      have hkI : (j : Int) < (n : Int) := by omega
      clear hb hb2 gI gO fI fO sI sO hq hr A
      cases o' with
      | true =>
        have T := hide ((unhide TS) ((sameT_eq _ _).1 ho'))
        clear TS TU ho'
        go_wp2_with fail
        refine (unhide HC).mono ?_
        rintro e w2 ⟨rfl, hb3⟩
        have HB3 := hide (bel_on (unhide HB2) hb3)
        clear hb3
        go_wp2
        go_roundw
        case rel => exact ⟨j + 1, by omega, by go_num, unhide HB3, T⟩
        case measure => simp [intOf]; omega
      | false =>
        have U : Hid (sameTs l k = false) := sameTs_no ((unhide TU) (fun e => by rw [(sameT_eq _ _).2 e] at ho'; cases ho'))
        clear TS TU ho'
        go_wp2_with fail
        refine (unhide HC).mono ?_
        rintro e w2 ⟨rfl, hb3⟩
        have HB3 := hide (bel_on (unhide HB2) hb3)
        clear hb3
        go_wp2
        go_ret
        exact ⟨by rw [unhide U]; rfl, unhide HB3⟩
    · have U : Hid (sameTs l k = true) := by
        have h := unhide A
        rw [List.take_of_length_le (by rw [unhide Z1]; omega), List.take_of_length_le (by rw [unhide Z2]; omega)] at h
        exact sameTs_yes h
      clear A hb
      go_wp2
      go_ret
      exact ⟨by rw [unhide U]; rfl, unhide HB⟩

theorem eqTx_any (a b : Option Addr) (n m c d : Nat) (l k : List TxD) (o : Bool) (w : World) (hn : n ≤ maxLen) (hA : TxsAt w a n l) (hB : TxsAt w b m k) (ho : sameTs l k = o) :
    Calls Tryz.prog 58 #[.slice a n c, .slice b m d, .func (.func 59) #[] #[]] w fun e w' => e = .returned (.bool o) ∧ Below w.heap.size w w' := by
  by_cases h : n = m
  · subst h
    by_cases h0 : n = 0
    · subst h0
      have e1 : l = [] := List.length_eq_zero_iff.1 hA.1
      have e2 : k = [] := List.length_eq_zero_iff.1 hB.1
      subst e1 e2
      rw [sameTs_yes rfl] at ho
      subst ho
      exact (eqTx_none a b c d _ w).mono fun e w' ⟨h1, h2⟩ => ⟨h1, h2 ▸ Below.refl _ _⟩
    · obtain ⟨b1, o1, rfl, _, h1⟩ := hA.2 (by omega)
      obtain ⟨b2, o2, rfl, _, h2⟩ := hB.2 (by omega)
      exact eqTx_some b1 o1 b2 o2 n c d l k o w hn hA.1 hB.1 h1 h2 ho
  · have e : l ≠ k := fun e => h (by rw [← hA.1, ← hB.1, e])
    rw [sameTs_no e] at ho
    subst ho
    exact (eqTx_lens a b n m c d _ w h).mono fun e w' ⟨h1, h2⟩ => ⟨h1, h2 ▸ Below.refl _ _⟩

end Go.Proofs.YtepmnpapdknocaaGreatDoor

/- Two heads of blocks held against each other: arrays of four numbers. -/
namespace Go.Proofs.YtepmnpapdknocaaGreatDoor
open Go.RowKit

theorem Tryz.underHead : Tryz.prog.underlying 102 = some (.array 4 3) := by kernel_rfl
theorem heads_eql (p h k n pp hh kk nn : Int) (W : World) : (binOp .eql 102 (.agg #[.int .i64 p, .int .i64 h, .int .i64 k, .int .i64 n]) (.agg #[.int .i64 pp, .int .i64 hh, .int .i64 kk, .int .i64 nn])).run Tryz.prog W = .ok (.bool ((p == pp) && ((h == hh) && ((k == kk) && (n == nn))))) W := by
  obtain ⟨i0, hi, _, _, _⟩ := info_parts Tryz.infoInt
  have hk : Tryz.prog.plainKey 3 = true := by kernel_rfl
  have hc : Tryz.prog.cellsOf 3 = 1 := by kernel_rfl
  have p0 : ∀ (x y z u : Int), (part 3 #[.int .i64 x, .int .i64 y, .int .i64 z, .int .i64 u] 0).run Tryz.prog W = .ok (.int .i64 x) W := fun x y z u => run_part_plain W hk rfl
  have p1 : ∀ (x y z u : Int), (part 3 #[.int .i64 x, .int .i64 y, .int .i64 z, .int .i64 u] 1).run Tryz.prog W = .ok (.int .i64 y) W := fun x y z u => run_part_plain W hk rfl
  have p2 : ∀ (x y z u : Int), (part 3 #[.int .i64 x, .int .i64 y, .int .i64 z, .int .i64 u] 2).run Tryz.prog W = .ok (.int .i64 z) W := fun x y z u => run_part_plain W hk rfl
  have p3 : ∀ (x y z u : Int), (part 3 #[.int .i64 x, .int .i64 y, .int .i64 z, .int .i64 u] 3).run Tryz.prog W = .ok (.int .i64 u) W := fun x y z u => run_part_plain W hk rfl
  have q : ∀ (a b : Int), (Op.equalIn 9999 3 (.int .i64 a) (.int .i64 b)).run Tryz.prog W = .ok (a == b) W := fun a b => run_equalIn_int W 9998 3 .i64 .i64 a b Tryz.underlying3
  have e : (Op.equalIn 10000 102 (.agg #[.int .i64 p, .int .i64 h, .int .i64 k, .int .i64 n]) (.agg #[.int .i64 pp, .int .i64 hh, .int .i64 kk, .int .i64 nn])).run Tryz.prog W = .ok ((p == pp) && ((h == hh) && ((k == kk) && (n == nn)))) W := by
    rw [show (10000 : Nat) = 9999 + 1 from rfl, run_equalIn_array W 9999 _ _ Tryz.underHead hi, hc, show List.range 4 = [0, 1, 2, 3] from rfl]
    simp only [Op.eqItems, Sem.run_bind, Nat.mul_one, p0, Result.andThen_ok, q]
    by_cases e1 : p = pp <;> by_cases e2 : h = hh <;> by_cases e3 : k = kk <;> by_cases e4 : n = nn <;> simp [p1, p2, p3, q, e1, e2, e3, e4]
  rw [run_eql_struct, e]
  rfl

end Go.Proofs.YtepmnpapdknocaaGreatDoor
