/- Print of a right transaction. -/
import Derived.Test.YtmomfkikogbdeaaGreatDoorLockPrintToTxPrint
import Derived.Test.YtmomfkikogbdeaaGreatDoorCoinSpendBToTxParts
namespace Go.Proofs.YtmomfkikogbdeaaGreatDoor
open Go.RowKit

set_option maxRecDepth 10000 in
set_option maxHeartbeats 6400000 in
theorem txPrint_some (h : Int) (ai ao : Option Addr) (ni ci no co : Nat) (I : List InD) (O : List OutD) (w : World) (hE : Env w) (hI : InsAt w ai ni I) (hO : OutsAt w ao no O) (sI : SlOk ai ni ci) (hx : chkTx (h, I, O) = 0) :
    Calls Tryz.prog 155 #[.agg #[.int .i64 h, .slice ai ni ci, .slice ao no co]] w fun e w' => e = .returned (.tuple #[.string (txText (h, I, O)), .int .i64 0]) ∧ Below w.heap.size w w' := by
  have ok := TxOk.of hx
  have hb := bel_new w (.cells #[.int .i64 h, .slice ai ni ci, .slice ao no co] 59)
  obtain ⟨n0, n1, n2⟩ := three_new w (.int .i64 h) (.slice ai ni ci) (.slice ao no co) 59
  have HB := hide hb
  have C := hide (txCheck_any h ai ao ni ci no co I O _ (hI.later hb) (hO.later hb) sI)
  rw [hx] at C
  have N0 := hide n0
  have N1 := hide n1
  have N2 := hide n2
  have hi6 : ni ≤ 6 := by have := ok.ins6; have := hI.1; simp only at *; omega
  have ho6 : no ≤ 6 := by have := ok.outs6; have := hO.1; simp only at *; omega
  have hpos : 0 < no := by have := ok.some; have := hO.1; simp only at *; omega
  have HI := hide hI
  have HO := hide hO
  have HE := hide hE
  have HG := hide ok.hgt
  have HII := hide ok.ins
  have HOO := hide ok.outs
  clear hb hI hO sI hx n0 n1 n2 hE ok
  go_enter Tryz.func155, Tryz.ntmps155
  go_wp2_with fail
  refine (unhide C).mono ?_
  rintro e w2 ⟨rfl, hb2⟩
  have m0 := cell_later hb2 (unhide N0)
  have M1 := hide (cell_later hb2 (unhide N1))
  have M2 := hide (cell_later hb2 (unhide N2))
  have s2 : w.heap.size < w2.heap.size := World.block_lt_of_cell? _ _ m0
  have hbw2 := bel_on (unhide HB) hb2
  have ba := bel_new w2 (.cells #[.int .i64 h] 3)
  have R := hide (printRow_some txB w2.heap.size 0 1 1 [h] (w2.alloc (.cells #[.int .i64 h] 3)) ((unhide HE).later (bel_on hbw2 ba)) (by decide) (by decide) rfl (by simp) (fun i hi => by
    have e : i = 0 := by omega
    subst e
    exact one_new w2 (.int .i64 h) 3) (fun z hz => by have := unhide HG; simp at hz; omega))
  have HBA := hide ba
  have HB2 := hide hb2
  have HBW2 := hide hbw2
  have hs := headText_size h (unhide HG)
  have hs0 : (rowB txB [h]).size ≤ 29 := by
    have e : headText h = rowB txB [h] ++ ⟨#[10]⟩ := rfl
    rw [e, size_one] at hs
    omega
  obtain ⟨T0, hT0⟩ : ∃ T0, rowB txB [h] = T0 := ⟨_, rfl⟩
  have HT0 : Hid (T0 ++ ⟨#[10]⟩ = headText h) := by show _ = _; rw [← hT0]; rfl
  rw [hT0] at R hs0
  clear hb2 hbw2 ba hs hT0
  go_wp2_with fail
  refine (unhide R).mono ?_
  rintro e w3 ⟨rfl, hb3⟩
  have hb3' := bel_on (unhide HBA) hb3
  have m1 := cell_later hb3' (unhide M1)
  have M2' := hide (cell_later hb3' (unhide M2))
  have s3 : w.heap.size < w3.heap.size := World.block_lt_of_cell? _ _ m1
  have HBW3 := hide (bel_on (unhide HBW2) hb3')
  clear hb3 hb3'
  go_wp2
  go_loopw [5, 23] (fun s i wr => ∃ k : Nat, k ≤ ni ∧ i = .int .i64 k ∧ s = .string (insText h (I.take k)) ∧ Below w3.heap.size w3 wr) (fun _ i _ => ni - (intOf i).toNat)
  case atStart => exact ⟨0, Nat.zero_le _, rfl, by rw [unhide HT0]; rfl, Below.refl _ _⟩
  case round =>
    obtain ⟨k, hk, rfl, rfl, hbr⟩ := hrel
    have HBR := hide hbr
    have hbw := bel_on (unhide HBW3) hbr
    have HBW := hide hbw
    by_cases hlt : k < ni
    · have hlk : k < I.length := by rw [(unhide HI).1]; exact hlt
      obtain ⟨b, off, rfl, hbl, hcell⟩ := ((unhide HI).later hbw).2 (by omega)
      obtain ⟨g1, g2, ka, kn, kc, g3, g4, _⟩ := hcell k hlk
      have hok := (unhide HII) I[k] (List.getElem_mem hlk)
      have hS := insText_snoc h (I.take k) I[k]
      rw [← List.take_succ_eq_append_getElem hlk] at hS
      have hTs : (insText h (I.take k)).size ≤ 3000 := by
        have := insText_size h (I.take k) (unhide HG) (fun x hx => (unhide HII) x (List.mem_of_mem_take hx))
        rw [List.length_take] at this
        omega
      have hXs := inText_size I[k] hok
      obtain ⟨x, hx⟩ : ∃ x, I[k] = x := ⟨_, rfl⟩
      rw [hx] at g1 g2 g4 hok hS hXs
      obtain ⟨x1, x2, key⟩ := x
      simp only at g1 g2 g3 g4
      have hp := (ptOk_iff _).1 hok.1
      simp only at hp
      obtain ⟨T, hT⟩ : ∃ T, insText h (I.take k) = T := ⟨_, rfl⟩
      obtain ⟨X, hX⟩ : ∃ X, inText (x1, x2, key) = X := ⟨_, rfl⟩
      rw [hT, hX] at hS
      rw [hT] at hTs ⊢
      rw [hX] at hXs
      have HS := hide hS
      have b1 := bel_new wr (.cells #[.int .i64 x1, .int .i64 x2, .slice ka kn kc] 119)
      have b2 := bel_new (wr.alloc (.cells #[.int .i64 x1, .int .i64 x2, .slice ka kn kc] 119)) (.cells #[.int .i64 x1, .int .i64 x2] 3)
      have b12 := bel_on b1 b2
      have t2 := two_fresh (wr.alloc (.cells #[.int .i64 x1, .int .i64 x2, .slice ka kn kc] 119)) (.int .i64 x1) (.int .i64 x2) 3
      have esz : (wr.alloc (.cells #[.int .i64 x1, .int .i64 x2, .slice ka kn kc] 119)).heap.size = wr.heap.size + 1 := by simp
      rw [esz] at t2
      have PL := hide (printLine_is ka kn kc key inB (wr.heap.size + 1) 0 2 2 [x1, x2] X ((wr.alloc (.cells #[.int .i64 x1, .int .i64 x2, .slice ka kn kc] 119)).alloc (.cells #[.int .i64 x1, .int .i64 x2] 3)) (((unhide HE).later hbw).later b12) (g4.later b12) hok.2 (by decide) (by decide) rfl (by simp) (fun i hi => by
        have e : i = 0 ∨ i = 1 := by omega
        rcases e with rfl | rfl
        · exact t2.1
        · exact t2.2) (fun z hz => by simp at hz; omega) hX)
      have HB12 := hide b12
      clear hbr hbw hcell g4 hok hx hT hX hS b1 b2 b12 t2 esz hp
      go_wp2_with fail
      refine (unhide PL).mono ?_
      rintro e w4 ⟨rfl, hb4⟩
      have HB4 := hide ((unhide HBR).trans ((bel_on (unhide HB12) hb4).mono (unhide HBR).size))
      clear hb4
      go_wp2
      go_roundw
      case rel => exact ⟨k + 1, by omega, by go_num, by rw [unhide HS], unhide HB4⟩
      case measure => simp [intOf]; omega
    · have e : k = ni := by omega
      subst e
      have HT : Hid (insText h (I.take k) = insText h I) := by show _ = _; rw [List.take_of_length_le (by rw [(unhide HI).1]; exact Nat.le_refl _)]
      have hTs := insText_size h I (unhide HG) (unhide HII)
      have hil : I.length ≤ 6 := by rw [(unhide HI).1]; exact hi6
      obtain ⟨T1, hT1⟩ : ∃ T1, insText h I = T1 := ⟨_, rfl⟩
      rw [hT1] at HT hTs
      have HT1 := hide hT1
      have m2 := cell_later hbr (unhide M2')
      have s4 : w.heap.size < wr.heap.size := World.block_lt_of_cell? _ _ m2
      rw [unhide HT]
      clear hbr hT1 hk hlt
      go_wp2
      go_loopw [5, 43] (fun s i wz => ∃ j : Nat, j ≤ no ∧ i = .int .i64 j ∧ s = .string (outsText T1 (O.take j)) ∧ Below wr.heap.size wr wz) (fun _ i _ => no - (intOf i).toNat)
      case atStart => exact ⟨0, Nat.zero_le _, rfl, rfl, Below.refl _ _⟩
      case round =>
        obtain ⟨j, hj, rfl, rfl, hbz⟩ := hrel
        have HBZ := hide hbz
        have hbv := bel_on (unhide HBW) hbz
        have HBV := hide hbv
        by_cases hlt : j < no
        · have hlk : j < O.length := by rw [(unhide HO).1]; exact hlt
          obtain ⟨b, off, rfl, hbl, hcell⟩ := ((unhide HO).later hbv).2 (by omega)
          obtain ⟨g1, ka, kn, kc, g3, g4, _⟩ := hcell j hlk
          have hok := (unhide HOO) O[j] (List.getElem_mem hlk)
          have hS := outsText_snoc T1 (O.take j) O[j]
          rw [← List.take_succ_eq_append_getElem hlk] at hS
          have hTs2 : (outsText T1 (O.take j)).size ≤ 6000 := by
            have := outsText_size T1 (O.take j) (fun x hx => (unhide HOO) x (List.mem_of_mem_take hx))
            rw [List.length_take] at this
            omega
          have hXs := outText_size O[j] hok
          obtain ⟨x, hx⟩ : ∃ x, O[j] = x := ⟨_, rfl⟩
          rw [hx] at g1 g4 hok hS hXs
          obtain ⟨x1, key⟩ := x
          simp only at g1 g3 g4
          have hp := hok.1
          simp only at hp
          obtain ⟨T, hT⟩ : ∃ T, outsText T1 (O.take j) = T := ⟨_, rfl⟩
          obtain ⟨X, hX⟩ : ∃ X, outText (x1, key) = X := ⟨_, rfl⟩
          rw [hT, hX] at hS
          rw [hT] at hTs2 ⊢
          rw [hX] at hXs
          have HS := hide hS
          have b1 := bel_new wr (.cells #[.int .i64 x1, .slice ka kn kc] 122)
          have b2 := bel_new (wr.alloc (.cells #[.int .i64 x1, .slice ka kn kc] 122)) (.cells #[.int .i64 x1] 3)
          have b12 := bel_on b1 b2
          have t2 := one_new (wr.alloc (.cells #[.int .i64 x1, .slice ka kn kc] 122)) (.int .i64 x1) 3
          have esz : (wr.alloc (.cells #[.int .i64 x1, .slice ka kn kc] 122)).heap.size = wr.heap.size + 1 := by simp
          rw [esz] at t2
          have PL := hide (printLine_is ka kn kc key outB (wr.heap.size + 1) 0 1 1 [x1] X ((wr.alloc (.cells #[.int .i64 x1, .slice ka kn kc] 122)).alloc (.cells #[.int .i64 x1] 3)) (((unhide HE).later hbv).later b12) (g4.later b12) hok.2 (by decide) (by decide) rfl (by simp) (fun i hi => by
            have e : i = 0 := by omega
            subst e
            exact t2) (fun z hz => by simp at hz; omega) hX)
          have HB12 := hide b12
          clear hbz hbv hcell g4 hok hx hT hX hS b1 b2 b12 t2 esz hp
          go_wp2_with fail
          refine (unhide PL).mono ?_
          rintro e w4 ⟨rfl, hb4⟩
          have HB4 := hide ((unhide HBZ).trans ((bel_on (unhide HB12) hb4).mono (unhide HBZ).size))
          clear hb4
          go_wp2
          go_roundw
          case rel => exact ⟨j + 1, by omega, by go_num, by rw [unhide HS], unhide HB4⟩
          case measure => simp [intOf]; omega
        · have HF : Hid (outsText T1 (O.take j) = txText (h, I, O)) := by
            show _ = _
            rw [List.take_of_length_le (by rw [(unhide HO).1]; omega), ← unhide HT1]; rfl
          clear hbz hbv
          go_wp2
          go_ret2
          exact ⟨ret_text (unhide HF), unhide HBV⟩

theorem txPrint_is (h : Int) (ai ao : Option Addr) (ni ci no co : Nat) (I : List InD) (O : List OutD) (t : ByteArray) (x : Int) (w : World) (hE : Env w) (hI : InsAt w ai ni I) (hO : OutsAt w ao no O) (sI : SlOk ai ni ci) (hx : chkTx (h, I, O) = x) (ht : txT (h, I, O) = t) :
    Calls Tryz.prog 155 #[.agg #[.int .i64 h, .slice ai ni ci, .slice ao no co]] w fun e w' => e = .returned (.tuple #[.string t, .int .i64 x]) ∧ Below w.heap.size w w' := by
  subst ht
  by_cases h0 : chkTx (h, I, O) = 0
  · rw [h0] at hx
    subst hx
    unfold txT
    rw [if_pos h0]
    exact txPrint_some h ai ao ni ci no co I O w hE hI hO sI h0
  · unfold txT
    rw [if_neg h0]
    exact txPrint_bad h ai ao ni ci no co I O x w hI hO sI hx (by rw [← hx]; exact h0)

end Go.Proofs.YtmomfkikogbdeaaGreatDoor

/- Contracts of printTxs and of block.Print. -/
namespace Go.Proofs.YtmomfkikogbdeaaGreatDoor
open Go.RowKit

def blockB : ByteArray := ⟨#[98, 108, 111, 99, 107]⟩
def txsText : List TxD → ByteArray
  | [] => ⟨#[]⟩
  | t :: r => txText t ++ txsText r
def blkText (b : BlkD) : ByteArray := (rowB blockB [b.1, b.2.1, b.2.2.1, b.2.2.2.1] ++ ⟨#[10]⟩) ++ txsText b.2.2.2.2
theorem chkTs_all (h : Int) : ∀ (i : Nat) (T : List TxD), chkTs h i T = 0 → ∀ t ∈ T, chkTx t = 0
  | _, [], _, t, ht => by cases ht
  | i, x :: r, e, t, ht => by
    unfold chkTs at e
    split at e
    · rename_i q; exact absurd e q
    · rename_i q
      split at e
      · cases e
      · rcases List.mem_cons.1 ht with rfl | ht
        · exact Classical.not_not.1 q
        · exact chkTs_all h (i + 1) r e t ht
theorem headOk_of {p h k n : Int} (e : headOk p h k n = true) : 0 ≤ p ∧ p ≤ 120 ∧ 1 ≤ h ∧ h ≤ 1000 ∧ 1 ≤ k ∧ k ≤ 1000 ∧ 0 ≤ n ∧ n ≤ 1000000000 := by
  unfold headOk at e
  rw [Bool.and_eq_true, Bool.and_eq_true, Bool.and_eq_true, Bool.and_eq_true, Bool.and_eq_true, Bool.and_eq_true, Bool.and_eq_true] at e
  obtain ⟨⟨a, b⟩, ⟨c, d⟩, ⟨e, f⟩, g, h⟩ := e
  exact ⟨of_decide_eq_true a, of_decide_eq_true b, of_decide_eq_true c, of_decide_eq_true d, of_decide_eq_true e, of_decide_eq_true f, of_decide_eq_true g, of_decide_eq_true h⟩
theorem chkB_zero {p h k n : Int} {T : List TxD} (e : chkB (p, h, k, n, T) = 0) : headOk p h k n = true ∧ 0 < T.length ∧ T.length ≤ 4 ∧ chkTs h 0 T = 0 ∧ (∀ t ∈ T, chkTx t = 0) := by
  unfold chkB at e
  simp only at e
  split at e
  · cases e
  rename_i q1
  split at e
  · cases e
  rename_i q2
  split at e
  · cases e
  rename_i q3
  exact ⟨by cases q : headOk p h k n with | true => rfl | false => exact absurd q q1, by omega, by omega, e, chkTs_all h 0 T e⟩

theorem intercalate_nil {α : Type} : ∀ (L : List (List α)), ([] : List α).intercalate L = L.flatten
  | [] => rfl
  | [x] => by simp [List.intercalate]
  | x :: y :: r => by
    have := intercalate_nil (y :: r)
    simp [List.intercalate] at this ⊢
    exact this

theorem txText_size (t : TxD) (h : chkTx t = 0) : (txText t).size ≤ 6000 := by
  have ok := TxOk.of h
  have h1 := outsText_size (insText t.1 t.2.1) t.2.2 ok.outs
  have h2 := insText_size t.1 t.2.1 ok.hgt ok.ins
  have h3 := ok.ins6
  have h4 := ok.outs6
  unfold txText
  omega
theorem txsText_size : ∀ (T : List TxD), (∀ t ∈ T, chkTx t = 0) → (txsText T).size ≤ 6000 * T.length
  | [], _ => by simp [txsText]; rfl
  | t :: r, h => by
    have h1 := txText_size t (h t (List.mem_cons_self ..))
    have h2 := txsText_size r (fun x hx => h x (List.mem_cons_of_mem _ hx))
    rw [txsText, ByteArray.size_append, List.length_cons]
    omega
theorem txsText_flat : ∀ (T : List TxD), (txsText T).data.toList = ((T.map txText).map (·.data.toList)).flatten
  | [] => rfl
  | t :: r => by
    rw [txsText, ByteArray.data_append, Array.toList_append, txsText_flat r]
    rfl
theorem join_flat (T : List TxD) : (⟨(Lib.join ((T.map txText).map (·.data.toList)) []).toArray⟩ : ByteArray) = txsText T := by
  refine ba_ext ?_
  rw [txsText_flat]
  show Lib.join _ _ = _
  unfold Lib.join
  exact intercalate_nil _

def txV (T : List TxD) (i : Nat) : Value := .string (txText (T.getD i (0, [], [])))

set_option maxRecDepth 10000 in
set_option maxHeartbeats 3200000 in
theorem printTxs_is (b off m c : Nat) (T : List TxD) (w : World) (hE : Env w) (hz : T.length = m) (hm : m ≤ 4) (hck : ∀ t ∈ T, chkTx t = 0) (hc : ∀ i (h : i < T.length), TxAt w b (off + i * 3) T[i]) :
    Calls Tryz.prog 87 #[.slice (some ⟨b, off, none⟩) m c] w fun e w' => e = .returned (.slice (some ⟨w.heap.size, 0, none⟩) m m) ∧ FillV w.heap.size 9 m (txV T) w w' m := by
  obtain ⟨i0, hi, hz0, hz1, hz2⟩ := info_parts Tryz.info9
  have HE := hide hE
  have HC := hide hc
  have HZ := hide hz
  have HK := hide hck
  clear hE hc hz hck
  go_enter Tryz.func87, Tryz.ntmps87
  go_wp2_with (at_make; refine wpList_make_full _ rfl _ _ 22 rfl w.heap.size 9 i0 (.string ⟨#[]⟩) 1 Tryz.underlying22 hi hz0 hz1 .i64 .i64 _ _ m rfl rfl rfl rfl (by rw [hz2]; omega) (by unfold maxLen; omega) (Nat.le_refl _) ?_; intro w2 hown2 hgrow2)
  have hst : FillV w.heap.size 9 m (txV T) w w2 0 := ⟨⟨_, hown2, fun j hj => absurd hj (by omega)⟩, (Below.refl _ _).grown hgrow2 (Nat.le_refl _) (fun k h => by cases h)⟩
  have HST := hide hst
  clear hst hown2 hgrow2
  go_loopw [11] (fun i wr => ∃ k : Nat, k ≤ m ∧ i = .int .i64 k ∧ FillV w.heap.size 9 m (txV T) w wr k) (fun i _ => m - (intOf i).toNat)
  case atStart => exact ⟨0, Nat.zero_le _, rfl, unhide HST⟩
  case round =>
    obtain ⟨k, hk, rfl, hfl⟩ := hrel
    have HF := hide hfl
    have hbw : Below w.heap.size w wr := hfl.bel
    have HBW := hide hbw
    by_cases hlt : k < m
    · have hlk : k < T.length := by rw [unhide HZ]; exact hlt
      have hin := TxAt.kept _ _ _ _ _ hbw ((unhide HC) k hlk)
      have hx := (unhide HK) T[k] (List.getElem_mem _)
      have HQ : Hid (T.getD k (0, [], []) = T[k]) := by show _ = _; simp [hlk]
      obtain ⟨t, ht⟩ : ∃ t, T[k] = t := ⟨_, rfl⟩
      rw [ht] at hin hx HQ
      obtain ⟨t1, I, O⟩ := t
      obtain ⟨g0, ⟨ai, ni, ci, g1, hI, sI⟩, ao, no, co, g2, hO, _⟩ := hin
      simp only at g0 g1 g2 hI hO
      obtain ⟨Y, hY⟩ : ∃ Y, Y = wr.alloc (.cells #[.int .i64 t1, .slice ai ni ci, .slice ao no co] 59) := ⟨_, rfl⟩
      have hbY : Below wr.heap.size wr Y := by rw [hY]; exact bel_new _ _
      have hY1 : Y.heap[wr.heap.size]? = some (.cells [.int .i64 t1, .slice ai ni ci, .slice ao no co].toArray 59 (0, 0)) := by rw [hY]; exact three_heap _ _ _ _ _
      have y0 := cell_of hY1 0 _ rfl
      have y1 := cell_of hY1 1 _ rfl
      have y2 := cell_of hY1 2 _ rfl
      have yl := lt_of_block hY1
      have PO := hide (txPrint_some t1 ai ao ni ci no co I O Y ((unhide HE).later (bel_on hbw hbY)) (hI.later hbY) (hO.later hbY) sI hx)
      obtain ⟨x, hxt⟩ : ∃ x, x = txText (t1, I, O) := ⟨_, rfl⟩
      rw [← hxt] at PO
      have HX := hide hxt
      have HBY := hide hbY
      clear hfl hbw ht hx hY1 hbY hI hO sI hxt
      go_wp2_with fail
      rw [← hY]
      clear hY
      go_wp2_with fail
      refine (unhide PO).mono ?_
      rintro e w3 ⟨rfl, hb3⟩
      have hf3 := ((unhide HF).keep (unhide HBY)).keep hb3
      obtain ⟨v, hold⟩ := hf3.old hlt
      have hfree := hf3.free k
      have hl3 := hf3.lt
      have HF3 := hide hf3
      clear hb3 hf3 y0 y1 y2 yl g0 g1 g2
      go_wp2
      go_roundw
      case rel =>
        refine ⟨k + 1, by omega, by go_num, (unhide HF3).step hlt ?_⟩
        show Value.string x = txV T k
        unfold txV
        rw [unhide HX, unhide HQ]
      case measure => simp [intOf]; omega
    · clear hfl hbw
      have e : k = m := by omega
      subst e
      clear hk hlt
      go_wp2
      go_ret
      exact ⟨rfl, unhide HF⟩

end Go.Proofs.YtmomfkikogbdeaaGreatDoor
