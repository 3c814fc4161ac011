/- Contracts of what checks a transaction: the outs one by one, and all of it. -/
import Derived.Test.YtmomfkikogbdeaaGreatDoorTxMemToTxCheckB
import Derived.Test.YtmomfkikogbdeaaGreatDoorLockMathToLockRow
namespace Go.Proofs.YtmomfkikogbdeaaGreatDoor
open Go.RowKit

set_option maxHeartbeats 400000 in
theorem checkIns_none (a : Option Addr) (c : Nat) (w : World) :
    Calls Tryz.prog 209 #[.slice a 0 c] w fun e w' => e = .returned (.int .i64 0) ∧ w = w' := by
  go_enter Tryz.func209, Tryz.ntmps209
  go_wp2
  refine wp_loop_rounds 1 ?_
  rw [rounds_succ]
  go_wp2
  go_ret
  exact ⟨rfl, rfl⟩
theorem checkIns_is (a : Option Addr) (n c : Nat) (L : List InD) (x : Int) (w : World) (hn : n ≤ 6) (hs : SlOk a n c) (h : InsAt w a n L) (hx : chkIns [] L = x) :
    Calls Tryz.prog 209 #[.slice a n c] w fun e w' => e = .returned (.int .i64 x) ∧ Below w.heap.size w w' := by
  subst hx
  obtain ⟨hz, hc⟩ := h
  by_cases h0 : n = 0
  · subst h0
    have e : L = [] := List.length_eq_zero_iff.1 hz
    subst e
    exact (checkIns_none a c w).mono fun e w' ⟨q1, q2⟩ => ⟨q1, q2 ▸ Below.refl _ _⟩
  · obtain ⟨b, off, rfl, hl, hcell⟩ := hc (by omega)
    exact checkIns_some b off n c L w hn hs.1 hz hl hcell

theorem Tryz.infoInt : (Tryz.prog.info? 3).map (fun i => (i.zero, i.size, i.bytes)) = some (some (.int .i64 0), 1, 8) := by kernel_rfl

def coinV (L : List OutD) (j : Nat) : Value := .int .i64 ((L.map (·.1)).getD j 0)

theorem chkOut1_lo {x : OutD} (h : x.1 < 1) : chkOut1 x = 3 := by unfold chkOut1; rw [if_pos h]
theorem chkOut1_hi {x : OutD} (h : ¬ x.1 < 1) : chkOut1 x = chk x.2 := by unfold chkOut1; rw [if_neg h]

set_option maxRecDepth 10000 in
set_option maxHeartbeats 3200000 in
theorem checkOuts_some (b off n c : Nat) (L : List OutD) (w : World) (hn : n ≤ 6) (hpos : 0 < n) (hz : L.length = n) (hc : ∀ i (h : i < L.length), OutAt w b (off + i * 2) L[i]) :
    Calls Tryz.prog 210 #[.slice (some ⟨b, off, none⟩) n c] w fun e w' => e = .returned (.int .i64 (chkOutsAll L)) ∧ Below w.heap.size w w' := by
  obtain ⟨i0, hi, hz0, hz1, hz2⟩ := info_parts Tryz.infoInt
  have HC := hide hc
  have HZ := hide hz
  have HP := hide hpos
  clear hc hz hpos
  go_enter Tryz.func210, Tryz.ntmps210
  go_wp2_with (at_make; refine wpList_make_full _ rfl _ _ 25 rfl w.heap.size 3 i0 (.int .i64 0) 1 Tryz.underlying25 hi hz0 hz1 .i64 .i64 _ _ n rfl rfl rfl rfl (by rw [hz2]; omega) (by unfold maxLen; omega) (Nat.le_refl _) ?_; intro w2 hown2 hgrow2)
  have hst : FillV w.heap.size 3 n (coinV L) w w2 0 := ⟨⟨_, hown2, fun j hj => absurd hj (by omega)⟩, (Below.refl _ _).grown hgrow2 (Nat.le_refl _) (fun k h => by cases h)⟩
  have HST := hide hst
  clear hst hown2 hgrow2
  go_loopw [14] (fun i wr => ∃ k : Nat, k ≤ n ∧ i = .int .i64 k ∧ Hid (chkOuts L = chkOuts (L.drop k)) ∧ FillV w.heap.size 3 n (coinV L) w wr k) (fun i _ => n - (intOf i).toNat)
  case atStart => exact ⟨0, Nat.zero_le _, rfl, rfl, unhide HST⟩
  case round =>
    obtain ⟨k, hk, rfl, A, hfl⟩ := hrel
    have HF := hide hfl
    have hb : Below w.heap.size w wr := hfl.bel
    have HB := hide hb
    by_cases hlt : k < n
    · have hlk : k < L.length := by rw [unhide HZ]; exact hlt
      have hin := OutAt.kept _ _ _ _ _ hb ((unhide HC) k hlk)
      have ST := hide (chkOuts_stop L k hlk)
      have SS := hide (chkOuts_step L k hlk)
      have hcv : coinV L k = .int .i64 (L[k]).1 := by unfold coinV; simp [hlk]
      obtain ⟨x, hx⟩ : ∃ x, L[k] = x := ⟨_, rfl⟩
      rw [hx] at hin ST SS hcv
      have HCV := hide hcv
      obtain ⟨x1, key⟩ := x
      obtain ⟨g1, ka, kn, kc, g3, g4, _⟩ := hin
      simp only at g1 g3 g4
      have hba := bel_new wr (.cells #[.int .i64 x1, .slice ka kn kc] 122)
      obtain ⟨n1, n2⟩ := two_fresh wr (.int .i64 x1) (.slice ka kn kc) 122
      have HBA := hide hba
      have KO := hide (g4.later hba)
      have N1 := hide n1
      have N2 := hide n2
      clear hb hx g4 hba n1 n2 hfl hcv
      by_cases hlo : x1 < 1
      · have R : Hid (chkOutsAll L = 3) := by
          have e : chkOut1 (x1, key) = 3 := chkOut1_lo hlo
          have e2 : chkOuts L = 3 := by rw [unhide A, (unhide ST) (by rw [e]; decide), e]
          show _ = _
          unfold chkOutsAll; rw [e2]; rfl
        have HB2 := hide (bel_on (unhide HB) (unhide HBA))
        clear A ST SS
        go_wp2
        go_ret
        exact ⟨by rw [unhide R]; rfl, unhide HB2⟩
      · by_cases hk0 : chk key = 0
        · have R : Hid (chkOuts L = chkOuts (L.drop (k + 1))) := by
            have e : chkOut1 (x1, key) = 0 := by rw [chkOut1_hi hlo]; exact hk0
            show _ = _
            rw [unhide A, (unhide SS) e]
          have HK := hide hk0
          clear A ST SS hk0
          go_wp2_with fail
          refine (chk_at ka kn kc key 0 _ (unhide HK) (unhide KO)).mono ?_
          rintro e w3 ⟨rfl, hb3⟩
          have m1 := cell_later hb3 (unhide N1)
          have hf3 := ((unhide HF).keep (unhide HBA)).keep hb3
          obtain ⟨v, hold⟩ := hf3.old hlt
          have hfree := hf3.free k
          have HF3 := hide hf3
          have hs3 : wr.heap.size < w3.heap.size := World.block_lt_of_cell? _ _ m1
          clear hb3 hf3
          go_wp2
          go_roundw
          case rel => exact ⟨k + 1, by omega, by go_num, R, (unhide HF3).step hlt (unhide HCV).symm⟩
          case measure => simp [intOf]; omega
        · obtain ⟨z, hz⟩ : ∃ z, chk key = z := ⟨_, rfl⟩
          have R : Hid (chkOutsAll L = z) := by
            have e : chkOut1 (x1, key) = chk key := chkOut1_hi hlo
            have e2 : chkOuts L = z := by rw [unhide A, (unhide ST) (by rw [e]; exact hk0), e]; exact hz
            show _ = _
            unfold chkOutsAll; rw [e2, if_neg (by rw [← hz]; exact hk0)]
          have HK := hide hz
          rw [hz] at hk0
          have gz : (z != 0) = true := by simp [hk0]
          clear A ST SS hz hk0
          go_wp2_with fail
          refine (chk_at ka kn kc key z _ (unhide HK) (unhide KO)).mono ?_
          rintro e w3 ⟨rfl, hb3⟩
          have HB3 := hide (bel_on (bel_on (unhide HB) (unhide HBA)) hb3)
          clear hb3
          go_wp2
          go_ret
          exact ⟨by rw [unhide R]; rfl, unhide HB3⟩
    · have e : k = n := by omega
      subst e
      have R : Hid (chkOutsAll L = (sm 0 (L.map (·.1))).2) := by
        show _ = _
        unfold chkOutsAll; rw [unhide A, chkOuts_end L k (by rw [unhide HZ]; exact Nat.le_refl _)]; rfl
      have hrow : RowAt wr (some ⟨w.heap.size, 0, none⟩) k (L.map (·.1)) := by
        refine ⟨by rw [List.length_map]; exact unhide HZ, by unfold maxLen; omega, fun _ => ⟨w.heap.size, 0, rfl, fun i hi => ?_⟩⟩
        rw [Nat.zero_add, hfl.cells (Nat.le_refl _) i hi]; rfl
      have SM := hide (sum_any (some ⟨w.heap.size, 0, none⟩) k k (L.map (·.1)) wr hrow)
      obtain ⟨s, hs⟩ : ∃ s, sm 0 (L.map (·.1)) = s := ⟨_, rfl⟩
      rw [hs] at SM R
      obtain ⟨s1, s2⟩ := s
      clear A hb hfl hrow hs hlt hk
      go_wp2_with fail
      refine (unhide SM).mono ?_
      rintro e w' ⟨rfl, rfl⟩
      go_wp2
      go_ret
      exact ⟨by rw [unhide R]; rfl, unhide HB⟩

theorem checkOuts_is (a : Option Addr) (n c : Nat) (L : List OutD) (x : Int) (w : World) (hn : n ≤ 6) (hpos : 0 < n) (h : OutsAt w a n L) (hx : chkOutsAll L = x) :
    Calls Tryz.prog 210 #[.slice a n c] w fun e w' => e = .returned (.int .i64 x) ∧ Below w.heap.size w w' := by
  subst hx
  obtain ⟨hz, hc⟩ := h
  obtain ⟨b, off, rfl, _, hcell⟩ := hc hpos
  exact checkOuts_some b off n c L w hn hpos hz hcell

set_option maxHeartbeats 800000 in
theorem heightFits_is (h : Int) (ai ao : Option Addr) (ni ci no co : Nat) (o : Bool) (w : World) (ho : (if ni = 0 then decide (1 ≤ h) && decide (h ≤ 1000) else decide (h = 0)) = o) :
    Calls Tryz.prog 208 #[.agg #[.int .i64 h, .slice ai ni ci, .slice ao no co]] w fun e w' => e = .returned (.bool o) ∧ Below w.heap.size w w' := by
  have HB := hide (bel_new w (.cells #[.int .i64 h, .slice ai ni ci, .slice ao no co] 59))
  by_cases h0 : ni = 0
  · subst h0
    rw [if_pos rfl] at ho
    have C : Hid (∀ w, Calls Tryz.prog 103 #[.int .i64 h, .int .i64 1, .int .i64 1000] w fun e w' => e = .returned (.bool o) ∧ w = w') := fun w => within_is h 1 1000 o w ho.symm
    clear ho
    go_enter Tryz.func208, Tryz.ntmps208
    go_wp2_with fail
    refine ((unhide C) _).mono ?_
    rintro e w' ⟨rfl, rfl⟩
    go_wp2
    go_ret
    exact ⟨rfl, unhide HB⟩
  · rw [if_neg h0] at ho
    have g : ((ni : Int) == 0) = false := by simp; omega
    by_cases hh : h = 0
    · rw [decide_eq_true hh] at ho
      subst ho hh
      go_enter Tryz.func208, Tryz.ntmps208
      go_wp2
      go_ret
      exact ⟨rfl, unhide HB⟩
    · rw [decide_eq_false hh] at ho
      subst ho
      have g2 : (h == 0) = false := by simp [hh]
      go_enter Tryz.func208, Tryz.ntmps208
      go_wp2
      go_ret
      exact ⟨rfl, unhide HB⟩

end Go.Proofs.YtmomfkikogbdeaaGreatDoor

/- The contract of Check of transactions. -/
namespace Go.Proofs.YtmomfkikogbdeaaGreatDoor
open Go.RowKit

theorem hFit_eq (h : Int) (I : List InD) (O : List OutD) (ni : Nat) (hz : I.length = ni) : hFit (h, I, O) = if ni = 0 then decide (1 ≤ h) && decide (h ≤ 1000) else decide (h = 0) := by
  unfold hFit; simp only [hz]

set_option maxRecDepth 10000 in
set_option maxHeartbeats 3200000 in
theorem txCheck_any (h : Int) (ai ao : Option Addr) (ni ci no co : Nat) (I : List InD) (O : List OutD) (w : World) (hI : InsAt w ai ni I) (hO : OutsAt w ao no O) (sI : SlOk ai ni ci) :
    Calls Tryz.prog 152 #[.agg #[.int .i64 h, .slice ai ni ci, .slice ao no co]] w fun e w' => e = .returned (.int .i64 (chkTx (h, I, O))) ∧ Below w.heap.size w w' := by
  have hb := bel_new w (.cells #[.int .i64 h, .slice ai ni ci, .slice ao no co] 59)
  obtain ⟨n0, n1, n2⟩ := three_new w (.int .i64 h) (.slice ai ni ci) (.slice ao no co) 59
  have HB := hide hb
  have N0 := hide n0
  have N1 := hide n1
  have N2 := hide n2
  have HI := hide (hI.later hb)
  have HO := hide (hO.later hb)
  have HS := hide sI
  have zi := hI.1
  have zo := hO.1
  clear hb n0 n1 n2 hI hO sI
  by_cases h1 : 6 < ni
  · have e : chkTx (h, I, O) = 2 := by unfold chkTx; rw [if_pos (Or.inl (by show 6 < I.length; omega))]
    rw [e]
    have g : (6 : Int) < (ni : Int) := by omega
    clear e h1 zi zo
    go_enter Tryz.func152, Tryz.ntmps152
    go_wp2
    go_ret
    exact ⟨rfl, unhide HB⟩
  · by_cases h2 : 6 < no
    · have e : chkTx (h, I, O) = 2 := by unfold chkTx; rw [if_pos (Or.inr (by show 6 < O.length; omega))]
      rw [e]
      have g : ¬ (6 : Int) < (ni : Int) := by omega
      have g' : (6 : Int) < (no : Int) := by omega
      clear e h1 h2 zi zo
      go_enter Tryz.func152, Tryz.ntmps152
      go_wp2
      go_ret
      exact ⟨rfl, unhide HB⟩
    · have g : ¬ (6 : Int) < (ni : Int) := by omega
      have g' : ¬ (6 : Int) < (no : Int) := by omega
      have e1 : ¬ (6 < I.length ∨ 6 < O.length) := by omega
      by_cases h3 : no = 0
      · have e : chkTx (h, I, O) = 4 := by unfold chkTx; rw [if_neg e1, if_pos (by show O.length = 0; omega)]
        rw [e]
        subst h3
        clear e e1 h1 h2 zi zo
        go_enter Tryz.func152, Tryz.ntmps152
        go_wp2
        go_ret
        exact ⟨rfl, unhide HB⟩
      · have g3 : ((no : Int) == 0) = false := by simp; omega
        have e3 : ¬ O.length = 0 := by omega
        cases hf : hFit (h, I, O) with
        | false =>
          have e : chkTx (h, I, O) = 3 := by unfold chkTx; rw [if_neg e1, if_neg e3, if_pos hf]
          rw [e]
          have C := hide (heightFits_is h ai ao ni ci no co false (w.alloc (.cells #[.int .i64 h, .slice ai ni ci, .slice ao no co] 59)) (by rw [← hFit_eq h I O ni zi]; exact hf))
          clear e e1 e3 h1 h2 h3 zi zo hf
          go_enter Tryz.func152, Tryz.ntmps152
          go_wp2_with fail
          refine (unhide C).mono ?_
          rintro e w2 ⟨rfl, hb2⟩
          have HB2 := hide (bel_on (unhide HB) hb2)
          clear hb2
          go_wp2
          go_ret
          exact ⟨rfl, unhide HB2⟩
        | true =>
          have C := hide (heightFits_is h ai ao ni ci no co true (w.alloc (.cells #[.int .i64 h, .slice ai ni ci, .slice ao no co] 59)) (by rw [← hFit_eq h I O ni zi]; exact hf))
          have e4 : ¬ hFit (h, I, O) = false := by rw [hf]; decide
          by_cases h5 : chkIns [] I = 0
          · obtain ⟨z, hz⟩ : ∃ z, chkOutsAll O = z := ⟨_, rfl⟩
            have e : chkTx (h, I, O) = z := by
              unfold chkTx; rw [if_neg e1, if_neg e3, if_neg e4, if_neg (by intro q; exact q h5)]; exact hz
            rw [e]
            have H5 := hide h5
            have HZ := hide hz
            have H6i : Hid (ni ≤ 6) := by show _ ≤ _; omega
            have H6o : Hid (no ≤ 6 ∧ 0 < no) := ⟨by omega, by omega⟩
            clear e e1 e3 e4 h1 h2 h3 zi zo hf h5 hz
            go_enter Tryz.func152, Tryz.ntmps152
            go_wp2_with fail
            refine (unhide C).mono ?_
            rintro e w2 ⟨rfl, hb2⟩
            have m1 := cell_later hb2 (unhide N1)
            have M2 := hide (cell_later hb2 (unhide N2))
            have hs2 : w.heap.size < w2.heap.size := World.block_lt_of_cell? _ _ m1
            have CI := hide (checkIns_is ai ni ci I 0 w2 (unhide H6i) (unhide HS) ((unhide HI).later hb2) (unhide H5))
            have HB2 := hide hb2
            clear hb2
            go_wp2_with fail
            refine (unhide CI).mono ?_
            rintro e w3 ⟨rfl, hb3⟩
            have m2 := cell_later hb3 (unhide M2)
            have hs3 : w.heap.size < w3.heap.size := World.block_lt_of_cell? _ _ m2
            have CO := hide (checkOuts_is ao no co O z w3 (unhide H6o).1 (unhide H6o).2 (((unhide HO).later (unhide HB2)).later hb3) (unhide HZ))
            have HB3 := hide (bel_on (bel_on (unhide HB) (unhide HB2)) hb3)
            clear hb3 m1 hs2
            go_wp2_with fail
            refine (unhide CO).mono ?_
            rintro e w4 ⟨rfl, hb4⟩
            have HB4 := hide (bel_on (unhide HB3) hb4)
            clear hb4
            go_wp2
            go_ret
            exact ⟨rfl, unhide HB4⟩
          · obtain ⟨z, hz⟩ : ∃ z, chkIns [] I = z := ⟨_, rfl⟩
            have e : chkTx (h, I, O) = z := by
              unfold chkTx; rw [if_neg e1, if_neg e3, if_neg e4, if_pos h5]; exact hz
            rw [e]
            have HZ := hide hz
            rw [hz] at h5
            have gz : (z != 0) = true := by simp [h5]
            have H6i : Hid (ni ≤ 6) := by show _ ≤ _; omega
            clear e e1 e3 e4 h1 h2 h3 zi zo hf h5 hz
            go_enter Tryz.func152, Tryz.ntmps152
            go_wp2_with fail
            refine (unhide C).mono ?_
            rintro e w2 ⟨rfl, hb2⟩
            have m1 := cell_later hb2 (unhide N1)
            have hs2 : w.heap.size < w2.heap.size := World.block_lt_of_cell? _ _ m1
            have CI := hide (checkIns_is ai ni ci I z w2 (unhide H6i) (unhide HS) ((unhide HI).later hb2) (unhide HZ))
            have HB2 := hide hb2
            clear hb2
            go_wp2_with fail
            refine (unhide CI).mono ?_
            rintro e w3 ⟨rfl, hb3⟩
            have HB3 := hide (bel_on (bel_on (unhide HB) (unhide HB2)) hb3)
            clear hb3
            go_wp2
            go_ret
            exact ⟨rfl, unhide HB3⟩

end Go.Proofs.YtmomfkikogbdeaaGreatDoor

/- Coins as plain data: their order, what is wrong with some, one taken, one put. Nothing of the program. -/
namespace Go.Proofs.YtmomfkikogbdeaaGreatDoor

/-- A coin: its transaction's name, its place, how much, its lock, its height, whether it is of a reward. -/
abbrev CoinD := Int × Int × Int × List (Int × Int) × Int × Bool
abbrev PtD := Int × Int
def pt (c : CoinD) : PtD := (c.1, c.2.1)
def cv (c : CoinD) : Int := c.2.2.1
def ck (c : CoinD) : List (Int × Int) := c.2.2.2.1
def ch (c : CoinD) : Int := c.2.2.2.2.1
def cr (c : CoinD) : Bool := c.2.2.2.2.2

def lt (p q : PtD) : Bool := decide (p.1 < q.1) || (decide (p.1 = q.1) && decide (p.2 < q.2))
theorem lt_iff (p q : PtD) : lt p q = true ↔ p.1 < q.1 ∨ p.1 = q.1 ∧ p.2 < q.2 := by simp [lt]
theorem lt_irrefl (p : PtD) : lt p p = false := by
  rw [← Bool.not_eq_true, lt_iff]; omega
theorem lt_trans {p q r : PtD} (h1 : lt p q = true) (h2 : lt q r = true) : lt p r = true := by
  rw [lt_iff] at *; omega
theorem lt_asymm {p q : PtD} (h1 : lt p q = true) : lt q p = false := by
  rw [← Bool.not_eq_true, lt_iff]; rw [lt_iff] at h1; omega
theorem lt_tri (p q : PtD) : lt p q = true ∨ p = q ∨ lt q p = true := by
  rw [lt_iff, lt_iff, Prod.ext_iff]; omega
theorem lt_ne {p q : PtD} (h : lt p q = true) : p ≠ q := fun e => by
  subst e; rw [lt_irrefl] at h; exact Bool.noConfusion h

/-- How two points stand: -1, 0, 1. -/
def cmpP (p q : PtD) : Int := if lt p q then -1 else if p = q then 0 else 1
theorem cmpP_lt {p q : PtD} : cmpP p q < 0 ↔ lt p q = true := by
  unfold cmpP; split
  · simp [*]
  · split
    · rename_i h e; subst e; simp [lt_irrefl]
    · simp [*]
theorem cmpP_eq {p q : PtD} : cmpP p q = 0 ↔ p = q := by
  unfold cmpP; split
  · rename_i h; simp [lt_ne h]
  · split <;> simp [*]

def Srt (L : List CoinD) : Prop := L.Pairwise fun a b => lt (pt a) (pt b) = true

theorem Srt.tail {c : CoinD} {L : List CoinD} (h : Srt (c :: L)) : Srt L := (List.pairwise_cons.1 h).2
theorem Srt.head {c : CoinD} {L : List CoinD} (h : Srt (c :: L)) : ∀ x ∈ L, lt (pt c) (pt x) = true := (List.pairwise_cons.1 h).1
theorem Srt.inj {L : List CoinD} (h : Srt L) : ∀ {x y : CoinD}, x ∈ L → y ∈ L → pt x = pt y → x = y := by
  induction L with
  | nil => intro x y hx; cases hx
  | cons c L ih =>
    intro x y hx hy e
    rcases List.mem_cons.1 hx with rfl | hx <;> rcases List.mem_cons.1 hy with rfl | hy
    · rfl
    · exact absurd e (lt_ne (h.head y ‹y ∈ L›))
    · exact absurd e.symm (lt_ne (h.head x ‹x ∈ L›))
    · exact ih h.tail hx hy e
/-- Lists in order that have the same coins are the same. -/
theorem Srt.ext : ∀ {L M : List CoinD}, Srt L → Srt M → (∀ x, x ∈ L ↔ x ∈ M) → L = M
  | [], [], _, _, _ => rfl
  | [], c :: M, _, _, h => absurd ((h c).2 (List.mem_cons_self ..)) (by simp)
  | c :: L, [], _, _, h => absurd ((h c).1 (List.mem_cons_self ..)) (by simp)
  | c :: L, d :: M, h1, h2, h => by
    have e : c = d := by
      rcases List.mem_cons.1 ((h c).1 (List.mem_cons_self ..)) with e | e
      · exact e
      rcases List.mem_cons.1 ((h d).2 (List.mem_cons_self ..)) with f | f
      · exact f.symm
      · have g := lt_asymm (h2.head _ e)
        rw [h1.head _ f] at g
        exact Bool.noConfusion g
    subst e
    rw [Srt.ext h1.tail h2.tail fun x => ⟨fun hx => ?_, fun hx => ?_⟩]
    · rcases List.mem_cons.1 ((h x).1 (List.mem_cons_of_mem _ hx)) with rfl | q
      · exact absurd rfl (lt_ne (h1.head _ hx))
      · exact q
    · rcases List.mem_cons.1 ((h x).2 (List.mem_cons_of_mem _ hx)) with rfl | q
      · exact absurd rfl (lt_ne (h2.head _ hx))
      · exact q

/-! What is wrong with coins. -/
def okPt (p : PtD) : Bool := (decide (1 ≤ p.1) && decide (p.1 ≤ 120)) && (decide (0 ≤ p.2) && decide (p.2 ≤ 5))
def okV (n : Int) : Bool := decide (1 ≤ n) && decide (n ≤ 1000000000)
def okH (n : Int) : Bool := decide (1 ≤ n) && decide (n ≤ 1000)
def okC (c : CoinD) : Bool := okPt (pt c) && (okV (cv c) && okH (ch c))
def ck1 (c : CoinD) : Int := if okC c = false then 3 else chk (ck c)
theorem ck1_zero {c : CoinD} (h : ck1 c = 0) : 1 ≤ c.1 ∧ c.1 ≤ 120 ∧ 0 ≤ c.2.1 ∧ c.2.1 ≤ 5 ∧ 1 ≤ cv c ∧ cv c ≤ 1000000000 ∧ 1 ≤ ch c ∧ ch c ≤ 1000 ∧ chk (ck c) = 0 := by
  unfold ck1 at h
  split at h
  · cases h
  · rename_i q
    simp only [Bool.not_eq_false, okC, okPt, okV, okH, pt, Bool.and_eq_true, decide_eq_true_eq] at q
    exact ⟨of_decide_eq_true q.1.1.1, of_decide_eq_true q.1.1.2, of_decide_eq_true q.1.2.1, of_decide_eq_true q.1.2.2, q.2.1.1, q.2.1.2, q.2.2.1, q.2.2.2, h⟩
def above (p : Option PtD) (c : CoinD) : Bool := match p with | none => true | some p => lt p (pt c)
def ckGo : Option PtD → Int → List CoinD → Int
  | _, _, [] => 0
  | p, s, c :: r => if ck1 c ≠ 0 then ck1 c else if above p c = false then 6 else if 1000000000 < s + cv c then 12 else ckGo (some (pt c)) (s + cv c) r
def ckCoins (L : List CoinD) : Int := if 720 < L.length then 2 else ckGo none 0 L

def prevP (L : List CoinD) (k : Nat) : Option PtD := if k = 0 then none else (L[k - 1]?).map pt
def sumC (L : List CoinD) : Int := (L.map cv).sum
def sumO (L : List OutD) : Int := (L.map (·.1)).sum
theorem sumC_nil : sumC [] = 0 := rfl
theorem sumC_cons (c : CoinD) (L : List CoinD) : sumC (c :: L) = cv c + sumC L := by simp [sumC]
theorem sumC_append (L M : List CoinD) : sumC (L ++ M) = sumC L + sumC M := by simp [sumC]
theorem sumC_take (L : List CoinD) (k : Nat) (h : k < L.length) : sumC (L.take (k + 1)) = sumC (L.take k) + cv L[k] := by
  rw [List.take_succ_eq_append_getElem h, sumC_append, sumC_cons, sumC_nil]; omega
theorem sumO_take (L : List OutD) (k : Nat) (h : k < L.length) : sumO (L.take (k + 1)) = sumO (L.take k) + L[k].1 := by
  rw [List.take_succ_eq_append_getElem h]; unfold sumO; rw [List.map_append, List.sum_append]; simp
theorem prevP_succ (L : List CoinD) (k : Nat) (h : k < L.length) : prevP L (k + 1) = some (pt L[k]) := by
  unfold prevP; rw [if_neg (by omega)]; simp [h]

theorem ckGo_at (L : List CoinD) (k : Nat) (h : k < L.length) (p : Option PtD) (s : Int) : ckGo p s (L.drop k) = if ck1 L[k] ≠ 0 then ck1 L[k] else if above p L[k] = false then 6 else if 1000000000 < s + cv L[k] then 12 else ckGo (some (pt L[k])) (s + cv L[k]) (L.drop (k + 1)) := by
  rw [List.drop_eq_getElem_cons h, ckGo]
theorem ckGo_end (L : List CoinD) (k : Nat) (h : L.length ≤ k) (p : Option PtD) (s : Int) : ckGo p s (L.drop k) = 0 := by
  rw [List.drop_of_length_le h, ckGo]
theorem ckGo_bad {c : CoinD} {r : List CoinD} {p : Option PtD} {s : Int} (h : ck1 c ≠ 0) : ckGo p s (c :: r) = ck1 c := by rw [ckGo, if_pos h]
theorem ckGo_twice {c : CoinD} {r : List CoinD} {p : Option PtD} {s : Int} (h : ck1 c = 0) (h2 : above p c = false) : ckGo p s (c :: r) = 6 := by
  rw [ckGo, if_neg (by rw [h]; decide), if_pos h2]
theorem ckGo_full {c : CoinD} {r : List CoinD} {p : Option PtD} {s : Int} (h : ck1 c = 0) (h2 : above p c = true) (h3 : 1000000000 < s + cv c) : ckGo p s (c :: r) = 12 := by
  rw [ckGo, if_neg (by rw [h]; decide), if_neg (by rw [h2]; decide), if_pos h3]
theorem ckGo_on {c : CoinD} {r : List CoinD} {p : Option PtD} {s : Int} (h : ck1 c = 0) (h2 : above p c = true) (h3 : ¬ 1000000000 < s + cv c) : ckGo p s (c :: r) = ckGo (some (pt c)) (s + cv c) r := by
  rw [ckGo, if_neg (by rw [h]; decide), if_neg (by rw [h2]; decide), if_neg h3]

theorem sumC_nonneg : ∀ (L : List CoinD), (∀ c ∈ L, 0 ≤ cv c) → 0 ≤ sumC L
  | [], _ => Int.le_refl _
  | c :: r, h => by
    rw [sumC_cons]
    have h1 := h c (List.mem_cons_self ..)
    have h2 := sumC_nonneg r fun x hx => h x (List.mem_cons_of_mem _ hx)
    omega
/-- Right coins: each is right, they stand in order, and all are not too much. -/
theorem ckGo_zero : ∀ (L : List CoinD) (p : Option PtD) (s : Int), 0 ≤ s → s ≤ 1000000000 → (ckGo p s L = 0 ↔ (∀ c ∈ L, ck1 c = 0) ∧ Srt L ∧ (∀ c ∈ L, above p c = true) ∧ s + sumC L ≤ 1000000000)
  | [], p, s, _, h => by simp [ckGo, Srt, sumC, h]
  | c :: r, p, s, h0, h => by
    by_cases h1 : ck1 c = 0
    · have hv : 1 ≤ cv c := (ck1_zero h1).2.2.2.2.1
      cases h2 : above p c with
      | false =>
        rw [ckGo_twice h1 h2]
        refine ⟨fun e => (by cases e), fun e => ?_⟩
        have := e.2.2.1 c (List.mem_cons_self ..)
        rw [h2] at this; exact Bool.noConfusion this
      | true =>
        by_cases h3 : 1000000000 < s + cv c
        · rw [ckGo_full h1 h2 h3]
          refine ⟨fun e => (by cases e), fun e => ?_⟩
          have h4 : 0 ≤ sumC r := sumC_nonneg r fun x hx => by
            have := (ck1_zero (e.1 x (List.mem_cons_of_mem _ hx))).2.2.2.2.1
            omega
          have h5 := e.2.2.2
          rw [sumC_cons] at h5
          omega
        · rw [ckGo_on h1 h2 h3, ckGo_zero r (some (pt c)) (s + cv c) (by omega) (by omega), sumC_cons]
          constructor
          · rintro ⟨a1, a2, a3, a4⟩
            refine ⟨fun x hx => ?_, List.pairwise_cons.2 ⟨fun x hx => a3 x hx, a2⟩, fun x hx => ?_, by omega⟩
            · rcases List.mem_cons.1 hx with rfl | hx
              · exact h1
              · exact a1 x hx
            · rcases List.mem_cons.1 hx with rfl | hx
              · exact h2
              · cases p with
                | none => rfl
                | some p => exact lt_trans h2 (a3 x hx)
          · rintro ⟨a1, a2, a3, a4⟩
            exact ⟨fun x hx => a1 x (List.mem_cons_of_mem _ hx), Srt.tail a2, fun x hx => Srt.head a2 x hx, by omega⟩
    · rw [ckGo_bad h1]
      exact ⟨fun e => absurd e h1, fun e => absurd (e.1 c (List.mem_cons_self ..)) h1⟩

structure RightC (L : List CoinD) : Prop where
  len : L.length ≤ 720
  one : ∀ c ∈ L, ck1 c = 0
  srt : Srt L
  sum : sumC L ≤ 1000000000

theorem ckCoins_zero (L : List CoinD) : ckCoins L = 0 ↔ RightC L := by
  unfold ckCoins
  by_cases h : 720 < L.length
  · rw [if_pos h]; exact ⟨fun e => (by cases e), fun e => absurd e.len (by omega)⟩
  · rw [if_neg h, ckGo_zero L none 0 (by omega) (by omega)]
    exact ⟨fun ⟨a, b, _, c⟩ => ⟨by omega, a, b, by omega⟩, fun e => ⟨e.one, e.srt, fun _ _ => rfl, by have := e.sum; omega⟩⟩

/-! One taken, one put. -/
/-- How many stand ahead of a point. -/
def pos (p : PtD) (L : List CoinD) : Nat := L.countP fun c => lt (pt c) p
def hasP (p : PtD) (L : List CoinD) : Bool := L.any fun c => decide (pt c = p)
def takeD (p : PtD) (L : List CoinD) : Option (CoinD × List CoinD) :=
  match L.find? (fun c => decide (pt c = p)) with | none => none | some c => some (c, L.filter fun c => decide (pt c ≠ p))
def putC (c : CoinD) (L : List CoinD) : List CoinD := L.filter (fun x => lt (pt x) (pt c)) ++ c :: L.filter fun x => lt (pt c) (pt x)

theorem Srt.filter {L : List CoinD} (h : Srt L) (f : CoinD → Bool) : Srt (L.filter f) := List.Pairwise.filter f h
theorem hasP_iff (p : PtD) (L : List CoinD) : hasP p L = true ↔ ∃ c ∈ L, pt c = p := by simp [hasP]
theorem mem_putC {c x : CoinD} {L : List CoinD} (h : hasP (pt c) L = false) : x ∈ putC c L ↔ x = c ∨ x ∈ L := by
  unfold putC
  rw [List.mem_append, List.mem_cons, List.mem_filter, List.mem_filter]
  constructor
  · rintro (⟨a, _⟩ | rfl | ⟨a, _⟩)
    · exact .inr a
    · exact .inl rfl
    · exact .inr a
  · rintro (rfl | a)
    · exact .inr (.inl rfl)
    · rcases lt_tri (pt x) (pt c) with q | q | q
      · exact .inl ⟨a, q⟩
      · rw [← Bool.not_eq_true, hasP_iff] at h
        exact absurd ⟨x, a, q⟩ h
      · exact .inr (.inr ⟨a, q⟩)
theorem putC_srt {c : CoinD} {L : List CoinD} (h : Srt L) : Srt (putC c L) := by
  unfold putC Srt
  rw [List.pairwise_append]
  refine ⟨h.filter _, List.pairwise_cons.2 ⟨fun x hx => (List.mem_filter.1 hx).2, h.filter _⟩, fun a ha b hb => ?_⟩
  have h1 := (List.mem_filter.1 ha).2
  rcases List.mem_cons.1 hb with rfl | hb
  · exact h1
  · exact lt_trans h1 (List.mem_filter.1 hb).2
theorem pos_split {p : PtD} : ∀ {L : List CoinD}, Srt L → L.take (pos p L) = L.filter (fun x => lt (pt x) p) ∧ L.drop (pos p L) = L.filter (fun x => !lt (pt x) p)
  | [], _ => by simp [pos]
  | c :: L, h => by
    obtain ⟨h1, h2⟩ := pos_split (p := p) h.tail
    unfold pos at *
    cases hc : lt (pt c) p with
    | true =>
      rw [List.countP_cons_of_pos (by simpa using hc), List.filter_cons_of_pos (by simpa using hc), List.filter_cons_of_neg (by simp [hc]), List.take_succ_cons, List.drop_succ_cons, h1, h2]
      exact ⟨rfl, rfl⟩
    | false =>
      have h3 : ∀ x ∈ L, lt (pt x) p = false := fun x hx => by
        rw [← Bool.not_eq_true]
        intro q
        rw [lt_trans (h.head x hx) q] at hc
        exact Bool.noConfusion hc
      have e : (c :: L).countP (fun c => lt (pt c) p) = 0 := by
        rw [List.countP_eq_zero]
        intro x hx
        rcases List.mem_cons.1 hx with rfl | hx
        · simp [hc]
        · simp [h3 x hx]
      rw [e, List.take_zero, List.drop_zero]
      constructor
      · symm; rw [List.filter_eq_nil_iff]
        intro x hx
        rcases List.mem_cons.1 hx with rfl | hx
        · simp [hc]
        · simp [h3 x hx]
      · symm; rw [List.filter_eq_self]
        intro x hx
        rcases List.mem_cons.1 hx with rfl | hx
        · simp [hc]
        · simp [h3 x hx]
theorem pos_le (p : PtD) (L : List CoinD) : pos p L ≤ L.length := List.countP_le_length ..

/-- What is found at its place is the coin of the point; there is one just if it stands there. -/
theorem hasP_pos {p : PtD} {L : List CoinD} (h : Srt L) : hasP p L = (decide (pos p L < L.length) && decide ((L[pos p L]?).map pt = some p)) := by
  obtain ⟨h1, h2⟩ := pos_split (p := p) h
  rw [Bool.eq_iff_iff, hasP_iff, Bool.and_eq_true, decide_eq_true_eq, decide_eq_true_eq]
  constructor
  · rintro ⟨c, hc, e⟩
    have hd : c ∈ L.drop (pos p L) := by rw [h2, List.mem_filter]; exact ⟨hc, by rw [e, lt_irrefl]; rfl⟩
    have hl : pos p L < L.length := by
      rcases Nat.lt_or_ge (pos p L) L.length with q | q
      · exact q
      · rw [List.drop_of_length_le q] at hd; cases hd
    refine ⟨hl, ?_⟩
    have hs : Srt (L.drop (pos p L)) := by rw [h2]; exact h.filter _
    rw [List.drop_eq_getElem_cons hl] at hd hs
    rw [List.getElem?_eq_getElem hl, Option.map_some]
    rcases List.mem_cons.1 hd with rfl | q
    · rw [e]
    · have g := hs.head c q
      have h3 : L[pos p L] ∈ L.drop (pos p L) := by rw [List.drop_eq_getElem_cons hl]; exact List.mem_cons_self ..
      rw [h2, List.mem_filter] at h3
      rw [e] at g
      rw [g] at h3
      exact absurd h3.2 (by decide)
  · rintro ⟨hl, e⟩
    rw [List.getElem?_eq_getElem hl, Option.map_some, Option.some.injEq] at e
    exact ⟨L[pos p L], List.getElem_mem hl, e⟩

theorem takeD_none {p : PtD} {L : List CoinD} (h : hasP p L = false) : takeD p L = none := by
  unfold takeD
  have : L.find? (fun c => decide (pt c = p)) = none := by
    rw [List.find?_eq_none]
    intro x hx
    rw [← Bool.not_eq_true, hasP_iff] at h
    simp only [decide_eq_true_eq]
    exact fun e => h ⟨x, hx, e⟩
  rw [this]
theorem takeD_mem {p : PtD} {L : List CoinD} (h : Srt L) {c : CoinD} (hc : c ∈ L) (e : pt c = p) : takeD p L = some (c, L.filter fun c => decide (pt c ≠ p)) := by
  unfold takeD
  have : L.find? (fun c => decide (pt c = p)) = some c := by
    cases q : L.find? (fun c => decide (pt c = p)) with
    | none => rw [List.find?_eq_none] at q; exact absurd (decide_eq_true e) (q c hc)
    | some d =>
      have h1 := List.find?_some q
      have h2 := List.mem_of_find?_eq_some q
      simp only [decide_eq_true_eq] at h1
      rw [h.inj h2 hc (by rw [h1, e])]
  rw [this]
theorem takeD_some {p : PtD} {L M : List CoinD} {c : CoinD} (h : takeD p L = some (c, M)) : c ∈ L ∧ pt c = p ∧ M = L.filter fun c => decide (pt c ≠ p) := by
  unfold takeD at h
  split at h
  · cases h
  · rename_i d q
    simp only [Option.some.injEq, Prod.mk.injEq] at h
    obtain ⟨rfl, rfl⟩ := h
    have h1 := List.find?_some q
    simp only [decide_eq_true_eq] at h1
    exact ⟨List.mem_of_find?_eq_some q, h1, rfl⟩
/-- As the program takes it: at its place. -/
theorem takeD_at {p : PtD} {L : List CoinD} (h : Srt L) (hl : pos p L < L.length) (e : pt L[pos p L] = p) : takeD p L = some (L[pos p L], L.take (pos p L) ++ L.drop (pos p L + 1)) := by
  rw [takeD_mem h (List.getElem_mem hl) e]
  obtain ⟨h1, h2⟩ := pos_split (p := p) h
  have h3 := List.drop_eq_getElem_cons hl
  rw [h2] at h3
  have hs : Srt (L[pos p L] :: L.drop (pos p L + 1)) := by rw [← h3]; exact h.filter _
  have e1 : L.filter (fun c => decide (pt c ≠ p)) = L.take (pos p L) ++ L.drop (pos p L + 1) := by
    have e2 : L = L.take (pos p L) ++ (L[pos p L] :: L.drop (pos p L + 1)) := by rw [← List.drop_eq_getElem_cons hl, List.take_append_drop]
    have e3 : L.filter (fun c => decide (pt c ≠ p)) = (L.take (pos p L) ++ (L[pos p L] :: L.drop (pos p L + 1))).filter (fun c => decide (pt c ≠ p)) := congrArg _ e2
    rw [e3, List.filter_append, List.filter_cons_of_neg (by simp [e])]
    congr 1
    · rw [List.filter_eq_self]
      intro x hx
      rw [h1, List.mem_filter] at hx
      exact decide_eq_true (lt_ne hx.2)
    · rw [List.filter_eq_self]
      intro x hx
      have := hs.head x hx
      rw [e] at this
      exact decide_eq_true (Ne.symm (lt_ne this))
  rw [e1]
theorem putC_at {c : CoinD} {L : List CoinD} (h : Srt L) (hn : hasP (pt c) L = false) : putC c L = L.take (pos (pt c) L) ++ c :: L.drop (pos (pt c) L) := by
  obtain ⟨h1, h2⟩ := pos_split (p := pt c) h
  unfold putC
  rw [h1, h2]
  congr 2
  refine List.filter_congr fun x hx => ?_
  rw [Bool.eq_iff_iff]
  rcases lt_tri (pt x) (pt c) with q | q | q
  · simp [q, lt_asymm q]
  · rw [← Bool.not_eq_true, hasP_iff] at hn
    exact absurd ⟨x, hx, q⟩ hn
  · simp [q, lt_asymm q]

end Go.Proofs.YtmomfkikogbdeaaGreatDoor
