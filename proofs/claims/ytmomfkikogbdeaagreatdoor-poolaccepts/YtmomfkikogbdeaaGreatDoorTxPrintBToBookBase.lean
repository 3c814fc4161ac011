/- Print of a right transaction. -/
import Derived.Test.YtmomfkikogbdeaaGreatDoorTxPartsToTxPrint
import Derived.Test.YtmomfkikogbdeaaGreatDoorCoinSpendBToBlkCheck
import Derived.Test.YtmomfkikogbdeaaGreatDoorRows
import Derived.WalkKit
import Derived.WalkLawsBesides
import Derived.Deep.QuietTactic
import Derived.BigQuiet
import Derived.Deep.RegionWith
import Derived.Maps.OwnOps
import Derived.Maps.Views
import Derived.Laws.AppendOwnNone
namespace Go.Proofs.YtmomfkikogbdeaaGreatDoor
open Go.RowKit

set_option maxRecDepth 10000 in
set_option maxHeartbeats 6400000 in
theorem txPrint_some (h : Int) (ai ao : Option Addr) (ni ci no co : Nat) (I : List InD) (O : List OutD) (w : World) (hE : Env w) (hI : InsAt w ai ni I) (hO : OutsAt w ao no O) (sI : SlOk ai ni ci) (hx : chkTx (h, I, O) = 0) :
    Calls Tryz.prog 155 #[.agg #[.int .i64 h, .slice ai ni ci, .slice ao no co]] w fun e w' => e = .returned (.tuple #[.string (txText (h, I, O)), .int .i64 0]) ∧ Below w.heap.size w w' := by
  have ok := TxOk.of hx
  have hb := bel_new w (.cells #[.int .i64 h, .slice ai ni ci, .slice ao no co] 59)
  obtain ⟨n0, n1, n2⟩ := three_new w (.int .i64 h) (.slice ai ni ci) (.slice ao no co) 59
  have HB := hide hb
  have C := hide (txCheck_any h ai ao ni ci no co I O _ (hI.later hb) (hO.later hb) sI)
  rw [hx] at C
  have N0 := hide n0
  have N1 := hide n1
  have N2 := hide n2
  have hi6 : ni ≤ 6 := by have := ok.ins6; have := hI.1; simp only at *; omega
  have ho6 : no ≤ 6 := by have := ok.outs6; have := hO.1; simp only at *; omega
  have hpos : 0 < no := by have := ok.some; have := hO.1; simp only at *; omega
  have HI := hide hI
  have HO := hide hO
  have HE := hide hE
  have HG := hide ok.hgt
  have HII := hide ok.ins
  have HOO := hide ok.outs
  clear hb hI hO sI hx n0 n1 n2 hE ok
  go_enter Tryz.func155, Tryz.ntmps155
  go_wp2_with fail
  refine (unhide C).mono ?_
  rintro e w2 ⟨rfl, hb2⟩
  have m0 := cell_later hb2 (unhide N0)
  have M1 := hide (cell_later hb2 (unhide N1))
  have M2 := hide (cell_later hb2 (unhide N2))
  have s2 : w.heap.size < w2.heap.size := World.block_lt_of_cell? _ _ m0
  have hbw2 := bel_on (unhide HB) hb2
  have ba := bel_new w2 (.cells #[.int .i64 h] 3)
  have R := hide (printRow_some txB w2.heap.size 0 1 1 [h] (w2.alloc (.cells #[.int .i64 h] 3)) ((unhide HE).later (bel_on hbw2 ba)) (by decide) (by decide) rfl (by simp) (fun i hi => by
    have e : i = 0 := by omega
    subst e
    exact one_new w2 (.int .i64 h) 3) (fun z hz => by have := unhide HG; simp at hz; omega))
  have HBA := hide ba
  have HB2 := hide hb2
  have HBW2 := hide hbw2
  have hs := headText_size h (unhide HG)
  have hs0 : (rowB txB [h]).size ≤ 29 := by
    have e : headText h = rowB txB [h] ++ ⟨#[10]⟩ := rfl
    rw [e, size_one] at hs
    omega
  obtain ⟨T0, hT0⟩ : ∃ T0, rowB txB [h] = T0 := ⟨_, rfl⟩
  have HT0 : Hid (T0 ++ ⟨#[10]⟩ = headText h) := by show _ = _; rw [← hT0]; rfl
  rw [hT0] at R hs0
  clear hb2 hbw2 ba hs hT0
  go_wp2_with fail
  refine (unhide R).mono ?_
  rintro e w3 ⟨rfl, hb3⟩
  have hb3' := bel_on (unhide HBA) hb3
  have m1 := cell_later hb3' (unhide M1)
  have M2' := hide (cell_later hb3' (unhide M2))
  have s3 : w.heap.size < w3.heap.size := World.block_lt_of_cell? _ _ m1
  have HBW3 := hide (bel_on (unhide HBW2) hb3')
  clear hb3 hb3'
  go_wp2
  go_loopw [5, 23] (fun s i wr => ∃ k : Nat, k ≤ ni ∧ i = .int .i64 k ∧ s = .string (insText h (I.take k)) ∧ Below w3.heap.size w3 wr) (fun _ i _ => ni - (intOf i).toNat)
  case atStart => exact ⟨0, Nat.zero_le _, rfl, by rw [unhide HT0]; rfl, Below.refl _ _⟩
  case round =>
    obtain ⟨k, hk, rfl, rfl, hbr⟩ := hrel
    have HBR := hide hbr
    have hbw := bel_on (unhide HBW3) hbr
    have HBW := hide hbw
    by_cases hlt : k < ni
    · have hlk : k < I.length := by rw [(unhide HI).1]; exact hlt
      obtain ⟨b, off, rfl, hbl, hcell⟩ := ((unhide HI).later hbw).2 (by omega)
      obtain ⟨g1, g2, ka, kn, kc, g3, g4, _⟩ := hcell k hlk
      have hok := (unhide HII) I[k] (List.getElem_mem hlk)
      have hS := insText_snoc h (I.take k) I[k]
      rw [← List.take_succ_eq_append_getElem hlk] at hS
      have hTs : (insText h (I.take k)).size ≤ 3000 := by
        have := insText_size h (I.take k) (unhide HG) (fun x hx => (unhide HII) x (List.mem_of_mem_take hx))
        rw [List.length_take] at this
        omega
      have hXs := inText_size I[k] hok
      obtain ⟨x, hx⟩ : ∃ x, I[k] = x := ⟨_, rfl⟩
      rw [hx] at g1 g2 g4 hok hS hXs
      obtain ⟨x1, x2, key⟩ := x
      simp only at g1 g2 g3 g4
      have hp := (ptOk_iff _).1 hok.1
      simp only at hp
      obtain ⟨T, hT⟩ : ∃ T, insText h (I.take k) = T := ⟨_, rfl⟩
      obtain ⟨X, hX⟩ : ∃ X, inText (x1, x2, key) = X := ⟨_, rfl⟩
      rw [hT, hX] at hS
      rw [hT] at hTs ⊢
      rw [hX] at hXs
      have HS := hide hS
      have b1 := bel_new wr (.cells #[.int .i64 x1, .int .i64 x2, .slice ka kn kc] 119)
      have b2 := bel_new (wr.alloc (.cells #[.int .i64 x1, .int .i64 x2, .slice ka kn kc] 119)) (.cells #[.int .i64 x1, .int .i64 x2] 3)
      have b12 := bel_on b1 b2
      have t2 := two_fresh (wr.alloc (.cells #[.int .i64 x1, .int .i64 x2, .slice ka kn kc] 119)) (.int .i64 x1) (.int .i64 x2) 3
      have esz : (wr.alloc (.cells #[.int .i64 x1, .int .i64 x2, .slice ka kn kc] 119)).heap.size = wr.heap.size + 1 := by simp
      rw [esz] at t2
      have PL := hide (printLine_is ka kn kc key inB (wr.heap.size + 1) 0 2 2 [x1, x2] X ((wr.alloc (.cells #[.int .i64 x1, .int .i64 x2, .slice ka kn kc] 119)).alloc (.cells #[.int .i64 x1, .int .i64 x2] 3)) (((unhide HE).later hbw).later b12) (g4.later b12) hok.2 (by decide) (by decide) rfl (by simp) (fun i hi => by
        have e : i = 0 ∨ i = 1 := by omega
        rcases e with rfl | rfl
        · exact t2.1
        · exact t2.2) (fun z hz => by simp at hz; omega) hX)
      have HB12 := hide b12
      clear hbr hbw hcell g4 hok hx hT hX hS b1 b2 b12 t2 esz hp
      go_wp2_with fail
      refine (unhide PL).mono ?_
      rintro e w4 ⟨rfl, hb4⟩
      have HB4 := hide ((unhide HBR).trans ((bel_on (unhide HB12) hb4).mono (unhide HBR).size))
      clear hb4
      go_wp2
      go_roundw
      case rel => exact ⟨k + 1, by omega, by go_num, by rw [unhide HS], unhide HB4⟩
      case measure => simp [intOf]; omega
    · have e : k = ni := by omega
      subst e
      have HT : Hid (insText h (I.take k) = insText h I) := by show _ = _; rw [List.take_of_length_le (by rw [(unhide HI).1]; exact Nat.le_refl _)]
      have hTs := insText_size h I (unhide HG) (unhide HII)
      have hil : I.length ≤ 6 := by rw [(unhide HI).1]; exact hi6
      obtain ⟨T1, hT1⟩ : ∃ T1, insText h I = T1 := ⟨_, rfl⟩
      rw [hT1] at HT hTs
      have HT1 := hide hT1
      have m2 := cell_later hbr (unhide M2')
      have s4 : w.heap.size < wr.heap.size := World.block_lt_of_cell? _ _ m2
      rw [unhide HT]
      clear hbr hT1 hk hlt
      go_wp2
      go_loopw [5, 43] (fun s i wz => ∃ j : Nat, j ≤ no ∧ i = .int .i64 j ∧ s = .string (outsText T1 (O.take j)) ∧ Below wr.heap.size wr wz) (fun _ i _ => no - (intOf i).toNat)
      case atStart => exact ⟨0, Nat.zero_le _, rfl, rfl, Below.refl _ _⟩
      case round =>
        obtain ⟨j, hj, rfl, rfl, hbz⟩ := hrel
        have HBZ := hide hbz
        have hbv := bel_on (unhide HBW) hbz
        have HBV := hide hbv
        by_cases hlt : j < no
        · have hlk : j < O.length := by rw [(unhide HO).1]; exact hlt
          obtain ⟨b, off, rfl, hbl, hcell⟩ := ((unhide HO).later hbv).2 (by omega)
          obtain ⟨g1, ka, kn, kc, g3, g4, _⟩ := hcell j hlk
          have hok := (unhide HOO) O[j] (List.getElem_mem hlk)
          have hS := outsText_snoc T1 (O.take j) O[j]
          rw [← List.take_succ_eq_append_getElem hlk] at hS
          have hTs2 : (outsText T1 (O.take j)).size ≤ 6000 := by
            have := outsText_size T1 (O.take j) (fun x hx => (unhide HOO) x (List.mem_of_mem_take hx))
            rw [List.length_take] at this
            omega
          have hXs := outText_size O[j] hok
          obtain ⟨x, hx⟩ : ∃ x, O[j] = x := ⟨_, rfl⟩
          rw [hx] at g1 g4 hok hS hXs
          obtain ⟨x1, key⟩ := x
          simp only at g1 g3 g4
          have hp := hok.1
          simp only at hp
          obtain ⟨T, hT⟩ : ∃ T, outsText T1 (O.take j) = T := ⟨_, rfl⟩
          obtain ⟨X, hX⟩ : ∃ X, outText (x1, key) = X := ⟨_, rfl⟩
          rw [hT, hX] at hS
          rw [hT] at hTs2 ⊢
          rw [hX] at hXs
          have HS := hide hS
          have b1 := bel_new wr (.cells #[.int .i64 x1, .slice ka kn kc] 122)
          have b2 := bel_new (wr.alloc (.cells #[.int .i64 x1, .slice ka kn kc] 122)) (.cells #[.int .i64 x1] 3)
          have b12 := bel_on b1 b2
          have t2 := one_new (wr.alloc (.cells #[.int .i64 x1, .slice ka kn kc] 122)) (.int .i64 x1) 3
          have esz : (wr.alloc (.cells #[.int .i64 x1, .slice ka kn kc] 122)).heap.size = wr.heap.size + 1 := by simp
          rw [esz] at t2
          have PL := hide (printLine_is ka kn kc key outB (wr.heap.size + 1) 0 1 1 [x1] X ((wr.alloc (.cells #[.int .i64 x1, .slice ka kn kc] 122)).alloc (.cells #[.int .i64 x1] 3)) (((unhide HE).later hbv).later b12) (g4.later b12) hok.2 (by decide) (by decide) rfl (by simp) (fun i hi => by
            have e : i = 0 := by omega
            subst e
            exact t2) (fun z hz => by simp at hz; omega) hX)
          have HB12 := hide b12
          clear hbz hbv hcell g4 hok hx hT hX hS b1 b2 b12 t2 esz hp
          go_wp2_with fail
          refine (unhide PL).mono ?_
          rintro e w4 ⟨rfl, hb4⟩
          have HB4 := hide ((unhide HBZ).trans ((bel_on (unhide HB12) hb4).mono (unhide HBZ).size))
          clear hb4
          go_wp2
          go_roundw
          case rel => exact ⟨j + 1, by omega, by go_num, by rw [unhide HS], unhide HB4⟩
          case measure => simp [intOf]; omega
        · have HF : Hid (outsText T1 (O.take j) = txText (h, I, O)) := by
            show _ = _
            rw [List.take_of_length_le (by rw [(unhide HO).1]; omega), ← unhide HT1]; rfl
          clear hbz hbv
          go_wp2
          go_ret2
          exact ⟨ret_text (unhide HF), unhide HBV⟩

theorem txPrint_is (h : Int) (ai ao : Option Addr) (ni ci no co : Nat) (I : List InD) (O : List OutD) (t : ByteArray) (x : Int) (w : World) (hE : Env w) (hI : InsAt w ai ni I) (hO : OutsAt w ao no O) (sI : SlOk ai ni ci) (hx : chkTx (h, I, O) = x) (ht : txT (h, I, O) = t) :
    Calls Tryz.prog 155 #[.agg #[.int .i64 h, .slice ai ni ci, .slice ao no co]] w fun e w' => e = .returned (.tuple #[.string t, .int .i64 x]) ∧ Below w.heap.size w w' := by
  subst ht
  by_cases h0 : chkTx (h, I, O) = 0
  · rw [h0] at hx
    subst hx
    unfold txT
    rw [if_pos h0]
    exact txPrint_some h ai ao ni ci no co I O w hE hI hO sI h0
  · unfold txT
    rw [if_neg h0]
    exact txPrint_bad h ai ao ni ci no co I O x w hI hO sI hx (by rw [← hx]; exact h0)

end Go.Proofs.YtmomfkikogbdeaaGreatDoor

/- Contracts of printTxs and of block.Print. -/
namespace Go.Proofs.YtmomfkikogbdeaaGreatDoor
open Go.RowKit

theorem chkTs_all (h : Int) : ∀ (i : Nat) (T : List TxD), chkTs h i T = 0 → ∀ t ∈ T, chkTx t = 0
  | _, [], _, t, ht => by cases ht
  | i, x :: r, e, t, ht => by
    unfold chkTs at e
    split at e
    · rename_i q; exact absurd e q
    · rename_i q
      split at e
      · cases e
      · rcases List.mem_cons.1 ht with rfl | ht
        · exact Classical.not_not.1 q
        · exact chkTs_all h (i + 1) r e t ht
end Go.Proofs.YtmomfkikogbdeaaGreatDoor

/- Names of texts: what Check, Name and All answer; plain mathematics. -/
namespace Go.Proofs.YtmomfkikogbdeaaGreatDoor.Bk

/-- The place of a text in a list, from 1 on; 0: it is not there. -/
def place (s : ByteArray) : List ByteArray → Nat
  | [] => 0
  | x :: r => if x = s then 1 else if place s r = 0 then 0 else place s r + 1

theorem place_zero {s : ByteArray} : ∀ {L : List ByteArray}, place s L = 0 ↔ s ∉ L
  | [] => by simp [place]
  | x :: r => by
    unfold place
    have ih := place_zero (s := s) (L := r)
    by_cases h : x = s
    · simp [h]
    · have h' : ¬ s = x := fun e => h e.symm
      rw [if_neg h]
      by_cases hr : place s r = 0
      · rw [if_pos hr]; simp [h', ih.1 hr]
      · rw [if_neg hr]
        have : s ∈ r := by
          rcases Classical.em (s ∈ r) with m | m
          · exact m
          · exact absurd (ih.2 m) hr
        simp [this]
theorem place_append (s : ByteArray) : ∀ (L M : List ByteArray), place s (L ++ M) = if place s L = 0 then (if place s M = 0 then 0 else L.length + place s M) else place s L
  | [], M => by
    have e : place s [] = 0 := rfl
    rw [e, if_pos rfl, List.nil_append]
    by_cases hM : place s M = 0
    · rw [if_pos hM]; exact hM
    · rw [if_neg hM]; simp
  | x :: r, M => by
    have e1 : place s (x :: r) = if x = s then 1 else if place s r = 0 then 0 else place s r + 1 := rfl
    have e2 : place s ((x :: r) ++ M) = if x = s then 1 else if place s (r ++ M) = 0 then 0 else place s (r ++ M) + 1 := rfl
    rw [e2, place_append s r M]
    by_cases hx : x = s
    · rw [if_pos hx] at *
      rw [e1]; simp
    · rw [if_neg hx] at *
      by_cases hr : place s r = 0
      · rw [if_pos hr] at e1
        rw [e1, hr]
        by_cases hM : place s M = 0
        · simp [hM]
        · simp only [hM, if_true, if_false, List.length_cons]
          rw [if_neg (by omega)]; omega
      · rw [if_neg hr] at e1
        rw [e1, if_neg hr, if_neg hr, if_neg (by omega)]
theorem place_snoc {s : ByteArray} {L : List ByteArray} (h : s ∉ L) : place s (L ++ [s]) = L.length + 1 := by
  rw [place_append, if_pos (place_zero.2 h)]; simp [place]
theorem place_other {s t : ByteArray} (L : List ByteArray) (h : s ≠ t) : place s (L ++ [t]) = place s L := by
  rw [place_append]
  have e : place s [t] = 0 := by rw [place_zero]; simp [h]
  rw [e]
  split
  · rw [if_pos rfl]; rename_i e2; exact e2.symm
  · rfl
/-- What Check answers, text by text. -/
def bkGo (seen : List ByteArray) : List ByteArray → Int
  | [] => 0
  | s :: r => if 4000 < s.size then 2 else if place s seen ≠ 0 then 6 else bkGo (seen ++ [s]) r
def bkChk (L : List ByteArray) : Int := if 120 < L.length then 2 else bkGo [] L

theorem bk_at {L : List ByteArray} {k : Nat} (h : k < L.length) : bkGo (L.take k) (L.drop k) = if 4000 < L[k].size then 2 else if place L[k] (L.take k) ≠ 0 then 6 else bkGo (L.take (k + 1)) (L.drop (k + 1)) := by
  rw [List.drop_eq_getElem_cons h, bkGo, List.take_succ_eq_append_getElem h]
theorem bk_end {L : List ByteArray} {k : Nat} (h : L.length ≤ k) : bkGo (L.take k) (L.drop k) = 0 := by
  rw [List.drop_of_length_le h]; rfl

theorem bkGo_zero : ∀ (L seen : List ByteArray), bkGo seen L = 0 → seen.Nodup → (seen ++ L).Nodup ∧ ∀ s ∈ L, s.size ≤ 4000
  | [], seen, _, hs => by simpa using hs
  | s :: r, seen, h, hs => by
    unfold bkGo at h
    by_cases h1 : 4000 < s.size
    · rw [if_pos h1] at h; omega
    · rw [if_neg h1] at h
      by_cases h2 : place s seen ≠ 0
      · rw [if_pos h2] at h; omega
      · rw [if_neg h2] at h
        have h3 : s ∉ seen := place_zero.1 (by omega)
        have hn : (seen ++ [s]).Nodup := by
          rw [List.nodup_append]
          exact ⟨hs, by simp, fun a ha b hb => by simp at hb; subst hb; exact fun e => h3 (e ▸ ha)⟩
        have ih := bkGo_zero r (seen ++ [s]) h hn
        rw [List.append_assoc] at ih
        refine ⟨ih.1, fun x hx => ?_⟩
        rcases List.mem_cons.1 hx with rfl | hx
        · omega
        · exact ih.2 x hx
theorem bkGo_right : ∀ (L seen : List ByteArray), (seen ++ L).Nodup → (∀ s ∈ L, s.size ≤ 4000) → bkGo seen L = 0
  | [], _, _, _ => rfl
  | s :: r, seen, hn, hs => by
    unfold bkGo
    have h1 : ¬ 4000 < s.size := by have := hs s (by simp); omega
    have h2 : s ∉ seen := by
      intro hm
      rw [List.nodup_append] at hn
      exact hn.2.2 s hm s (by simp) rfl
    rw [if_neg h1, if_neg (by rw [place_zero.2 h2]; decide)]
    refine bkGo_right r (seen ++ [s]) (by rw [List.append_assoc]; exact hn) (fun x hx => hs x (by simp [hx]))

/-- A right book. -/
def Right (L : List ByteArray) : Prop := L.length ≤ 120 ∧ L.Nodup ∧ ∀ s ∈ L, s.size ≤ 4000
theorem right_iff (L : List ByteArray) : bkChk L = 0 ↔ Right L := by
  unfold bkChk Right
  by_cases h : 120 < L.length
  · rw [if_pos h]; constructor
    · intro e; omega
    · intro ⟨e, _⟩; omega
  · rw [if_neg h]
    constructor
    · intro e
      have := bkGo_zero L [] e List.nodup_nil
      exact ⟨by omega, this.1, this.2⟩
    · intro ⟨_, h1, h2⟩
      exact bkGo_right L [] h1 h2

/-- What a text's name is, and the book then. -/
def nm (L : List ByteArray) (s : ByteArray) : List ByteArray × Int × Int :=
  if 4000 < s.size then ([], 0, 2) else if place s L ≠ 0 then (L, (place s L : Int), 0) else if 120 ≤ L.length then ([], 0, 12) else (L ++ [s], L.length + 1, 0)
def nmGo (L : List ByteArray) (N : List Int) : List ByteArray → List ByteArray × List Int × Int
  | [] => (L, N, 0)
  | s :: r => if (nm L s).2.2 = 0 then nmGo (nm L s).1 (N ++ [(nm L s).2.1]) r else ([], [], (nm L s).2.2)

theorem nm_right {L : List ByteArray} {s : ByteArray} (h : Right L) (h0 : (nm L s).2.2 = 0) : Right (nm L s).1 := by
  unfold nm at *
  by_cases h1 : 4000 < s.size
  · rw [if_pos h1] at h0; cases h0
  · rw [if_neg h1] at *
    by_cases h2 : place s L ≠ 0
    · rw [if_pos h2] at *; exact h
    · rw [if_neg h2] at *
      by_cases h3 : 120 ≤ L.length
      · rw [if_pos h3] at h0; cases h0
      · rw [if_neg h3] at *
        have h4 : s ∉ L := place_zero.1 (by omega)
        refine ⟨by simp; omega, ?_, fun x hx => ?_⟩
        · rw [List.nodup_append]
          exact ⟨h.2.1, by simp, fun a ha b hb => by simp at hb; subst hb; exact fun e => h4 (e ▸ ha)⟩
        · rcases List.mem_append.1 hx with hx | hx
          · exact h.2.2 x hx
          · simp at hx; subst hx; omega
theorem nm_grows {L : List ByteArray} {s : ByteArray} (h0 : (nm L s).2.2 = 0) : ∃ M, (nm L s).1 = L ++ M := by
  unfold nm at *
  by_cases h1 : 4000 < s.size
  · rw [if_pos h1] at h0; cases h0
  · rw [if_neg h1] at *
    by_cases h2 : place s L ≠ 0
    · rw [if_pos h2]; exact ⟨[], by simp⟩
    · rw [if_neg h2] at *
      by_cases h3 : 120 ≤ L.length
      · rw [if_pos h3] at h0; cases h0
      · rw [if_neg h3]; exact ⟨[s], rfl⟩
/-- The name is the text's place in the book then. -/
theorem nm_place {L : List ByteArray} {s : ByteArray} (h0 : (nm L s).2.2 = 0) : (nm L s).2.1 = (place s (nm L s).1 : Int) ∧ 0 < place s (nm L s).1 ∧ s.size ≤ 4000 := by
  unfold nm at *
  by_cases h1 : 4000 < s.size
  · rw [if_pos h1] at h0; cases h0
  · rw [if_neg h1] at *
    by_cases h2 : place s L ≠ 0
    · rw [if_pos h2]; exact ⟨rfl, by show 0 < place s L; omega, by omega⟩
    · rw [if_neg h2] at *
      by_cases h3 : 120 ≤ L.length
      · rw [if_pos h3] at h0; cases h0
      · rw [if_neg h3]
        have h4 : s ∉ L := place_zero.1 (by omega)
        show (L.length : Int) + 1 = _ ∧ _
        simp only [place_snoc h4]
        exact ⟨by simp, by omega, by omega⟩
theorem nm_there {L : List ByteArray} {s : ByteArray} (hs : s.size ≤ 4000) (h : 0 < place s L) : nm L s = (L, (place s L : Int), 0) := by
  unfold nm
  rw [if_neg (by omega), if_pos (by omega)]
theorem place_stays {s : ByteArray} {L : List ByteArray} (M : List ByteArray) (h : 0 < place s L) : place s (L ++ M) = place s L := by
  rw [place_append, if_neg (by omega)]
end Go.Proofs.YtmomfkikogbdeaaGreatDoor.Bk

/- What the walks of books have in common. -/
namespace Go.Proofs.YtmomfkikogbdeaaGreatDoor.Bk
open Go.RowKit Go.Maps

theorem hide {p : Prop} (h : p) : Hid p := h
theorem unhide {p : Prop} (h : Hid p) : p := h
theorem bel_on {w w1 w2 : World} (h1 : Below w.heap.size w w1) (h2 : Below w1.heap.size w1 w2) : Below w.heap.size w w2 := h1.trans (h2.mono h1.size)
theorem bel_new (w : World) (o : Obj) : Below w.heap.size w (w.alloc o) := (Below.refl _ _).alloc (Nat.le_refl _) _
theorem below_dw (w : World) (n : Nat) : Below w.heap.size w (w.drewN n) := ⟨rfl, rfl, rfl, Nat.le_refl _, fun _ _ => rfl⟩
theorem cell_later {w w' : World} {p : Addr} {v : Value} (hb : Below w.heap.size w w') (h : w.cell? p = some v) : w'.cell? p = some v := by
  rw [hb.cell (p := p) (World.block_lt_of_cell? _ _ h)]; exact h
theorem one_new (w : World) (x : Value) (t : TypeId) : (w.alloc (.cells #[x] t)).cell? ⟨w.heap.size, 0, none⟩ = some x := by
  rw [World.cell?_alloc_at _ _ _ _ rfl]; rfl

/-- A slice of texts in memory. -/
def TextsAt (w : World) (a : Option Addr) (len : Nat) (L : List ByteArray) : Prop :=
  L.length = len ∧ (0 < len → ∃ b off, a = some ⟨b, off, none⟩ ∧ ∀ i (h : i < L.length), w.cell? ⟨b, off + i, none⟩ = some (.string L[i]))
theorem TextsAt.later {w w' : World} {a : Option Addr} {len : Nat} {L : List ByteArray} (h : TextsAt w a len L) (hb : Below w.heap.size w w') : TextsAt w' a len L := by
  refine ⟨h.1, fun h0 => ?_⟩
  obtain ⟨b, off, e, hc⟩ := h.2 h0
  exact ⟨b, off, e, fun i hi => cell_later hb (hc i hi)⟩
theorem TextsAt.nil (w : World) (a : Option Addr) : TextsAt w a 0 [] := ⟨rfl, fun h => absurd h (by omega)⟩
theorem TextsAt.lt {w : World} {a : Option Addr} {len : Nat} {L : List ByteArray} (h : TextsAt w a len L) (x : Addr) (hx : a = some x) (h0 : 0 < len) : x.block < w.heap.size := by
  obtain ⟨b, off, e, hc⟩ := h.2 h0
  have hz := h.1
  rw [hx] at e
  cases e
  exact World.block_lt_of_cell? _ _ (hc 0 (by omega))

theorem own_ge {w : World} {base : Nat} {e : TypeId} {size : Nat} {v : Value} {n : Nat} {xs : List Value} (h : w.ownsRow base e size v n xs) (k : Nat) (hk : v.ownBlock = some k) : base ≤ k := by
  rcases h.2 with ⟨rfl, _⟩ | ⟨g, cap, cur, rfl, hg, _⟩
  · cases hk
  · cases hk; exact hg
theorem own_type {w w' : World} {base : Nat} {e : TypeId} {size : Nat} {v : Value} {n : Nat} {xs : List Value} (h : w.ownsRow base e size v n xs) (hk : ∀ (k : Nat) (cs : Array Value), base ≤ k → w.heap[k]? = some (.cells cs e (0, 0)) → w'.heap[k]? = w.heap[k]?) : w'.ownsRow base e size v n xs := by
  obtain ⟨hl, h0 | ⟨g, cap, cur, hv, hg, hh, r⟩⟩ := h
  · exact ⟨hl, .inl h0⟩
  · exact ⟨hl, .inr ⟨g, cap, cur, hv, hg, (hk g cur hg hh).trans hh, r⟩⟩
theorem grow_type {w w' : World} {base : Nat} {e : TypeId} {size : Nat} {v : Value} {n : Nat} {xs : List Value} (h : w.ownsRow base e size v n xs) (hg : w.grownBy w' v.ownBlock) (k : Nat) (cs : Array Value) (t : TypeId) (hk : w.heap[k]? = some (.cells cs t (0, 0))) (ht : t ≠ e) : w'.heap[k]? = w.heap[k]? := by
  refine hg.block k (lt_of_block hk) (fun e1 => ?_)
  obtain ⟨_, ⟨rfl, _⟩ | ⟨g, cap, cur, rfl, _, hh, _⟩⟩ := h
  · cases e1
  · have e2 : k = g := by injection e1
    subst e2
    rw [hk] at hh
    injection hh with hh
    injection hh with _ hh
    exact ht hh

/-- A row that the call owns, as a slice of texts. -/
theorem texts_of_own {w : World} {base : Nat} {v : Value} {n : Nat} {L : List ByteArray} (h : w.ownsRow base 9 1 v n (L.map Value.string)) : ∃ a cap, v = .slice a n cap ∧ n ≤ cap ∧ cap ≤ maxLen ∧ (a = none → n = 0 ∧ cap = 0) ∧ TextsAt w a n L := by
  have hl : L.length = n := by have := h.1; simpa using this
  rcases h.2 with ⟨rfl, rfl⟩ | ⟨g, cap, cur, rfl, _, _, h1, h2, _, _⟩
  · have e : L = [] := List.length_eq_zero_iff.1 hl
    subst e
    exact ⟨none, 0, rfl, Nat.le_refl _, by unfold maxLen; omega, fun _ => ⟨rfl, rfl⟩, TextsAt.nil _ _⟩
  · refine ⟨_, cap, rfl, h1, h2, fun e => (by cases e), hl, fun _ => ⟨g, 0, rfl, fun i hi => ?_⟩⟩
    rw [Nat.zero_add, World.ownsRow.cellAt h i (by omega)]
    simp [hi]

set_option maxHeartbeats 400000 in
theorem within_is (n lo hi : Int) (b : Bool) (w : World) (hb : b = (decide (lo ≤ n) && decide (n ≤ hi))) :
    Calls Tryz.prog 103 #[.int .i64 n, .int .i64 lo, .int .i64 hi] w fun e w' => e = .returned (.bool b) ∧ w = w' := by
  by_cases h1 : lo ≤ n
  · by_cases h2 : n ≤ hi
    · have e : b = true := by rw [hb]; simp [h1, h2]
      subst e
      clear hb
      go_enter Tryz.func103, Tryz.ntmps103
      go_wp2
      go_ret
      exact ⟨rfl, rfl⟩
    · have e : b = false := by rw [hb]; simp [h2]
      have h4 : decide (n ≤ hi) = false := by simp; omega
      have h5 : hi < n := by omega
      subst e
      clear hb h2
      go_enter Tryz.func103, Tryz.ntmps103
      go_wp2
      go_ret
      exact ⟨rfl, rfl⟩
  · have e : b = false := by rw [hb]; simp [h1]
    have h5 : n < lo := by omega
    subst e
    clear hb h1
    go_enter Tryz.func103, Tryz.ntmps103
    go_wp2
    go_ret
    exact ⟨rfl, rfl⟩

theorem Tryz.info9 : (Tryz.prog.info? 9).map (fun i => (i.zero, i.size, i.bytes)) = some (some (.string ⟨#[]⟩), 1, 16) := by kernel_rfl
theorem Tryz.infoInt : (Tryz.prog.info? 3).map (fun i => (i.zero, i.size, i.bytes)) = some (some (.int .i64 0), 1, 8) := by kernel_rfl
theorem key9 : Keyed Tryz.prog 9 := string_keyed Tryz.underlying9
theorem zero3 (w : World) : (zeroValue 3).run Tryz.prog w = .ok (.int .i64 0) w := by kernel_rfl

end Go.Proofs.YtmomfkikogbdeaaGreatDoor.Bk
