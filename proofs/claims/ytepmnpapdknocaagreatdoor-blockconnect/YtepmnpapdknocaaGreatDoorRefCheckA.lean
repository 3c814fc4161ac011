/- The contract of the reference's CheckTx. -/
import Derived.Test.YtepmnpapdknocaaGreatDoorRefCheck
import Derived.Test.YtepmnpapdknocaaGreatDoorRefSum
import Derived.Test.YtepmnpapdknocaaGreatDoorRefPts
import Derived.Test.YtepmnpapdknocaaGreatDoorTxCheckD
import Derived.Test.YtepmnpapdknocaaGreatDoorLockRead
import Derived.Deep.AppendLies
namespace Go.Proofs.YtepmnpapdknocaaGreatDoor
open Go.RowKit

theorem row_of_ownR {w : World} {base : Nat} {v : Value} {n : Nat} {N : List Int} (h : w.ownsRow base 3 1 v n (N.map (Value.int .i64))) (hm : n ≤ maxLen) : ∃ a cap, v = .slice a n cap ∧ RowAt w a n N := by
  have hl : N.length = n := by have := h.1; simpa using this
  rcases h.2 with ⟨rfl, rfl⟩ | ⟨g, cap, cur, rfl, _, _, h1, h2, _, _⟩
  · have e : N = [] := List.length_eq_zero_iff.1 hl
    subst e
    exact ⟨none, 0, rfl, RowAt.nil _ _⟩
  · refine ⟨_, cap, rfl, hl, hm, fun _ => ⟨g, 0, rfl, fun i hi => ?_⟩⟩
    rw [Nat.zero_add, World.ownsRow.cellAt h i (by omega)]
    have hi2 : i < N.length := by omega
    simp [hi2]

def ptsOf (I : List InD) : List (Int × Int) := I.map fun x => (x.1, x.2.1)
theorem pts_mem (x : InD) (I : List InD) : decide ((x.1, x.2.1) ∈ ptsOf I) = I.any (samePt x) := by
  rw [Bool.eq_iff_iff, decide_eq_true_iff, List.any_eq_true]
  unfold ptsOf samePt
  rw [List.mem_map]
  constructor
  · rintro ⟨y, hy, e⟩
    injection e with e1 e2
    exact ⟨y, hy, by simp [e1, e2]⟩
  · rintro ⟨y, hy, e⟩
    simp only [Bool.and_eq_true, decide_eq_true_eq] at e
    exact ⟨y, hy, by rw [e.1, e.2]⟩

theorem Tryz.infoPoint : (Tryz.prog.info? 86).map (fun i => (i.zero, i.size, i.bytes)) = some (some (.agg #[.int .i64 0, .int .i64 0]), 2, 16) := by kernel_rfl

set_option maxRecDepth 10000 in
set_option maxHeartbeats 6400000 in
theorem rct_zero (h : Int) (ai ao : Option Addr) (ni ci no co : Nat) (I : List InD) (O : List OutD) (z : Int) (w : World) (hI : InsAt w ai ni I) (hO : OutsAt w ao no O) (h6i : ni ≤ 6) (h6o : no ≤ 6) (ho0 : 0 < no) (hn : ni = 0) (hh1 : 1 ≤ h) (hh2 : h ≤ 1000) (hz : chkOutsAll O = z) :
    Calls Tryz.prog 34 #[.agg #[.int .i64 h, .slice ai ni ci, .slice ao no co]] w fun e w' => e = .returned (.int .i64 z) ∧ Below w.heap.size w w' := by
  obtain ⟨i1, hi1, hy0, hy1, hy2⟩ := info_parts Tryz.infoInt
  have hb := bel_new w (.cells #[.int .i64 h, .slice ai ni ci, .slice ao no co] 74)
  obtain ⟨n0, n1, n2⟩ := three_new w (.int .i64 h) (.slice ai ni ci) (.slice ao no co) 74
  obtain ⟨W, hW⟩ : ∃ W, W = w.alloc (.cells #[.int .i64 h, .slice ai ni ci, .slice ao no co] 74) := ⟨_, rfl⟩
  rw [← hW] at hb n0 n1 n2
  have HB := hide hb
  have HI := hide (hI.later hb)
  have HO := hide (hO.later hb)
  have N2 := hide n2
  have q1 : ¬ (6 : Int) < (ni : Int) := by omega
  have q2 : ¬ (6 : Int) < (no : Int) := by omega
  have q3 : ((no : Int) == 0) = false := by simp; omega
  have HZ := hide hz
  have g1 : ¬ (h < 1) := by omega
  have g2 : ¬ (1000 < h) := by omega
  subst hn
  clear hI hO hz hb
  go_enter Tryz.func34, Tryz.ntmps34
  go_wp2
  rw [← hW]
  clear hW
  refine wp_loop_rounds 1 ?_
  rw [rounds_succ]
  go_wp2
  have HBX := hide (Below.refl W.heap.size W)
  have OWN0 : Hid (W.ownsRow W.heap.size 3 1 (.slice none 0 0) 0 ((([] : List Int).map (Value.int .i64)))) := ⟨rfl, Or.inl ⟨rfl, rfl⟩⟩
  go_loopw [7, 100] (fun v i wr => ∃ k : Nat, k ≤ no ∧ i = .int .i64 k ∧ Below W.heap.size W wr ∧ Hid (wr.ownsRow W.heap.size 3 1 v k (((O.take k).map (·.1)).map (Value.int .i64))) ∧ Hid (chkOuts O = chkOuts (O.drop k))) (fun _ i _ => no - (intOf i).toNat)
  case atStart => exact ⟨0, Nat.zero_le _, rfl, unhide HBX, OWN0, rfl⟩
  case round =>
    obtain ⟨k, hk2, rfl, hb, HO2, A⟩ := hrel
    have HB2 := hide hb
    by_cases hlt : k < no
    · obtain ⟨hzO, hcs⟩ := unhide HO
      obtain ⟨b, off, rfl, hbl, hc⟩ := hcs (by omega)
      have hlk : k < O.length := by omega
      have hin := OutAt.kept _ _ _ _ _ hb (hc k hlk)
      have ST := hide (chkOuts_stop O k hlk)
      have SS := hide (chkOuts_step O k hlk)
      have TK := hide (List.take_succ_eq_append_getElem hlk)
      obtain ⟨x, hx⟩ : ∃ x, O[k] = x := ⟨_, rfl⟩
      rw [hx] at hin ST SS TK
      obtain ⟨x1, key⟩ := x
      obtain ⟨g1, ka, kn, kc, g3, g4, _⟩ := hin
      simp only at g1 g3 g4
      have hba := bel_new wr (.cells #[.int .i64 x1, .slice ka kn kc] 84)
      obtain ⟨n1, n2⟩ := two_fresh wr (.int .i64 x1) (.slice ka kn kc) 84
      have KO := hide (g4.later hba)
      have N1b := hide n1
      have HBA := hide hba
      have OWNA := hide (own_keep (unhide HO2) hba)
      clear hb hx g4 n1 hc hcs
      by_cases hlo : x1 < 1
      · have R : Hid (z = 3) := by
          have e : chkOut1 (x1, key) = 3 := chkOut1_lo hlo
          have e2 : chkOuts O = 3 := by rw [unhide A, (unhide ST) (by rw [e]; decide), e]
          show _ = _
          rw [← unhide HZ]; unfold chkOutsAll; rw [e2]; rfl
        have HB3 := hide (bel_on (unhide HB2) (unhide HBA))
        clear A ST SS hba
        go_wp2
        go_ret
        exact ⟨by rw [unhide R]; rfl, bel_on (unhide HB) (unhide HB3)⟩
      · have CK := hide (rcheck_any ka kn kc key _ (unhide KO))
        by_cases hk0 : chk key = 0
        · have R : Hid (chkOuts O = chkOuts (O.drop (k + 1))) := by
            have e : chkOut1 (x1, key) = 0 := by rw [chkOut1_hi hlo]; exact hk0
            show _ = _
            rw [unhide A, (unhide SS) e]
          rw [hk0] at CK
          clear A ST SS hk0 hba
          go_wp2_with fail
          refine (unhide CK).mono ?_
          rintro e w3 ⟨rfl, hb3⟩
          have m1 := cell_later hb3 (unhide N1b)
          have hs3 := World.block_lt_of_cell? _ _ m1
          have hb4 := bel_new w3 (.cells #[.int .i64 x1] 3)
          have OWN4 := hide (own_keep (own_keep (unhide OWNA) hb3) hb4)
          have NEWS := hide (World.news_of_block (heap_alloc_new w3 (.cells #[.int .i64 x1] 3)))
          have HB4 := hide (bel_on (bel_on (bel_on (unhide HB2) (unhide HBA)) hb3) hb4)
          clear hb3 hb4
          go_wp2_with (at_builtin; refine wpList_append_own _ rfl _ _ 30 rfl W.heap.size 3 i1 (.int .i64 0) 1 8 Tryz.underlying30 hi1 hy0 hy1 hy2 rfl (by decide) _ _ _ rfl (unhide OWN4) ⟨w3.heap.size, 0, none⟩ 1 1 [.int .i64 x1] rfl rfl (unhide NEWS) (fun u hu => by simp at hu; subst hu; rfl) (by unfold maxLen; omega) (by omega) (unhide HB4).size ?_; intro v7 w7 hown7 hgrow7 _)
          have OWN7 : Hid (w7.ownsRow W.heap.size 3 1 v7 (k + 1) (((O.take (k + 1)).map (·.1)).map (Value.int .i64))) := by
            show World.ownsRow _ _ _ _ _ _ _
            rw [unhide TK, List.map_append, List.map_append]; exact hown7
          have HB7 := hide ((unhide HB4).grown hgrow7 (unhide HB4).size (own_ge (unhide OWN4)))
          clear hown7 hgrow7
          go_roundw
          case rel => exact ⟨k + 1, by omega, by go_num, unhide HB7, OWN7, R⟩
          case measure => simp [intOf]; omega
        · obtain ⟨y, hy⟩ : ∃ y, chk key = y := ⟨_, rfl⟩
          have R : Hid (z = y) := by
            have e : chkOut1 (x1, key) = chk key := chkOut1_hi hlo
            have e2 : chkOuts O = y := by rw [unhide A, (unhide ST) (by rw [e]; exact hk0), e]; exact hy
            show _ = _
            rw [← unhide HZ]; unfold chkOutsAll; rw [e2, if_neg (by rw [← hy]; exact hk0)]
          rw [hy] at CK
          rw [hy] at hk0
          have gz : (y != 0) = true := by simp [hk0]
          clear A ST SS hy hk0 hba
          go_wp2_with fail
          refine (unhide CK).mono ?_
          rintro e w3 ⟨rfl, hb3⟩
          have HB3 := hide (bel_on (bel_on (unhide HB2) (unhide HBA)) hb3)
          clear hb3
          go_wp2
          go_ret
          exact ⟨by rw [unhide R]; rfl, bel_on (unhide HB) (unhide HB3)⟩
    · have e : k = no := by omega
      subst e
      have hzO := (unhide HO).1
      have R : Hid (z = (sm 0 (O.map (·.1))).2) := by
        show _ = _
        rw [← unhide HZ]; unfold chkOutsAll; rw [unhide A, chkOuts_end O k (by omega)]; rfl
      have ho2 := unhide HO2
      rw [List.take_of_length_le (by omega)] at ho2
      obtain ⟨av, cv, rfl, hrow⟩ := row_of_ownR ho2 (by unfold maxLen; omega)
      have SM := hide (sumOf_any av k cv (O.map (·.1)) _ hrow)
      obtain ⟨s, hs⟩ : ∃ s, sm 0 (O.map (·.1)) = s := ⟨_, rfl⟩
      rw [hs] at SM R
      obtain ⟨s1, s2⟩ := s
      clear A hb ho2 hrow hs hlt hk2
      go_wp2_with fail
      refine (unhide SM).mono ?_
      rintro e w' ⟨rfl, rfl⟩
      go_wp2
      go_ret
      exact ⟨by rw [unhide R]; rfl, bel_on (unhide HB) (unhide HB2)⟩


end Go.Proofs.YtepmnpapdknocaaGreatDoor
