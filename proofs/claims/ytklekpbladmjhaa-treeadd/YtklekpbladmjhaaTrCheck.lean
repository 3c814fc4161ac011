/- The contract of tree.Check. -/
import Derived.Test.YtklekpbladmjhaaTrFirst
namespace Go.Proofs.Ytklekpbladmjhaa
open Go.RowKit

theorem next_chk {N : List Int} {T : List BlkD} {x : Int} {b : BlkD} (h : nextD N T x b = 0) : chkB b = 0 := by
  unfold nextD at h
  split at h
  · cases h
  · split at h
    · next q => exact absurd h q
    · next q => exact Classical.not_not.1 q
theorem heads_more {T : List BlkD} {j : Nat} (hj : j < T.length) (h : HeadsOk (T.take j)) (hb : chkB T[j] = 0) : HeadsOk (T.take (j + 1)) := by
  rw [List.take_succ_eq_append_getElem hj]
  intro b hm
  rcases List.mem_append.1 hm with q | q
  · exact h b q
  · rw [List.mem_singleton.1 q]; exact chkB_head hb

set_option maxRecDepth 10000 in
set_option maxHeartbeats 6400000 in
theorem trCheck_any (a b : Option Addr) (n c m d : Nat) (N : List Int) (T : List BlkD) (x : Int) (w : World) (hN : IntsAt w a n N) (hT : BlksAt w b m T) (sN : SlOk a n c) (sT : SlOk b m d) (hx : chkTr N T = x) :
    Calls Try.prog 12 #[.agg #[.slice a n c, .slice b m d]] w fun e w' => e = .returned (.int .i64 x) ∧ Below w.heap.size w w' := by
  subst hx
  obtain ⟨X, hX⟩ : ∃ X, X = w.alloc (.cells #[.slice a n c, .slice b m d] 25) := ⟨_, rfl⟩
  have hbX : Below w.heap.size w X := by rw [hX]; exact bel_new _ _
  have hX0 : X.heap[w.heap.size]? = some (.cells [.slice a n c, .slice b m d].toArray 25 (0, 0)) := by rw [hX]; exact two_heap _ _ _ _
  have HB := hide hbX
  have HX0 := hide hX0
  have x0 := cell_of hX0 0 _ rfl
  have x1 := cell_of hX0 1 _ rfl
  have xl := lt_of_block hX0
  have HN := hide (hN.later hbX)
  have HT := hide (hT.later hbX)
  have HZN := hide hN.1
  have HZT := hide hT.1
  have hm := sN.2.1
  have hm2 := sT.2.1
  have hlc := sN.1
  unfold maxLen at hm hm2
  by_cases e : n = m
  · subst e
    by_cases h24 : 24 < n
    · have R : Hid (chkTr N T = 2) := by show _ = _; unfold chkTr; rw [hN.1, hT.1, if_neg (by simp), if_pos h24]
      have g0 : ((n : Int) != (n : Int)) = false := by simp
      have g1 : (24 : Int) < (n : Int) := by omega
      clear hN hT sN sT hX0 hbX
      go_enter Try.func12, Try.ntmps12
      go_wp2_with fail
      rw [← hX]
      clear hX
      go_wp2
      go_ret
      exact ⟨by rw [unhide R]; rfl, unhide HB⟩
    · have R : Hid (chkTr N T = chkGo (N.take 0) (T.take 0) (N.drop 0) (T.drop 0)) := by show _ = _; unfold chkTr; rw [hN.1, hT.1, if_neg (by simp), if_neg h24]; rfl
      have g0 : ((n : Int) != (n : Int)) = false := by simp
      have g1 : ¬ (24 : Int) < (n : Int) := by omega
      have SN := hide sN
      have ST := hide sT
      clear hN hT sN sT hX0 hbX
      go_enter Try.func12, Try.ntmps12
      go_wp2_with fail
      rw [← hX]
      clear hX
      go_wp2
      go_loopw [19] (fun i wr => ∃ j : Nat, j ≤ n ∧ i = .int .i64 j ∧ Hid (chkTr N T = chkGo (N.take j) (T.take j) (N.drop j) (T.drop j)) ∧ Hid (HeadsOk (T.take j)) ∧ Hid (Below X.heap.size X wr)) (fun i _ => n - (intOf i).toNat)
      case atStart => exact ⟨0, Nat.zero_le _, rfl, R, (fun b hb => (by simp at hb) : HeadsOk (T.take 0)), (Below.refl _ _ : Below X.heap.size X X)⟩
      case round =>
        obtain ⟨j, hj, rfl, A, HH, HBr⟩ := hrel
        clear R
        by_cases hlt : j < n
        · have h1 : j < N.length := by rw [unhide HZN]; exact hlt
          have h2 : j < T.length := by rw [unhide HZT]; exact hlt
          obtain ⟨b1, off1, rfl, hl1, hc1⟩ := (unhide HN).2 (by omega)
          obtain ⟨b2, off2, rfl, hl2, hc2⟩ := (unhide HT).2 (by omega)
          have f1 := cell_later (unhide HBr) (hc1 j h1)
          have hin := BlkAt.kept _ _ _ _ _ (unhide HBr) (hc2 j h2)
          have AT := hide (chkGo_at N T j h1 h2)
          have HM := hide (heads_more h2 (unhide HH))
          obtain ⟨s, hs⟩ : ∃ s, N[j] = s := ⟨_, rfl⟩
          obtain ⟨t, ht⟩ : ∃ t, T[j] = t := ⟨_, rfl⟩
          rw [hs] at f1 AT
          rw [ht] at hin AT HM
          obtain ⟨p, h, k, o, L⟩ := t
          obtain ⟨g0', g1', g2, g3, ta, tn, tc, g4, hL, _⟩ := hin
          simp only at g0' g1' g2 g3 hL
          obtain ⟨y, hy⟩ : ∃ y, nextD (N.take j) (T.take j) s (p, h, k, o, L) = y := ⟨_, rfl⟩
          have w0 := cell_later (unhide HBr) x0
          have w1 := cell_later (unhide HBr) x1
          have wl := Nat.lt_of_lt_of_le xl (unhide HBr).size
          have ll1 := Nat.lt_of_lt_of_le hl1 (unhide HBr).size
          have ll2 := Nat.lt_of_lt_of_le hl2 (unhide HBr).size
          have C1 := hide (fun W => first_is (some ⟨b1, off1, none⟩) (some ⟨b2, off2, none⟩) n c d j W hj (unhide SN) (unhide ST))
          have hjm : j ≤ maxLen := by unfold maxLen; omega
          have C2 := hide (fun W (hb : Below wr.heap.size wr W) => next_is (some ⟨b1, off1, none⟩) (some ⟨b2, off2, none⟩) j c d (N.take j) (T.take j) s p h k o ta tn tc L y W hjm (((unhide HN).later (bel_on (unhide HBr) hb)).take j hj) (RowsAt.take ((unhide HT).later (bel_on (unhide HBr) hb)) j hj) (hL.later hb) (unhide HH) hy)
          rw [hy] at AT
          have HY : Hid (y = 0 → chkB (p, h, k, o, L) = 0) := fun q => next_chk (hy.trans q)
          clear hc1 hc2 hL hs ht hy x0 x1 xl hl1 hl2
          by_cases q : y = 0
          · subst q
            have R : Hid (chkTr N T = chkGo (N.take (j + 1)) (T.take (j + 1)) (N.drop (j + 1)) (T.drop (j + 1))) := by show _ = _; rw [unhide A, unhide AT, if_neg (by simp)]
            have HH2 := hide ((unhide HM) ((unhide HY) rfl))
            clear A AT HM HY
            go_wp2_with fail
            go_region_held3 (fun W' => Below wr.heap.size wr W' ∧ W'.cell? ⟨w.heap.size, 0, none⟩ = some (.slice (some ⟨b1, off1, none⟩) n c) ∧ W'.cell? ⟨w.heap.size, 1, none⟩ = some (.slice (some ⟨b2, off2, none⟩) n d) ∧ W'.cell? ⟨b1, off1 + j, none⟩ = some (.int .i64 s) ∧ W'.cell? ⟨b2, off2 + j * 5, none⟩ = some (.int .i64 p) ∧ W'.cell? ⟨b2, off2 + j * 5 + 1, none⟩ = some (.int .i64 h) ∧ W'.cell? ⟨b2, off2 + j * 5 + 2, none⟩ = some (.int .i64 k) ∧ W'.cell? ⟨b2, off2 + j * 5 + 3, none⟩ = some (.int .i64 o) ∧ W'.cell? ⟨b2, off2 + j * 5 + 4, none⟩ = some (.slice ta tn tc))
              (first
              | exact ⟨bel_draw1 _, w0, w1, f1, g0', g1', g2, g3, g4⟩
              | (go_split_ands
                 refine ⟨bel_on (by assumption) hbc, cell_later hbc (by assumption), cell_later hbc (by assumption), cell_later hbc (by assumption), cell_later hbc (by assumption), cell_later hbc (by assumption), cell_later hbc (by assumption), cell_later hbc (by assumption), cell_later hbc (by assumption)⟩))
              (first | (go_at_call 34; refine ((unhide C1) _).mono ?_; rintro e w' ⟨rfl, hbc⟩) | (go_at_call 27; go_split_ands; refine ((unhide C2) _ (by assumption)).mono ?_; rintro e w' ⟨rfl, hbc⟩))
            rename_i hq
            have HB3 := hide (bel_on (unhide HBr) hq.1)
            clear hq
            go_wp2
            go_roundw
            case rel => exact ⟨j + 1, by omega, by go_num, R, HH2, HB3⟩
            case measure => simp [intOf]; omega
          · have R : Hid (chkTr N T = y) := by show _ = _; rw [unhide A, unhide AT, if_pos q]
            have gy : (y != 0) = true := by simp [q]
            clear A AT HM HY q
            go_wp2_with fail
            go_region_held3 (fun W' => Below wr.heap.size wr W' ∧ W'.cell? ⟨w.heap.size, 0, none⟩ = some (.slice (some ⟨b1, off1, none⟩) n c) ∧ W'.cell? ⟨w.heap.size, 1, none⟩ = some (.slice (some ⟨b2, off2, none⟩) n d) ∧ W'.cell? ⟨b1, off1 + j, none⟩ = some (.int .i64 s) ∧ W'.cell? ⟨b2, off2 + j * 5, none⟩ = some (.int .i64 p) ∧ W'.cell? ⟨b2, off2 + j * 5 + 1, none⟩ = some (.int .i64 h) ∧ W'.cell? ⟨b2, off2 + j * 5 + 2, none⟩ = some (.int .i64 k) ∧ W'.cell? ⟨b2, off2 + j * 5 + 3, none⟩ = some (.int .i64 o) ∧ W'.cell? ⟨b2, off2 + j * 5 + 4, none⟩ = some (.slice ta tn tc))
              (first
              | exact ⟨bel_draw1 _, w0, w1, f1, g0', g1', g2, g3, g4⟩
              | (go_split_ands
                 refine ⟨bel_on (by assumption) hbc, cell_later hbc (by assumption), cell_later hbc (by assumption), cell_later hbc (by assumption), cell_later hbc (by assumption), cell_later hbc (by assumption), cell_later hbc (by assumption), cell_later hbc (by assumption), cell_later hbc (by assumption)⟩))
              (first | (go_at_call 34; refine ((unhide C1) _).mono ?_; rintro e w' ⟨rfl, hbc⟩) | (go_at_call 27; go_split_ands; refine ((unhide C2) _ (by assumption)).mono ?_; rintro e w' ⟨rfl, hbc⟩))
            rename_i hq
            have HB3 := hide (bel_on (unhide HB) (bel_on (unhide HBr) hq.1))
            clear hq
            go_wp2
            go_ret
            exact ⟨by rw [unhide R]; rfl, unhide HB3⟩
        · have R : Hid (chkTr N T = 0) := by show _ = _; rw [unhide A, chkGo_end N T j (by rw [unhide HZN]; omega)]
          have HBF := hide (bel_on (unhide HB) (unhide HBr))
          clear A
          go_wp2
          go_ret
          exact ⟨by rw [unhide R]; rfl, unhide HBF⟩
  · have R : Hid (chkTr N T = 4) := by show _ = _; unfold chkTr; rw [hN.1, hT.1, if_pos e]
    have g0 : ((n : Int) != (m : Int)) = true := by simp; omega
    clear hN hT sN sT hX0 hbX
    go_enter Try.func12, Try.ntmps12
    go_wp2_with fail
    rw [← hX]
    clear hX
    go_wp2
    go_ret
    exact ⟨by rw [unhide R]; rfl, unhide HB⟩

end Go.Proofs.Ytklekpbladmjhaa
