/- The contract of open. -/
import Derived.Test.YtepmnpapdknocaaGreatDoorBookAddW
namespace Go.Proofs.YtepmnpapdknocaaGreatDoor.Bk
open Go.RowKit Go.Maps

theorem make_sized (n : Int) (w : World) : (Instr.makeMap 122 (some (.int .i64 n))).run Tryz.prog w = .ok (.map (some w.heap.size)) (w.alloc (.map #[] 0)) := by kernel_rfl

/-- The writer of no texts. -/
theorem wr_new (w : World) (base : Nat) (hb : base ≤ w.heap.size) : Wr base (w.heap.size + 1) w.heap.size ((w.alloc (.map #[] 0)).alloc (.cells #[.slice none 0 0, .map (some w.heap.size)] 124)) (.slice none 0 0) (.map []) [] := by
  have e : (w.alloc (.map #[] 0)).heap.size = w.heap.size + 1 := by simp
  refine ⟨?_, by omega, hb, ⟨rfl, Or.inl ⟨rfl, rfl⟩⟩, ?_, ⟨[], rfl⟩, fun s => rfl⟩
  · have := heap_alloc_new (w.alloc (.map #[] 0)) (.cells #[.slice none 0 0, .map (some w.heap.size)] 124)
    rw [e] at this
    exact this
  · exact (World.ownsMap_made w Tryz.prog 9 (plainElem (H := Unit) Tryz.prog 3)).alloc _

set_option maxRecDepth 10000 in
set_option maxHeartbeats 3200000 in
theorem open_some (b off n c : Nat) (L : List ByteArray) (w : World) (hz : L.length = n) (h0 : 0 < n) (h1 : n ≤ 120) (hb : b < w.heap.size) (hc : ∀ i (h : i < L.length), w.cell? ⟨b, off + i, none⟩ = some (.string L[i])) (x : Int) (hx : bkGo [] L = x) :
    Calls Tryz.prog 64 #[.agg #[.slice (some ⟨b, off, none⟩) n c]] w fun e w' => ∃ v, e = .returned (.tuple #[v, .int .i64 x]) ∧ (x = 0 → ∃ p bm v' D', v = .pointer (some ⟨p, 0, none⟩) ∧ Wr w.heap.size p bm w' v' D' L) ∧ Below w.heap.size w w' := by
  have hb1 := bel_new w (.cells #[.slice (some ⟨b, off, none⟩) n c] 24)
  have hs1 : (w.alloc (.cells #[.slice (some ⟨b, off, none⟩) n c] 24)).heap.size = w.heap.size + 1 := by simp
  have W0 := wr_new (w.alloc (.cells #[.slice (some ⟨b, off, none⟩) n c] 24)) w.heap.size (by omega)
  rw [hs1] at W0
  obtain ⟨X, hX⟩ : ∃ X, X = ((w.alloc (.cells #[.slice (some ⟨b, off, none⟩) n c] 24)).alloc (.map #[] 0)).alloc (.cells #[.slice none 0 0, .map (some (w.heap.size + 1))] 124) := ⟨_, rfl⟩
  have hbX : Below w.heap.size w X := by
    rw [hX]
    exact bel_on (bel_on hb1 (bel_new _ _)) (bel_new _ _)
  have cX : X.cell? ⟨w.heap.size, 0, none⟩ = some (.slice (some ⟨b, off, none⟩) n c) := by
    rw [hX]
    exact cell_later (bel_on (bel_new _ _) (bel_new _ _)) (one_new w (.slice (some ⟨b, off, none⟩) n c) 24)
  rw [← hX] at W0
  have HW0 := hide W0
  have HBX := hide hbX
  have HC := hide hc
  have HZ := hide hz
  have HX := hide hx
  have hmm := make_sized
  have g : ¬ (120 : Int) < (n : Int) := by omega
  clear W0 hbX hc hz hx hb1 hs1
  go_enter Tryz.func64, Tryz.ntmps64
  go_wp2
  rw [← hX]
  clear hX
  go_loopw [20] (fun i wr => ∃ j : Nat, j ≤ n ∧ i = .int .i64 j ∧ Below w.heap.size w wr ∧ (∃ v D, Hid (Wr w.heap.size (w.heap.size + 2) (w.heap.size + 1) wr v D (L.take j))) ∧ Hid (bkGo (L.take j) (L.drop j) = x)) (fun i _ => n - (intOf i).toNat)
  case atStart => exact ⟨0, Nat.zero_le _, rfl, unhide HBX, ⟨_, _, HW0⟩, unhide HX⟩
  case round =>
    obtain ⟨j, hk, rfl, hbw, ⟨v, D, HW⟩, A⟩ := hrel
    have HB := hide hbw
    by_cases hlt : j < n
    · have hlj : j < L.length := by rw [unhide HZ]; exact hlt
      have f := (World.cell?_of_block (hbw.block b hb)).trans ((unhide HC) j hlj)
      have hlb : b < wr.heap.size := Nat.lt_of_lt_of_le hb hbw.size
      obtain ⟨c0, c1, cf⟩ := (unhide HW).cell0
      have S := bk_at hlj
      rw [unhide A] at S
      have hl1 : (L.take j).length = j := by rw [List.length_take]; omega
      have TK := hide (List.take_succ_eq_append_getElem hlj)
      obtain ⟨s, hs⟩ : ∃ s, L[j] = s := ⟨_, rfl⟩
      rw [hs] at f S TK
      clear hs hbw A
      by_cases h2 : 4000 < s.size
      · rw [if_pos h2] at S
        subst S
        have g2 : (4000 : Int) < (s.size : Int) := by omega
        clear h2
        go_wp2
        go_ret2
        first | exact ⟨_, rfl, fun h => absurd h (by decide), unhide HB⟩ | exact ⟨⟨_, rfl⟩, unhide HB⟩
      · rw [if_neg h2] at S
        have g2 : ¬ (4000 : Int) < (s.size : Int) := by omega
        have hz : s.size ≤ 4000 := by omega
        have hrun := (unhide HW).look s hz
        by_cases h3 : place s (L.take j) ≠ 0
        · rw [if_pos h3] at S
          subst S
          obtain ⟨q, hq⟩ : ∃ q, place s (L.take j) = q := ⟨_, rfl⟩
          rw [hq] at hrun h3
          have g3 : ((q : Int) != 0) = true := by simp; omega
          clear h2 h3 hq
          go_wp2
          go_ret2
          first | exact ⟨_, rfl, fun h => absurd h (by decide), unhide HB⟩ | exact ⟨⟨_, rfl⟩, unhide HB⟩
        · rw [if_neg h3] at S
          have h4 : place s (L.take j) = 0 := by omega
          rw [h4] at hrun
          have AD := hide (add_is w.heap.size (w.heap.size + 2) (w.heap.size + 1) v D (L.take j) s wr (unhide HW) (by omega) (place_zero.1 h4) hz)
          have HS : Hid (bkGo (L.take (j + 1)) (L.drop (j + 1)) = x) := S.symm
          clear h2 h3 h4 S
          go_wp2_with fail
          refine (unhide AD).mono ?_
          rintro e w2 ⟨rfl, hw2, hb2, hf2⟩
          have H2 := hide hw2
          have HB2 := hide ((unhide HB).trans hb2)
          clear hw2 hb2 hf2
          go_wp2
          go_roundw
          case rel =>
            obtain ⟨v', D', hw'⟩ := unhide H2
            exact ⟨j + 1, by omega, by go_num, unhide HB2, ⟨v', D', by rw [unhide TK]; exact hw'⟩, HS⟩
          case measure => simp [intOf]; omega
    · have R : Hid (x = 0) := by show _ = _; rw [← unhide A]; exact bk_end (by rw [unhide HZ]; omega)
      have HW2 : Hid (∃ v' D', Wr w.heap.size (w.heap.size + 2) (w.heap.size + 1) wr v' D' L) := ⟨v, D, by have := unhide HW; rw [List.take_of_length_le (by rw [unhide HZ]; omega)] at this; exact this⟩
      clear A hbw HW
      go_wp2
      go_ret2
      refine ⟨.pointer (some ⟨w.heap.size + 2, 0, none⟩), ?_, fun _ => ?_, unhide HB⟩
      · rw [unhide R]; rfl
      · obtain ⟨v', D', hw'⟩ := unhide HW2
        exact ⟨_, _, v', D', rfl, hw'⟩

set_option maxRecDepth 10000 in
set_option maxHeartbeats 1600000 in
theorem open_is (a : Option Addr) (n c : Nat) (L : List ByteArray) (w : World) (h : TextsAt w a n L) (x : Int) (hx : bkChk L = x) :
    Calls Tryz.prog 64 #[.agg #[.slice a n c]] w fun e w' => ∃ v, e = .returned (.tuple #[v, .int .i64 x]) ∧ (x = 0 → ∃ p bm v' D', v = .pointer (some ⟨p, 0, none⟩) ∧ Wr w.heap.size p bm w' v' D' L) ∧ Below w.heap.size w w' := by
  have hz := h.1
  by_cases h1 : 120 < n
  · have e : x = 2 := by rw [← hx]; unfold bkChk; rw [if_pos (by omega)]
    subst e
    have g : (120 : Int) < (n : Int) := by omega
    have HB := hide (bel_new w (.cells #[.slice a n c] 24))
    clear h hx h1 hz
    go_enter Tryz.func64, Tryz.ntmps64
    go_wp2
    go_ret2
    first | exact ⟨_, rfl, fun h => absurd h (by decide), unhide HB⟩ | exact ⟨⟨_, rfl⟩, unhide HB⟩
  · have hx2 : bkGo [] L = x := by rw [← hx]; unfold bkChk; rw [if_neg (by omega)]
    by_cases h0 : n = 0
    · subst h0
      have e : L = [] := List.length_eq_zero_iff.1 hz
      subst e
      have e : x = 0 := by rw [← hx2]; rfl
      subst e
      have hs1 : (w.alloc (.cells #[.slice a 0 c] 24)).heap.size = w.heap.size + 1 := by simp
      have W0 := wr_new (w.alloc (.cells #[.slice a 0 c] 24)) w.heap.size (by omega)
      rw [hs1] at W0
      have HW0 := hide W0
      have HB := hide (bel_on (bel_on (bel_new w (.cells #[.slice a 0 c] 24)) (bel_new _ (.map #[] 0))) (bel_new _ (.cells #[.slice none 0 0, .map (some (w.heap.size + 1))] 124)))
      have hmm := make_sized
      clear h hx h1 hz hx2 hs1 W0
      go_enter Tryz.func64, Tryz.ntmps64
      go_wp2
      refine wp_loop_rounds 1 ?_
      rw [rounds_succ]
      go_wp2
      go_ret2
      refine ⟨_, rfl, fun _ => ⟨_, _, _, _, rfl, unhide HW0⟩, unhide HB⟩
    · obtain ⟨b, off, rfl, hc⟩ := h.2 (by omega)
      exact open_some b off n c L w hz (by omega) (by omega) (World.block_lt_of_cell? _ _ (hc 0 (by omega))) hc x hx2

end Go.Proofs.YtepmnpapdknocaaGreatDoor.Bk
