/- The closed fact: two that stand on one. -/
import Derived.Test.YtklekpbladmjhaaTrAdd
import Derived.Test.YtklekpbladmjhaaTrFork
namespace Go.Proofs.Ytklekpbladmjhaa
open Go.RowKit

def simB (p h k n : Int) : BlkD := (p, h, k, 0, [(h, [], [(n, [])])])
theorem gr1 : addE [] [] 2 (simB 0 1 1 5) = ([2], [simB 0 1 1 5], 0) := by kernel_rfl
theorem gr2 : addE [2] [simB 0 1 1 5] 9 (simB 2 2 3 5) = ([2, 9], [simB 0 1 1 5, simB 2 2 3 5], 0) := by kernel_rfl
theorem gr3 : addE [2, 9] [simB 0 1 1 5, simB 2 2 3 5] 4 (simB 2 2 3 6) = ([2, 9, 4], [simB 0 1 1 5, simB 2 2 3 5, simB 2 2 3 6], 0) := by kernel_rfl
theorem gr4 : bstD [2, 9, 4] [simB 0 1 1 5, simB 2 2 3 5, simB 2 2 3 6] = (4, 0) := by kernel_rfl
theorem gr5 : pathE [2, 9, 4] [simB 0 1 1 5, simB 2 2 3 5, simB 2 2 3 6] 9 = ([2, 9], 0) := by kernel_rfl
theorem gr6 : forkE [2, 9, 4] [simB 0 1 1 5, simB 2 2 3 5, simB 2 2 3 6] 9 4 = (2, 0) := by kernel_rfl

set_option maxRecDepth 10000 in
set_option maxHeartbeats 1600000 in
theorem simple_is (p h k n : Int) (w : World) :
    Calls Try.prog 33 #[.int .i64 p, .int .i64 h, .int .i64 k, .int .i64 n] w fun e w' => ∃ a c, e = .returned (.agg #[.int .i64 p, .int .i64 h, .int .i64 k, .int .i64 0, .slice a 1 c]) ∧ TxsAt w' a 1 [(h, [], [(n, [])])] ∧ SlOk a 1 c ∧ Below w.heap.size w w' := by
  obtain ⟨X, hX⟩ : ∃ X, X = (((w.alloc (.cells #[.int .i64 p, .int .i64 h, .int .i64 k, .int .i64 0, .slice (some ⟨w.heap.size + 1 + 1, 0, none⟩) 1 1] 28)).alloc (.cells #[.int .i64 n, .slice none 0 0] 84)).alloc (.cells #[.int .i64 h, .slice none 0 0, .slice (some ⟨w.heap.size + 1, 0, none⟩) 1 1] 71)) := ⟨_, rfl⟩
  have hbX : Below w.heap.size w X := by rw [hX]; exact bel_on (bel_on (bel_new _ _) (bel_new _ _)) (bel_new _ _)
  have hX1 : X.heap[w.heap.size + 1]? = some (.cells [.int .i64 n, .slice none 0 0].toArray 84 (0, 0)) := by
    rw [hX, Below.heap_alloc _ _ _ (by simp)]
    have := two_heap (w.alloc (.cells #[.int .i64 p, .int .i64 h, .int .i64 k, .int .i64 0, .slice (some ⟨w.heap.size + 1 + 1, 0, none⟩) 1 1] 28)) (.int .i64 n) (.slice none 0 0) 84
    rw [show (w.alloc (.cells #[.int .i64 p, .int .i64 h, .int .i64 k, .int .i64 0, .slice (some ⟨w.heap.size + 1 + 1, 0, none⟩) 1 1] 28)).heap.size = w.heap.size + 1 by simp] at this
    exact this
  have hX2 : X.heap[w.heap.size + 1 + 1]? = some (.cells [.int .i64 h, .slice none 0 0, .slice (some ⟨w.heap.size + 1, 0, none⟩) 1 1].toArray 71 (0, 0)) := by
    rw [hX]
    have := three_heap ((w.alloc (.cells #[.int .i64 p, .int .i64 h, .int .i64 k, .int .i64 0, .slice (some ⟨w.heap.size + 1 + 1, 0, none⟩) 1 1] 28)).alloc (.cells #[.int .i64 n, .slice none 0 0] 84)) (.int .i64 h) (.slice none 0 0) (.slice (some ⟨w.heap.size + 1, 0, none⟩) 1 1) 71
    rw [show ((w.alloc (.cells #[.int .i64 p, .int .i64 h, .int .i64 k, .int .i64 0, .slice (some ⟨w.heap.size + 1 + 1, 0, none⟩) 1 1] 28)).alloc (.cells #[.int .i64 n, .slice none 0 0] 84)).heap.size = w.heap.size + 1 + 1 by simp] at this
    exact this
  have sok : ∀ q, SlOk (some ⟨q, 0, none⟩) 1 1 := fun q => ⟨Nat.le_refl _, by unfold maxLen; omega, fun e => by cases e⟩
  have snil : SlOk none 0 0 := ⟨Nat.le_refl _, Nat.zero_le _, fun _ => ⟨rfl, rfl⟩⟩
  have hO : OutsAt X (some ⟨w.heap.size + 1, 0, none⟩) 1 [(n, [])] := ⟨rfl, fun _ => ⟨w.heap.size + 1, 0, rfl, lt_of_block hX1, fun i hi => by
    obtain rfl : i = 0 := by simp at hi; exact hi
    exact ⟨cell_of hX1 0 _ rfl, _, _, _, cell_of hX1 1 _ rfl, ⟨rfl, fun h => absurd h (by omega)⟩, snil⟩⟩⟩
  have hT : TxsAt X (some ⟨w.heap.size + 1 + 1, 0, none⟩) 1 [(h, [], [(n, [])])] := ⟨rfl, fun _ => ⟨w.heap.size + 1 + 1, 0, rfl, lt_of_block hX2, fun i hi => by
    obtain rfl : i = 0 := by simp at hi; exact hi
    exact ⟨cell_of hX2 0 _ rfl, ⟨_, _, _, cell_of hX2 1 _ rfl, RowsAt.nil _ _, snil⟩, _, _, _, cell_of hX2 2 _ rfl, hO, sok _⟩⟩⟩
  have HT := hide hT
  have HB := hide hbX
  have SO := hide sok
  clear hT hbX sok snil hO hX1 hX2
  go_enter Try.func33, Try.ntmps33
  go_wp2
  (try simp only [Exit.inBlock, Exit.then])
  refine bodyPost_ret (v := .agg #[.int .i64 p, .int .i64 h, .int .i64 k, .int .i64 0, .slice (some ⟨w.heap.size + 1 + 1, 0, none⟩) 1 1]) ?_ rfl ⟨_, _, rfl, ?_, (unhide SO) _, ?_⟩
  · rw [results_cell1 rfl]
    go_simp
  · rw [← hX]; exact unhide HT
  · rw [← hX]; exact unhide HB

/-- A tree in a box of the call's own. -/
def GrS (w : World) (t : Nat) (N : List Int) (T : List BlkD) (n : Nat) (W : World) : Prop :=
  ∃ a1 c1 a2 c2, W.heap[t]? = some (.cells [.slice a1 n c1, .slice a2 n c2].toArray 25 (0, 0)) ∧ IntsAt W a1 n N ∧ BlksAt W a2 n T ∧ SlOk a1 n c1 ∧ SlOk a2 n c2 ∧ Below w.heap.size w W ∧ w.heap.size ≤ t
theorem grS_store {w W w2 : World} {t n n' : Nat} {N' : List Int} {T' : List BlkD} {a1 a2 b1 b2 : Option Addr} {c1 c2 d1 d2 : Nat} (hb : Below w.heap.size w W) (ht : w.heap.size ≤ t) (htW : t < W.heap.size)
    (hx : w2.heap[t]? = some (.cells [.slice b1 n d1, .slice b2 n d2].toArray 25 (0, 0))) (hF : Fresh W.heap.size w2 (fun w3 => IntsAt w3 a1 n' N' ∧ BlksAt w3 a2 n' T')) (s1 : SlOk a1 n' c1) (s2 : SlOk a2 n' c2) (hb2 : Below W.heap.size W w2) :
    GrS w t N' T' n' ((w2.setCell ⟨t, 0, none⟩ (.slice a1 n' c1)).setCell ⟨t, 1, none⟩ (.slice a2 n' c2)) := by
  have hg := ((Gr.refl w2 (fun q => q = t)).one t 0 (.inl rfl) (.slice a1 n' c1)).one t 1 (.inl rfl) (.slice a2 n' c2)
  have h1 := hF _ (hg.mono fun q _ e => by omega)
  refine ⟨a1, c1, a2, c2, set_cells (set_cells hx 0 _) 1 _, h1.1, h1.2, s1, s2, hg.below (bel_on hb hb2) (by have := hb.size; have := hb2.size; omega) (fun q e => by omega), ht⟩

set_option maxRecDepth 10000 in
set_option maxHeartbeats 12800000 in
theorem grown_yes (w : World) : Calls Try.prog 11 #[] w fun e w' => e = .returned (.bool true) ∧ Below w.heap.size w w' := by
  have S1 := hide (simple_is 0 1 1 5 w)
  have S2 := hide (fun W => simple_is 2 2 3 5 W)
  have S3 := hide (fun W => simple_is 2 2 3 6 W)
  have snil : SlOk none 0 0 := ⟨Nat.le_refl _, Nat.zero_le _, fun _ => ⟨rfl, rfl⟩⟩
  have A1 := hide (fun W a c (h : TxsAt W a 1 [(1, [], [(5, [])])]) (hs : SlOk a 1 c) => add_is none none 0 0 0 0 [] [] 2 0 1 1 0 a 1 c [(1, [], [(5, [])])] [2] [simB 0 1 1 5] 1 0 W (IntsAt.nil _ _) (RowsAt.nil _ _) snil snil h hs gr1 rfl)
  have A2 := hide (fun W a1 c1 a2 c2 a c (h1 : IntsAt W a1 1 [2]) (h2 : BlksAt W a2 1 [simB 0 1 1 5]) (s1 : SlOk a1 1 c1) (s2 : SlOk a2 1 c2) (h : TxsAt W a 1 [(2, [], [(5, [])])]) (hs : SlOk a 1 c) => add_is a1 a2 1 c1 1 c2 [2] [simB 0 1 1 5] 9 2 2 3 0 a 1 c [(2, [], [(5, [])])] [2, 9] [simB 0 1 1 5, simB 2 2 3 5] 2 0 W h1 h2 s1 s2 h hs gr2 rfl)
  have A3 := hide (fun W a1 c1 a2 c2 a c (h1 : IntsAt W a1 2 [2, 9]) (h2 : BlksAt W a2 2 [simB 0 1 1 5, simB 2 2 3 5]) (s1 : SlOk a1 2 c1) (s2 : SlOk a2 2 c2) (h : TxsAt W a 1 [(2, [], [(6, [])])]) (hs : SlOk a 1 c) => add_is a1 a2 2 c1 2 c2 [2, 9] [simB 0 1 1 5, simB 2 2 3 5] 4 2 2 3 0 a 1 c [(2, [], [(6, [])])] [2, 9, 4] [simB 0 1 1 5, simB 2 2 3 5, simB 2 2 3 6] 3 0 W h1 h2 s1 s2 h hs gr3 rfl)
  have B1 := hide (fun W a1 c1 a2 c2 (h1 : IntsAt W a1 3 [2, 9, 4]) (h2 : BlksAt W a2 3 [simB 0 1 1 5, simB 2 2 3 5, simB 2 2 3 6]) (s1 : SlOk a1 3 c1) (s2 : SlOk a2 3 c2) => best_is a1 a2 3 c1 3 c2 _ _ 4 0 W h1 h2 s1 s2 gr4)
  have B2 := hide (fun W a1 c1 a2 c2 (h1 : IntsAt W a1 3 [2, 9, 4]) (h2 : BlksAt W a2 3 [simB 0 1 1 5, simB 2 2 3 5, simB 2 2 3 6]) (s1 : SlOk a1 3 c1) (s2 : SlOk a2 3 c2) => path_is a1 a2 3 c1 3 c2 _ _ 9 [2, 9] 2 0 W h1 h2 s1 s2 gr5 rfl)
  have B3 := hide (fun W a1 c1 a2 c2 (h1 : IntsAt W a1 3 [2, 9, 4]) (h2 : BlksAt W a2 3 [simB 0 1 1 5, simB 2 2 3 5, simB 2 2 3 6]) (s1 : SlOk a1 3 c1) (s2 : SlOk a2 3 c2) => fork_is a1 a2 3 c1 3 c2 _ _ 9 4 2 0 W h1 h2 s1 s2 gr6)
  clear snil
  go_enter Try.func11, Try.ntmps11
  go_wp2_with fail
  refine (unhide S1).mono ?_
  rintro e w1 ⟨a, c, rfl, hT1, hs1, hb1⟩
  have CA := hide ((unhide A1) w1 a c hT1 hs1)
  have HB1 := hide hb1
  clear hT1 hs1 hb1 S1 A1
  go_wp2_with fail
  refine (unhide CA).mono ?_
  rintro e w2 ⟨a1, c1, a2, c2, rfl, hF2, s1, s2, hb2⟩
  have hbX := bel_new w2 (.cells #[.slice a1 1 c1, .slice a2 1 c2] 25)
  have ST : Hid (GrS w w2.heap.size [2] [simB 0 1 1 5] 1 (w2.alloc (.cells #[.slice a1 1 c1, .slice a2 1 c2] 25))) :=
    ⟨a1, c1, a2, c2, two_heap _ _ _ _, hF2.now.1.later hbX, hF2.now.2.later hbX, s1, s2, bel_on (bel_on (unhide HB1) hb2) hbX, Nat.le_trans (unhide HB1).size hb2.size⟩
  obtain ⟨t, ht⟩ : ∃ t, t = w2.heap.size := ⟨_, rfl⟩
  obtain ⟨X, hX⟩ : ∃ X, X = w2.alloc (.cells #[.slice a1 1 c1, .slice a2 1 c2] 25) := ⟨_, rfl⟩
  rw [← hX, ← ht] at ST
  clear CA hF2 s1 s2 hb2 hbX HB1
  go_upto_region 2 with fail
  rw [← hX, ← ht]
  clear hX ht
  go_cut [3] from 17 to 22 (fun s3 wx => s3 = .int .i64 0 ∧ Hid (GrS w t [2, 9] [simB 0 1 1 5, simB 2 2 3 5] 2 wx))
  case first =>
    obtain ⟨a1, c1, a2, c2, hx, hi, hbk, s1, s2, hbw, htw⟩ := unhide ST
    have x0 := cell_of hx 0 _ rfl
    have x1 := cell_of hx 1 _ rfl
    have xl := lt_of_block hx
    have HX := hide hx
    have HI := hide hi
    have HK := hide hbk
    have HS1 := hide s1
    have HS2 := hide s2
    have HBW := hide hbw
    clear hx hi hbk s1 s2 hbw ST
    go_region_with (first
      | (go_at_call 33
         refine ((unhide S2) _).mono ?_
         rintro e w4 ⟨a4, c4, rfl, hT4, hs4, hb4⟩
         have hb4' := bel_on (bel_draw1 _) hb4
         have h4 := (hb4'.block _ (lt_of_block (unhide HX))).trans (unhide HX)
         have y0 := cell_of h4 0 _ rfl
         have y1 := cell_of h4 1 _ rfl
         have yl := lt_of_block h4
         have CA := hide ((unhide A2) w4 _ _ _ _ a4 c4 ((unhide HI).later hb4') ((unhide HK).later hb4') (unhide HS1) (unhide HS2) hT4 hs4)
         have HB4 := hide (bel_on (unhide HBW) hb4')
         have H4 := hide h4
         clear hT4 hs4 hb4 hb4' h4)
      | (go_at_call 8
         refine (unhide CA).mono ?_
         rintro e w5 ⟨b1, d1, b2, d2, rfl, hF5, t1, t2, hb5⟩
         have h5 := (hb5.block _ (lt_of_block (unhide H4))).trans (unhide H4)
         have z0 := cell_of h5 0 _ rfl
         have z1 := cell_of h5 1 _ rfl
         have zf0 := frozen_of h5 0
         have zf1 := frozen_of h5 1
         have zl := lt_of_block h5
         have HN := hide (grS_store (unhide HB4) htw yl h5 hF5 t1 t2 hb5)
         clear hF5 t1 t2 hb5 h5))
    all_goals
      go_wp2_with fail
      go_meet
      case rel => exact ⟨rfl, HN⟩
  case rest =>
    obtain ⟨rfl, HS⟩ := hcut
    clear ST S2 A2
    go_upto_region 3 with fail
    go_cut [4] from 23 to 28 (fun s4 wx => s4 = .int .i64 0 ∧ Hid (GrS w t [2, 9, 4] [simB 0 1 1 5, simB 2 2 3 5, simB 2 2 3 6] 3 wx))
    case first =>
      obtain ⟨a1, c1, a2, c2, hx, hi, hbk, s1, s2, hbw, htw⟩ := unhide HS
      have x0 := cell_of hx 0 _ rfl
      have x1 := cell_of hx 1 _ rfl
      have xl := lt_of_block hx
      have HX := hide hx
      have HI := hide hi
      have HK := hide hbk
      have HS1 := hide s1
      have HS2 := hide s2
      have HBW := hide hbw
      clear hx hi hbk s1 s2 hbw HS
      go_region_with (first
        | (go_at_call 33
           refine ((unhide S3) _).mono ?_
           rintro e w4 ⟨a4, c4, rfl, hT4, hs4, hb4⟩
           have hb4' := bel_on (bel_draw1 _) hb4
           have h4 := (hb4'.block _ (lt_of_block (unhide HX))).trans (unhide HX)
           have y0 := cell_of h4 0 _ rfl
           have y1 := cell_of h4 1 _ rfl
           have yl := lt_of_block h4
           have CA := hide ((unhide A3) w4 _ _ _ _ a4 c4 ((unhide HI).later hb4') ((unhide HK).later hb4') (unhide HS1) (unhide HS2) hT4 hs4)
           have HB4 := hide (bel_on (unhide HBW) hb4')
           have H4 := hide h4
           clear hT4 hs4 hb4 hb4' h4)
        | (go_at_call 8
           refine (unhide CA).mono ?_
           rintro e w5 ⟨b1, d1, b2, d2, rfl, hF5, t1, t2, hb5⟩
           have h5 := (hb5.block _ (lt_of_block (unhide H4))).trans (unhide H4)
           have z0 := cell_of h5 0 _ rfl
           have z1 := cell_of h5 1 _ rfl
           have zf0 := frozen_of h5 0
           have zf1 := frozen_of h5 1
           have zl := lt_of_block h5
           have HN := hide (grS_store (unhide HB4) htw yl h5 hF5 t1 t2 hb5)
           clear hF5 t1 t2 hb5 h5))
      all_goals
        go_wp2_with fail
        go_meet
        case rel => exact ⟨rfl, HN⟩
    case rest =>
      obtain ⟨rfl, HG⟩ := hcut
      obtain ⟨a1, c1, a2, c2, hx, hi, hbk, s1, s2, hbw, htw⟩ := unhide HG
      have x0 := cell_of hx 0 _ rfl
      have x1 := cell_of hx 1 _ rfl
      have xl := lt_of_block hx
      have CB := hide ((unhide B1) _ _ _ _ _ hi hbk s1 s2)
      have HX := hide hx
      have HI := hide hi
      have HK := hide hbk
      have HS1 := hide s1
      have HS2 := hide s2
      have HBW := hide hbw
      clear hx hi hbk s1 s2 hbw HG S3 A3 B1 HS
      go_wp2_with fail
      refine (unhide CB).mono ?_
      rintro e w6 ⟨rfl, hb6⟩
      have h6 := (hb6.block _ (lt_of_block (unhide HX))).trans (unhide HX)
      have CP := hide ((unhide B2) _ _ _ _ _ ((unhide HI).later hb6) ((unhide HK).later hb6) (unhide HS1) (unhide HS2))
      have y0 := cell_of h6 0 _ rfl
      have y1 := cell_of h6 1 _ rfl
      have yl := lt_of_block h6
      have HB6 := hide hb6
      clear hb6 h6 x0 x1 xl CB B2
      go_wp2_with fail
      refine (unhide CP).mono ?_
      rintro e w7 ⟨v, rfl, ho7, hb7⟩
      obtain ⟨pa, pc, rfl, sp, hpa⟩ := ints_of_own ho7
      have hb67 := bel_on (unhide HB6) hb7
      have h7 := (hb67.block _ (lt_of_block (unhide HX))).trans (unhide HX)
      have CF := hide ((unhide B3) _ _ _ _ _ ((unhide HI).later hb67) ((unhide HK).later hb67) (unhide HS1) (unhide HS2))
      have z0 := cell_of h7 0 _ rfl
      have z1 := cell_of h7 1 _ rfl
      have zl := lt_of_block h7
      have HB7 := hide (bel_on (unhide HBW) hb67)
      have HPA := hide hpa
      clear hb67 h7 y0 y1 yl CP B3 hb7 HB6 ho7 sp hpa
      go_wp2_with fail
      refine (unhide CF).mono ?_
      rintro e w8 ⟨rfl, hb8⟩
      obtain ⟨X8, hX8⟩ : ∃ X8, X8 = w8.alloc (.cells #[.int .i64 2, .int .i64 9] 3) := ⟨_, rfl⟩
      have hb8' : Below w7.heap.size w7 X8 := by rw [hX8]; exact bel_on hb8 (bel_new _ _)
      have hx8 : X8.heap[w8.heap.size]? = some (.cells [.int .i64 2, .int .i64 9].toArray 3 (0, 0)) := by rw [hX8]; exact two_heap _ _ _ _
      have h29 : IntsAt X8 (some ⟨w8.heap.size, 0, none⟩) 2 [2, 9] := ⟨rfl, fun _ => ⟨w8.heap.size, 0, rfl, lt_of_block hx8, fun i hi => by
        match i, hi with
        | 0, _ => exact cell_of hx8 0 _ rfl
        | 1, _ => exact cell_of hx8 1 _ rfl⟩⟩
      have CE := hide (eqInt_is pa (some ⟨w8.heap.size, 0, none⟩) 2 2 pc 2 [2, 9] [2, 9] true X8 (by unfold maxLen; omega) ((unhide HPA).later hb8') h29 (by decide))
      have HB8 := hide (bel_on (unhide HB7) hb8')
      clear hb8 hb8' hx8 h29 z0 z1 zl CF
      go_wp2_with fail
      rw [← hX8]
      clear hX8
      refine (unhide CE).mono ?_
      rintro e w9 ⟨rfl, hb9⟩
      have HB9 := hide (bel_on (unhide HB8) hb9)
      clear hb9
      go_wp2
      go_ret
      exact ⟨rfl, unhide HB9⟩

end Go.Proofs.Ytklekpbladmjhaa
