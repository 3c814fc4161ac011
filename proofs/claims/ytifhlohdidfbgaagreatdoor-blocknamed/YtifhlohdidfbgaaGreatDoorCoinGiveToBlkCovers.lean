/- The contract of give: a coin of each out is put. -/
import Derived.Test.YtifhlohdidfbgaaGreatDoorLockRunCToBlkCheck
import Derived.Test.YtifhlohdidfbgaaGreatDoorTxCheckD
import Derived.Deep.CutRange
import Derived.Test.YtifhlohdidfbgaaGreatDoorLockFill
import Derived.Test.YtifhlohdidfbgaaGreatDoorCoinClone
import Derived.Test.YtifhlohdidfbgaaGreatDoorBookAllToBlkReward
import Derived.Test.YtifhlohdidfbgaaGreatDoorBlkPrintToBookOpen
namespace Go.Proofs.YtifhlohdidfbgaaGreatDoor
open Go.RowKit

theorem Gr.trans2 {w w1 w2 : World} {S T : Nat → Prop} (h : Gr w w1 S) (k : Gr w1 w2 T) (hT : ∀ k, k < w.heap.size → T k → S k) : Gr w w2 S :=
  ⟨k.os.trans h.os, k.tape.trans h.tape, k.output.trans h.output, Nat.le_trans h.size k.size, fun i hi hn => (k.block i (Nat.lt_of_lt_of_le hi h.size) (fun q => hn (hT i hi q))).trans (h.block i hi hn)⟩

set_option maxRecDepth 10000 in
set_option maxHeartbeats 800000 in
theorem isReward_is (h : Int) (ai ao : Option Addr) (ni ci no co : Nat) (r : Bool) (w : World) (hr : decide (ni = 0) = r) :
    Calls Tryz.prog 154 #[.agg #[.int .i64 h, .slice ai ni ci, .slice ao no co]] w fun e w' => e = .returned (.bool r) ∧ Below w.heap.size w w' := by
  have HB := hide (bel_new w (.cells #[.int .i64 h, .slice ai ni ci, .slice ao no co] 78))
  by_cases h0 : ni = 0
  · have e : r = true := by rw [← hr]; exact decide_eq_true h0
    subst e
    subst h0
    clear hr
    go_enter Tryz.func154, Tryz.ntmps154
    go_wp2
    go_ret
    exact ⟨rfl, unhide HB⟩
  · have e : r = false := by rw [← hr]; exact decide_eq_false h0
    subst e
    have g : ((ni : Int) == 0) = false := by simp [h0]
    clear hr
    go_enter Tryz.func154, Tryz.ntmps154
    go_wp2
    go_ret
    exact ⟨rfl, unhide HB⟩

theorem giveGo_at {name h : Int} {r : Bool} {O : List OutD} {k : Nat} (hk : k < O.length) (L : List CoinD) (hf : hasP (name, (k : Int)) L = false) : giveGo name h r k (O.drop k) L = giveGo name h r (k + 1) (O.drop (k + 1)) (putC (newC name k O[k] h r) L) := by
  rw [List.drop_eq_getElem_cons hk, giveGo, if_neg (by rw [hf]; decide)]
theorem giveGo_no {name h : Int} {r : Bool} {O : List OutD} {k : Nat} (hk : k < O.length) (L : List CoinD) (hf : hasP (name, (k : Int)) L = true) : giveGo name h r k (O.drop k) L = (6, []) := by
  rw [List.drop_eq_getElem_cons hk, giveGo, if_pos hf]
theorem giveGo_end {name h : Int} {r : Bool} {O : List OutD} {k : Nat} (hk : O.length ≤ k) (L : List CoinD) : giveGo name h r k (O.drop k) L = (0, L) := by
  rw [List.drop_of_length_le hk, giveGo]

/-- What give leaves. -/
def Given (w0 w w' : World) (p : Nat) (v : Value) (n : Nat) (M : List CoinD) : Prop :=
  ∃ (v' : Value) (K' : List CV), K'.map (·.1) = M ∧ Srt M ∧ K'.length ≤ n ∧ Pu w0 w' p v' K' ∧ Gr w w' (PuS p v)

theorem set6_heap {w : World} {b : Nat} {t : TypeId} (h : w.heap[b]? = some (.cells zeroCs.toArray t (0, 0))) (a0 a1 a2 a3 a4 a5 : Value) : ((((((w.setCell ⟨b, 0, none⟩ a0).setCell ⟨b, 1, none⟩ a1).setCell ⟨b, 2, none⟩ a2).setCell ⟨b, 3, none⟩ a3).setCell ⟨b, 4, none⟩ a4).setCell ⟨b, 5, none⟩ a5).heap[b]? = some (.cells [a0, a1, a2, a3, a4, a5].toArray t (0, 0)) := by
  have one : ∀ {w : World} {X : Array Value} (i : Nat) (a : Value), w.heap[b]? = some (.cells X t (0, 0)) → (w.setCell ⟨b, i, none⟩ a).heap[b]? = some (.cells (X.setIfInBounds i a) t (0, 0)) := fun {w X} i a hw => by
    rw [setCell_eq_setRow w b i X t (0, 0) a hw]; exact setRow_heap w b _ _ t _ hw
  exact one 5 a5 (one 4 a4 (one 3 a3 (one 2 a2 (one 1 a1 (one 0 a0 h)))))

/-- A coin has been laid, whichever block it is. -/
def CutOk (wr : World) (name h y1 : Int) (k : Nat) (la : Option Addr) (ln lc : Nat) (r : Bool) (s11 s15 : Value) (wx : World) : Prop :=
  ∃ m : Nat, s11 = .pointer (some ⟨m, 0, none⟩) ∧ s15 = .int .i64 k ∧ Hid (Below wr.heap.size wr wx) ∧ m < wx.heap.size ∧ wx.cell? ⟨m, 0, none⟩ = some (.int .i64 name) ∧ wx.cell? ⟨m, 1, none⟩ = some (.int .i64 k) ∧ wx.cell? ⟨m, 2, none⟩ = some (.int .i64 y1) ∧ wx.cell? ⟨m, 3, none⟩ = some (.slice la ln lc) ∧ wx.cell? ⟨m, 4, none⟩ = some (.int .i64 h) ∧ wx.cell? ⟨m, 5, none⟩ = some (.bool r)
theorem cut_a {wr w3 : World} {name h y1 : Int} {k : Nat} {la : Option Addr} {ln lc : Nat} {r : Bool} (hb : Below wr.heap.size wr w3) :
    CutOk wr name h y1 k la ln lc r (.pointer (some ⟨w3.heap.size, 0, none⟩)) (.int .i64 k) (w3.alloc (.cells #[.int .i64 name, .int .i64 k, .int .i64 y1, .slice la ln lc, .int .i64 h, .bool r] 89)) := by
  obtain ⟨c0, c1, c2, c3, c4, c5⟩ := six_new w3 (.int .i64 name) (.int .i64 k) (.int .i64 y1) (.slice la ln lc) (.int .i64 h) (.bool r) 89
  exact ⟨w3.heap.size, rfl, rfl, bel_on hb (bel_new _ _), by simp, c0, c1, c2, c3, c4, c5⟩
theorem below_six {B : Nat} {a w : World} (h : Below B a w) (b : Nat) (hb : B ≤ b) (a0 a1 a2 a3 a4 a5 : Value) : Below B a ((((((w.setCell ⟨b, 0, none⟩ a0).setCell ⟨b, 1, none⟩ a1).setCell ⟨b, 2, none⟩ a2).setCell ⟨b, 3, none⟩ a3).setCell ⟨b, 4, none⟩ a4).setCell ⟨b, 5, none⟩ a5) :=
  (((((h.setCell (p := ⟨b, 0, none⟩) hb a0).setCell (p := ⟨b, 1, none⟩) hb a1).setCell (p := ⟨b, 2, none⟩) hb a2).setCell (p := ⟨b, 3, none⟩) hb a3).setCell (p := ⟨b, 4, none⟩) hb a4).setCell (p := ⟨b, 5, none⟩) hb a5
theorem cut_b {wr w3 : World} {name h y1 : Int} {k : Nat} {la : Option Addr} {ln lc : Nat} {r : Bool} {b : Nat} (hb : Below wr.heap.size wr w3) (hz : w3.heap[b]? = some (.cells zeroCs.toArray 89 (0, 0))) (hl : wr.heap.size ≤ b) :
    CutOk wr name h y1 k la ln lc r (.pointer (some ⟨b, 0, none⟩)) (.int .i64 k) ((((((w3.setCell ⟨b, 0, none⟩ (.int .i64 name)).setCell ⟨b, 1, none⟩ (.int .i64 k)).setCell ⟨b, 2, none⟩ (.int .i64 y1)).setCell ⟨b, 3, none⟩ (.slice la ln lc)).setCell ⟨b, 4, none⟩ (.int .i64 h)).setCell ⟨b, 5, none⟩ (.bool r)) := by
  have hq := set6_heap hz (.int .i64 name) (.int .i64 k) (.int .i64 y1) (.slice la ln lc) (.int .i64 h) (.bool r)
  exact ⟨b, rfl, rfl, below_six hb b hl _ _ _ _ _ _, lt_of_block hq, cell_of hq 0 _ rfl, cell_of hq 1 _ rfl, cell_of hq 2 _ rfl, cell_of hq 3 _ rfl, cell_of hq 4 _ rfl, cell_of hq 5 _ rfl⟩

set_option maxRecDepth 10000 in
set_option maxHeartbeats 12800000 in
theorem give_is (w0 w : World) (p : Nat) (v : Value) (K : List CV) (ht : Int) (ai ao : Option Addr) (ni ci no co : Nat) (O : List OutD) (name h : Int) (r : Bool) (x : Int) (M : List CoinD) (hP : Pu w0 w p v K) (hs : Srt (K.map (·.1))) (hn : K.length + no ≤ 4096) (hO : OutsAt w0 ao no O) (hno : no ≤ 6) (hr : decide (ni = 0) = r) (hx : giveGo name h r 0 O (K.map (·.1)) = (x, M)) :
    Calls Tryz.prog 115 #[.pointer (some ⟨p, 0, none⟩), .agg #[.int .i64 ht, .slice ai ni ci, .slice ao no co], .int .i64 name, .int .i64 h] w fun e w' => e = .returned (.int .i64 x) ∧ Below w0.heap.size w0 w' ∧ (x = 0 → Given w0 w w' p v (K.length + no) M) := by
  have hB : w0.heap.size ≤ w.heap.size := hP.bel.size
  have hpw : p < w.heap.size := hP.lt
  obtain ⟨X0, hX0⟩ : ∃ X0, X0 = w.alloc (.cells #[.int .i64 ht, .slice ai ni ci, .slice ao no co] 78) := ⟨_, rfl⟩
  have hb0 : Below w.heap.size w X0 := by rw [hX0]; exact bel_new _ _
  have hX1 : X0.heap[w.heap.size]? = some (.cells [.int .i64 ht, .slice ai ni ci, .slice ao no co].toArray 78 (0, 0)) := by rw [hX0]; exact three_heap _ _ _ _ _
  have x2 := cell_of hX1 2 _ rfl
  have ST : Hid (Pu w0 X0 p v K) := hP.kept hb0
  have IR := hide (fun w => isReward_is ht ai ao ni ci no co r w hr)
  have HOwn := hide (fun k hk => (hP.own.lt k hk).2)
  have HS := hide hs
  have HO := hide hO
  have HZ := hide hO.1
  have HX := hide hx
  have HX1 := hide hX1
  have HB0 := hide hb0
  clear hP hs hO hr hx hX1 hb0
  go_enter Tryz.func115, Tryz.ntmps115
  go_wp2
  rw [← hX0]
  clear hX0
  go_loopw [15] (fun i wr => ∃ (k : Nat) (K' : List CV) (v' : Value), k ≤ no ∧ i = .int .i64 k ∧ Hid (giveGo name h r 0 O (K.map (·.1)) = giveGo name h r k (O.drop k) (K'.map (·.1))) ∧ Hid (Srt (K'.map (·.1))) ∧ K'.length ≤ K.length + k ∧ Hid (Pu w0 wr p v' K') ∧ Hid (Gr w wr (PuS p v)) ∧ Hid (v'.ownBlock = v.ownBlock ∨ ∀ k, v'.ownBlock = some k → w.heap.size ≤ k) ∧
    Hid (wr.heap[w.heap.size]? = some (.cells [.int .i64 ht, .slice ai ni ci, .slice ao no co].toArray 78 (0, 0))) ∧ Hid (v'.ownBlock ≠ some w.heap.size)) (fun i _ => no - (intOf i).toNat)
  case atStart => exact ⟨0, K, v, Nat.zero_le _, rfl, rfl, HS, Nat.le_refl _, ST, Gr.of (unhide HB0), Or.inl rfl, HX1, (fun e => by have := (unhide HOwn) _ e; omega : v.ownBlock ≠ some w.heap.size)⟩
  case round =>
    obtain ⟨k, K', v', hk, rfl, A, HS', hKl, HP', HG, HV, HT, HNE⟩ := hrel
    clear ST HS x2
    have t0 := cell_of (unhide HT) 0 _ rfl
    have t1 := cell_of (unhide HT) 1 _ rfl
    have t2 := cell_of (unhide HT) 2 _ rfl
    have htl : w.heap.size < wr.heap.size := lt_of_block (unhide HT)
    by_cases hlt : k < no
    · have hlk : k < O.length := by rw [unhide HZ]; exact hlt
      obtain ⟨b, off, rfl, hbl, hcell⟩ := (unhide HO).2 (by omega)
      have hin0 := hcell k hlk
      have E1 := hide (giveGo_no (name := name) (h := h) (r := r) hlk (K'.map (·.1)))
      have E2 := hide (giveGo_at (name := name) (h := h) (r := r) hlk (K'.map (·.1)))
      obtain ⟨y, hy⟩ : ∃ y, O[k] = y := ⟨_, rfl⟩
      rw [hy] at hin0 E2
      obtain ⟨y1, lk⟩ := y
      obtain ⟨g1', la, ln, lc, g2', g4, g5⟩ := hin0
      have g1 := cell_later (unhide HP').bel g1'
      have g2 := cell_later (unhide HP').bel g2'
      simp only at g1 g2 g4
      have PUT : Hid (∀ W, Below wr.heap.size wr W → (hasP (name, (k : Int)) (K'.map (·.1)) = true → Calls Tryz.prog 157 #[.pointer (some ⟨p, 0, none⟩), .agg #[.int .i64 name, .int .i64 k, .int .i64 y1, .slice la ln lc, .int .i64 h, .bool r]] W fun e w' => e = .returned (.bool false) ∧ Below W.heap.size W w') ∧
          (hasP (name, (k : Int)) (K'.map (·.1)) = false → Calls Tryz.prog 157 #[.pointer (some ⟨p, 0, none⟩), .agg #[.int .i64 name, .int .i64 k, .int .i64 y1, .slice la ln lc, .int .i64 h, .bool r]] W fun e w' => ∃ (v'' : Value) (K'' : List CV), e = .returned (.bool true) ∧ K''.map (·.1) = putC (newC name k (y1, lk) h r) (K'.map (·.1)) ∧ K''.length = K'.length + 1 ∧ Pu w0 w' p v'' K'' ∧ Gr W w' (PuS p v') ∧ (v''.ownBlock = v'.ownBlock ∨ ∀ k, v''.ownBlock = some k → W.heap.size ≤ k))) := by
        intro W hW
        have hPW := (unhide HP').kept hW
        constructor
        · intro hf
          exact pput_no w0 W p v' K' ((name, (k : Int), y1, lk, h, r), la, ln, lc) hPW (unhide HS') (by omega) hf
        · intro hf
          refine (pput_yes w0 W p v' K' ((name, (k : Int), y1, lk, h, r), la, ln, lc) hPW (unhide HS') (by omega) hf ⟨g4, g5⟩).mono ?_
          rintro e w' ⟨v'', K'', h1, h2, _, h3, h4, h5, h6⟩
          exact ⟨v'', K'', h1, h2, h3, h4, h5, h6⟩
      obtain ⟨X, hX⟩ : ∃ X, X = wr.alloc (.cells #[.int .i64 y1, .slice la ln lc] 85) := ⟨_, rfl⟩
      have hbX : Below wr.heap.size wr X := by rw [hX]; exact bel_new _ _
      obtain ⟨o0, o1⟩ := two_cells wr (.int .i64 y1) (.slice la ln lc) 85
      rw [← hX] at o0 o1
      have s0 := cell_later hbX t0
      have s1 := cell_later hbX t1
      have s2 := cell_later hbX t2
      have hXl : wr.heap.size < X.heap.size := World.block_lt_of_cell? _ _ o0
      have hXl2 : w.heap.size < X.heap.size := by omega
      have HBX := hide hbX
      clear hbX g1' g2' g4 g5 hy
      go_upto_region 4 with fail
      rw [← hX]
      clear hX t0 t1 t2 g1 g2
      go_cut [11, 15] from 15 to 32 (fun s11 s15 wx => CutOk wr name h y1 k la ln lc r s11 s15 wx)
      case first =>
        go_region_with (go_at_call 154; refine ((unhide IR) _).mono ?_; rintro e w3 ⟨rfl, hb3⟩; first
          | (have hz3 : w3.heap[X.heap.size]? = some (.cells zeroCs.toArray 89 (0, 0)) := (hb3.block X.heap.size (by simp)).trans (heap_alloc_new X _)
             have c0 := cell_of hz3 0 _ rfl
             have c1 := cell_of hz3 1 _ rfl
             have c2 := cell_of hz3 2 _ rfl
             have c3 := cell_of hz3 3 _ rfl
             have c4 := cell_of hz3 4 _ rfl
             have c5 := cell_of hz3 5 _ rfl
             have f0 := frozen_of hz3 0
             have f1 := frozen_of hz3 1
             have f2 := frozen_of hz3 2
             have f3 := frozen_of hz3 3
             have f4 := frozen_of hz3 4
             have f5 := frozen_of hz3 5
             have hl3 := lt_of_block hz3
             have o2 : w3.cell? ⟨wr.heap.size, 0, none⟩ = some (.int .i64 y1) := cell_later hb3 (cell_later (bel_draw1 _) (cell_later (bel_new X _) o0))
             have o3 : w3.cell? ⟨wr.heap.size, 1, none⟩ = some (.slice la ln lc) := cell_later hb3 (cell_later (bel_draw1 _) (cell_later (bel_new X _) o1))
             have HB3 : Hid (Below wr.heap.size wr w3) := bel_on (bel_on (bel_on (unhide HBX) (bel_new X _)) (bel_draw1 _)) hb3
             have hl4 : wr.heap.size < w3.heap.size := World.block_lt_of_cell? _ _ o2
             have HZ3 := hide hz3
             clear hz3 hb3)
          | (have o2 : w3.cell? ⟨wr.heap.size, 0, none⟩ = some (.int .i64 y1) := cell_later hb3 (cell_later (bel_draw1 _) o0)
             have o3 : w3.cell? ⟨wr.heap.size, 1, none⟩ = some (.slice la ln lc) := cell_later hb3 (cell_later (bel_draw1 _) o1)
             have hl3 : X.heap.size ≤ w3.heap.size := hb3.size
             have HB3 : Hid (Below wr.heap.size wr w3) := bel_on (bel_on (unhide HBX) (bel_draw1 _)) hb3
             have hl4 : wr.heap.size < w3.heap.size := World.block_lt_of_cell? _ _ o2
             clear hb3))
        all_goals
          go_wp2_with fail
          go_meet
          case rel =>
            first | exact cut_b (w3 := w3) (b := X.heap.size) (unhide HB3) (unhide HZ3) (Nat.le_of_lt hXl) | exact cut_a (w3 := w3) (unhide HB3)
      case rest =>
        obtain ⟨m, rfl, rfl, HBC, hml, m0, m1, m2, m3, m4, m5⟩ := hcut
        have PW := hide ((unhide PUT) wc (unhide HBC))
        have TC : Hid (wc.heap[w.heap.size]? = some (.cells [.int .i64 ht, .slice ai ni ci, .slice (some ⟨b, off, none⟩) no co].toArray 78 (0, 0))) := ((unhide HBC).block _ htl).trans (unhide HT)
        have GC := hide ((unhide HG).on (unhide HBC))
        have hwc : wr.heap.size ≤ wc.heap.size := (unhide HBC).size
        have hkI : (k : Int) < (no : Int) := by omega
        clear PUT o0 o1 s0 s1 s2
        cases hf : hasP (name, (k : Int)) (K'.map (·.1)) with
        | true =>
          have R : Hid (x = 6) := by
            have e := unhide A
            rw [(unhide E1) hf, unhide HX] at e
            injection e
          have C := hide ((unhide PW).1 hf)
          have HBW := hide ((unhide HP').kept (unhide HBC)).bel
          clear E1 E2 A PW hf
          go_wp2_with fail
          refine (unhide C).mono ?_
          rintro e w4 ⟨rfl, hb4⟩
          have HB4 : Hid (Below w0.heap.size w0 w4) := bel_on (unhide HBW) (hb4.mono (unhide HBW).size |> fun q => ⟨q.os, q.tape, q.output, q.size, hb4.block⟩)
          clear hb4
          go_wp2
          go_ret
          exact ⟨by rw [unhide R]; rfl, unhide HB4, fun e => absurd e (by rw [unhide R]; decide)⟩
        | false =>
          have C := hide ((unhide PW).2 hf)
          have A2 : Hid (∀ K'' : List CV, K''.map (·.1) = putC (newC name k (y1, lk) h r) (K'.map (·.1)) → giveGo name h r 0 O (K.map (·.1)) = giveGo name h r (k + 1) (O.drop (k + 1)) (K''.map (·.1))) := fun K'' hK => by
            rw [unhide A, (unhide E2) hf, hK]
          clear E1 E2 A PW hf
          go_wp2_with fail
          refine (unhide C).mono ?_
          rintro e w4 ⟨v4, K4, rfl, hK4, hl4, hP4, hG4, hv4⟩
          have hnt : ¬ PuS p v' w.heap.size := by
            rintro (e | e)
            · omega
            · exact (unhide HNE) e
          have R : Hid (Hid (giveGo name h r 0 O (K.map (·.1)) = giveGo name h r (k + 1) (O.drop (k + 1)) (K4.map (·.1))) ∧ Hid (Srt (K4.map (·.1))) ∧ K4.length ≤ K.length + (k + 1) ∧ Hid (Pu w0 w4 p v4 K4) ∧ Hid (Gr w w4 (PuS p v)) ∧ Hid (v4.ownBlock = v.ownBlock ∨ ∀ k, v4.ownBlock = some k → w.heap.size ≤ k) ∧
              Hid (w4.heap[w.heap.size]? = some (.cells [.int .i64 ht, .slice ai ni ci, .slice (some ⟨b, off, none⟩) no co].toArray 78 (0, 0))) ∧ Hid (v4.ownBlock ≠ some w.heap.size)) := by
            refine ⟨(unhide A2) K4 hK4, ?_, by omega, hP4, ?_, ?_, hG4.heap (unhide TC) hnt, ?_⟩
            · show Srt _; rw [hK4]; exact putC_srt (unhide HS')
            · refine (unhide GC).trans2 hG4 (fun q hq hT => ?_)
              rcases hT with e | e
              · exact .inl e
              · rcases unhide HV with f | f
                · exact .inr (by rw [← f]; exact e)
                · have := f q e; omega
            · rcases hv4 with f | f
              · rcases unhide HV with g | g
                · exact .inl (by rw [f, g])
                · exact .inr (fun q hq => g q (by rw [← f]; exact hq))
              · exact .inr (fun q hq => by have := f q hq; omega)
            · intro e
              rcases hv4 with f | f
              · exact (unhide HNE) (by rw [← f]; exact e)
              · have := f _ e; omega
          clear hK4 hl4 hP4 hG4 hv4 hnt A2
          go_wp2
          go_roundw
          case rel =>
            obtain ⟨r1, r2, r3, r4, r5, r6, r7, r8⟩ := unhide R
            exact ⟨k + 1, K4, v4, by omega, by go_num, r1, r2, r3, r4, r5, r6, r7, r8⟩
          case measure => simp [intOf]; omega
    · have e : k = no := by omega
      subst e
      have R := unhide A
      rw [giveGo_end (by rw [unhide HZ]; exact Nat.le_refl _), unhide HX] at R
      have R1 : Hid (x = 0) := by show _ = _; injection R
      have R2 : M = K'.map (·.1) := by injection R
      subst R2
      clear R A t0 t1 t2
      go_wp2
      go_ret
      exact ⟨by rw [unhide R1]; rfl, (unhide HP').bel, fun _ => ⟨v', K', rfl, unhide HS', hKl, unhide HP', unhide HG⟩⟩

end Go.Proofs.YtifhlohdidfbgaaGreatDoor

/- Contracts of what copies coins: a lock in memory of its own, a coin, a row of them. -/
namespace Go.Proofs.YtifhlohdidfbgaaGreatDoor
open Go.RowKit

def flatO : List (Int × Int) → List Value
  | [] => []
  | o :: r => .int .i64 o.1 :: .int .i64 o.2 :: flatO r
theorem flatO_len : ∀ l : List (Int × Int), (flatO l).length = l.length * 2
  | [] => rfl
  | _ :: r => by simp only [flatO, List.length_cons, flatO_len r]; omega
theorem flatO_at : ∀ (l : List (Int × Int)) (i : Nat), i < l.length → (flatO l)[i * 2]? = some (.int .i64 (l.getD i (0, 0)).1) ∧ (flatO l)[i * 2 + 1]? = some (.int .i64 (l.getD i (0, 0)).2)
  | [], _, h => absurd h (by simp)
  | o :: r, 0, _ => ⟨rfl, rfl⟩
  | o :: r, i + 1, h => by
    have := flatO_at r i (by simpa using h)
    rw [show (i + 1) * 2 = i * 2 + 2 by omega]
    simpa [flatO] using this
theorem flatO_one : ∀ (l : List (Int × Int)) (u : Value), u ∈ flatO l → u.oneCell' = true
  | [], u, h => by cases h
  | o :: r, u, h => by
    simp only [flatO, List.mem_cons] at h
    rcases h with rfl | rfl | h
    · rfl
    · rfl
    · exact flatO_one r u h
theorem flatO_cells {w : World} {b off n : Nat} {l : List (Int × Int)} (hz : l.length = n) (hc : ∀ i, i < n → w.cell? ⟨b, off + i * 2, none⟩ = some (.int .i64 (l.getD i (0, 0)).1) ∧ w.cell? ⟨b, off + i * 2 + 1, none⟩ = some (.int .i64 (l.getD i (0, 0)).2)) (j : Nat) (u : Value) (hj : (flatO l)[j]? = some u) : w.cell? ⟨b, off + j, none⟩ = some u := by
  have hjl : j < l.length * 2 := by rw [← flatO_len]; exact (List.getElem?_eq_some_iff.1 hj).1
  obtain ⟨f0, f1⟩ := flatO_at l (j / 2) (by omega)
  obtain ⟨c0, c1⟩ := hc (j / 2) (by omega)
  rcases (show j % 2 = 0 ∨ j % 2 = 1 by omega) with q | q
  · have e : j = j / 2 * 2 := by omega
    rw [← e] at f0 c0
    rw [f0] at hj
    rw [c0, ← hj]
  · have e : j = j / 2 * 2 + 1 := by omega
    rw [← e] at f1
    rw [show off + j / 2 * 2 + 1 = off + j by omega] at c1
    rw [f1] at hj
    rw [c1, ← hj]
theorem ops_own {w : World} {base : Nat} {v : Value} {n : Nat} {l : List (Int × Int)} (h : w.ownsRow base 160 2 v n (flatO l)) : ∃ a c, v = .slice a n c ∧ OpsAt w a n l ∧ SlOk a n c ∧ (∀ ad, a = some ad → base ≤ ad.block) := by
  have hl : l.length = n := by have := h.1; rw [flatO_len] at this; omega
  rcases h.2 with ⟨rfl, rfl⟩ | ⟨g, cap, cur, rfl, hg, hh, h1, h2, h3, h4⟩
  · exact ⟨none, 0, rfl, ⟨hl, fun h => absurd h (by omega)⟩, ⟨Nat.le_refl _, Nat.zero_le _, fun _ => ⟨rfl, rfl⟩⟩, fun ad e => by cases e⟩
  · refine ⟨_, cap, rfl, ⟨hl, fun _ => ⟨g, 0, rfl, fun i hi => ?_⟩⟩, ⟨h1, h2, fun e => by cases e⟩, fun ad e => by cases e; exact hg⟩
    obtain ⟨f0, f1⟩ := flatO_at l i (by omega)
    rw [Nat.zero_add, World.ownsRow.cellAt h _ (by omega), World.ownsRow.cellAt h _ (by omega)]
    exact ⟨f0, f1⟩

theorem Tryz.infoOpC : (Tryz.prog.info? 160).map (fun i => (i.zero, i.size, i.bytes)) = some (some (.agg #[.int .i64 0, .int .i64 0]), 2, 16) := by kernel_rfl

set_option maxRecDepth 10000 in
set_option maxHeartbeats 800000 in
theorem cloneOp_nil (w : World) : Calls Tryz.prog 232 #[.slice none 0 0] w fun e w' => e = .returned (.slice none 0 0) ∧ w = w' := by
  have he := fun w => Lib.run_eql_slice_nil (P := Tryz.prog) w 83 160 none 0 0 0 0 Tryz.underlying83
  go_enter Tryz.func232, Tryz.ntmps232
  go_wp2
  go_ret
  exact ⟨rfl, rfl⟩

set_option maxRecDepth 10000 in
set_option maxHeartbeats 1600000 in
theorem cloneOp_some (ad : Addr) (n c : Nat) (l : List (Int × Int)) (w : World) (hn : n ≤ 4096) (hz : l.length = n) (hc : ∀ j u, (flatO l)[j]? = some u → w.cell? (ad.add j) = some u) :
    Calls Tryz.prog 232 #[.slice (some ad) n c] w fun e w' => ∃ v, e = .returned v ∧ w'.ownsRow w.heap.size 160 2 v n (flatO l) ∧ Below w.heap.size w w' := by
  obtain ⟨i0, hi, hz0, hz1, hz2⟩ := info_parts Tryz.infoOpC
  have hb := bel_new w (.cells #[] 160)
  have HC : Hid (∀ j u, (flatO l)[j]? = some u → (w.alloc (.cells #[] 160)).cell? (ad.add j) = some u) := fun j u hj => cell_later hb (hc j u hj)
  have HB := hide hb
  have HZ := hide hz
  have HO := hide (own_nil w 160 2)
  have he := fun w => Lib.run_eql_slice_nil (P := Tryz.prog) w 83 160 (some ad) n c 0 0 Tryz.underlying83
  clear hc hb hz
  go_enter Tryz.func232, Tryz.ntmps232
  go_wp2_with (at_builtin; refine wpList_append_own _ rfl _ _ 83 rfl w.heap.size 160 i0 (.agg #[.int .i64 0, .int .i64 0]) 2 16 Tryz.underlying83 hi hz0 hz1 hz2 rfl (by decide) _ _ _ rfl (unhide HO) ad n c (flatO l) rfl (by rw [flatO_len, unhide HZ]) (unhide HC) (flatO_one l) (by unfold maxLen; omega) (by omega) (unhide HB).size ?_; intro v2 w3 hown3 hgrow3 _)
  have HW : Hid (w3.ownsRow w.heap.size 160 2 v2 n (flatO l)) := by show World.ownsRow _ _ _ _ _ _ _; simpa using hown3
  have HB3 := hide ((unhide HB).grown hgrow3 (unhide HB).size (own_lo (unhide HO)))
  clear hown3 hgrow3
  go_wp2
  go_ret
  exact ⟨v2, rfl, unhide HW, unhide HB3⟩

theorem cloneOp_any (a : Option Addr) (n c : Nat) (l : List (Int × Int)) (w : World) (hn : n ≤ 4096) (h : OpsAt w a n l) (hs : SlOk a n c) :
    Calls Tryz.prog 232 #[.slice a n c] w fun e w' => ∃ a' c', e = .returned (.slice a' n c') ∧ OpsAt w' a' n l ∧ SlOk a' n c' ∧ (∀ ad, a' = some ad → w.heap.size ≤ ad.block) ∧ Below w.heap.size w w' := by
  obtain ⟨hl, hc⟩ := h
  cases a with
  | none =>
    obtain ⟨rfl, rfl⟩ := hs.2.2 rfl
    exact (cloneOp_nil w).mono fun e w' ⟨x, y⟩ => ⟨none, 0, x, ⟨hl, fun h => absurd h (by omega)⟩, hs, fun ad e => (by cases e), y ▸ Below.refl _ _⟩
  | some ad =>
    have hc2 : ∀ j u, (flatO l)[j]? = some u → w.cell? (ad.add j) = some u := fun j u hj => by
      have hjl : j < l.length * 2 := by rw [← flatO_len]; exact (List.getElem?_eq_some_iff.1 hj).1
      obtain ⟨b, off, e, hcell⟩ := hc (by omega)
      cases e
      rw [Addr.add_lit]
      exact flatO_cells hl hcell j u hj
    refine (cloneOp_some ad n c l w hn hl hc2).mono ?_
    rintro e w' ⟨v, rfl, x, y⟩
    obtain ⟨a', c', rfl, h1, h2, h3⟩ := ops_own x
    exact ⟨a', c', rfl, h1, h2, h3, y⟩

end Go.Proofs.YtifhlohdidfbgaaGreatDoor

/- Contracts of Copy of an output and of a coin. -/
namespace Go.Proofs.YtifhlohdidfbgaaGreatDoor
open Go.RowKit

theorem results_cell0 {fn : Func} {p : Tmp} {ty : TypeId} (h : fn.results = #[.cell p ty]) (tmps : Array Value) (P : Program) (w : World) :
    (results fn tmps).run P w = ((asAddr (tmps.getD p undef)).run P w).andThen fun a w₁ => (loadVar ty a).run P w₁ := by
  simp only [results, h]
  simp [Sem.run_bind, Result.andThen]

theorem OpsAt.gr {w w' : World} {S : Nat → Prop} {a : Option Addr} {n : Nat} {l : List (Int × Int)} (h : OpsAt w a n l) (g : Gr w w' S) (hn : ∀ ad, a = some ad → ¬ S ad.block) : OpsAt w' a n l := by
  refine ⟨h.1, fun h0 => ?_⟩
  obtain ⟨b, off, rfl, hc⟩ := h.2 h0
  refine ⟨b, off, rfl, fun i hi => ?_⟩
  obtain ⟨c0, c1⟩ := hc i hi
  have hb := g.block b (World.block_lt_of_cell? _ _ c0) (hn _ rfl)
  exact ⟨(World.cell?_of_block (a := ⟨b, off + i * 2, none⟩) hb).trans c0, (World.cell?_of_block (a := ⟨b, off + i * 2 + 1, none⟩) hb).trans c1⟩

set_option maxRecDepth 10000 in
set_option maxHeartbeats 1600000 in
theorem outCopy_is (x : Int) (a : Option Addr) (n c : Nat) (l : List (Int × Int)) (w : World) (hn : n ≤ 4096) (h : OpsAt w a n l) (hs : SlOk a n c) :
    Calls Tryz.prog 199 #[.agg #[.int .i64 x, .slice a n c]] w fun e w' => ∃ a' c', e = .returned (.agg #[.int .i64 x, .slice a' n c']) ∧ OpsAt w' a' n l ∧ SlOk a' n c' ∧ (∀ ad, a' = some ad → w.heap.size ≤ ad.block) ∧ Below w.heap.size w w' := by
  obtain ⟨X, hX⟩ : ∃ X, X = (w.alloc (.cells #[.int .i64 x, .slice a n c] 85)).alloc (.cells #[.int .i64 0, .slice none 0 0] 85) := ⟨_, rfl⟩
  have hbX : Below w.heap.size w X := by rw [hX]; exact bel_on (bel_new _ _) (bel_new _ _)
  have x0 : X.cell? ⟨w.heap.size, 0, none⟩ = some (.int .i64 x) := by rw [hX]; exact cell_later (bel_new _ _) (two_cells w _ _ _).1
  have x1 : X.cell? ⟨w.heap.size, 1, none⟩ = some (.slice a n c) := by rw [hX]; exact cell_later (bel_new _ _) (two_cells w _ _ _).2
  have hX1 : X.heap[w.heap.size + 1]? = some (.cells [.int .i64 0, .slice none 0 0].toArray 85 (0, 0)) := by
    rw [hX]
    have := heap_alloc_new (w.alloc (.cells #[.int .i64 x, .slice a n c] 85)) (.cells #[.int .i64 0, .slice none 0 0] 85)
    rw [show (w.alloc (.cells #[.int .i64 x, .slice a n c] 85)).heap.size = w.heap.size + 1 by simp] at this
    exact this
  have C := hide (cloneOp_any a n c l X.drew hn (h.later (bel_on hbX (bel_draw1 X))) hs)
  have HX1 := hide hX1
  have HBX := hide hbX
  clear h hs hbX hX1
  go_enter Tryz.func199, Tryz.ntmps199
  go_wp2_with fail
  rw [← hX]
  clear hX
  go_region_with (go_at_call 232; refine (unhide C).mono ?_; rintro e w3 ⟨a', c', rfl, ho3, hs3, hb3', hb3⟩; have o2 : w3.cell? ⟨w.heap.size, 0, none⟩ = some (.int .i64 x) := cell_later hb3 (cell_later (bel_draw1 _) x0); have hz3 := (hb3.block _ (lt_of_block (unhide HX1))).trans (unhide HX1); have c0 := cell_of hz3 0 _ rfl; have c1 := cell_of hz3 1 _ rfl; have f0 := frozen_of hz3 0; have f1 := frozen_of hz3 1; have H3 : Hid (OpsAt w3 a' n l ∧ SlOk a' n c' ∧ (∀ ad, a' = some ad → X.heap.size ≤ ad.block) ∧ Below X.drew.heap.size X.drew w3) := ⟨ho3, hs3, hb3', hb3⟩; clear ho3 hs3 hb3' hb3 hz3)
  all_goals
    go_wp2
    (try simp only [Exit.inBlock, Exit.then])
    obtain ⟨ho3, hs3, hb3', hb3⟩ := unhide H3
    have hG := ((Gr.refl w3 (fun q => q = w.heap.size + 1)).one (w.heap.size + 1) 0 (.inl rfl) (.int .i64 x)).one (w.heap.size + 1) 1 (.inl rfl) (.slice a' n c')
    have hlt := lt_of_block (unhide HX1)
    refine bodyPost_ret (v := .agg #[.int .i64 x, .slice a' n c']) ?_ rfl ⟨a', c', rfl, ho3.gr hG (fun ad e q => ?_), hs3, fun ad e => ?_, ?_⟩
    · rw [results_cell0 rfl]
      go_simp
    · have := hb3' ad e; omega
    · have := hb3' ad e; omega
    · have hsz : X.heap.size ≤ w3.heap.size := hb3.size
      exact hG.below (bel_on (bel_on (unhide HBX) (bel_draw1 _)) hb3) (by omega) (fun k hk => by omega)

set_option maxRecDepth 10000 in
set_option maxHeartbeats 3200000 in
theorem copyCoin_is (x : CoinD) (a : Option Addr) (n c : Nat) (w : World) (hn : n ≤ 4096) (h : OpsAt w a n (ck x)) (hs : SlOk a n c) :
    Calls Tryz.prog 158 #[cnV x a n c] w fun e w' => ∃ a' c', e = .returned (cnV x a' n c') ∧ OpsAt w' a' n (ck x) ∧ SlOk a' n c' ∧ (∀ ad, a' = some ad → w.heap.size ≤ ad.block) ∧ Below w.heap.size w w' := by
  unfold cnV
  obtain ⟨X, hX⟩ : ∃ X, X = (w.alloc (.cells #[.int .i64 x.1, .int .i64 x.2.1, .int .i64 (cv x), .slice a n c, .int .i64 (ch x), .bool (cr x)] 89)).alloc (.cells #[.int .i64 0, .int .i64 0, .int .i64 0, .slice none 0 0, .int .i64 0, .bool false] 89) := ⟨_, rfl⟩
  have hbX : Below w.heap.size w X := by rw [hX]; exact bel_on (bel_new _ _) (bel_new _ _)
  have hX0 : X.heap[w.heap.size]? = some (.cells [.int .i64 x.1, .int .i64 x.2.1, .int .i64 (cv x), .slice a n c, .int .i64 (ch x), .bool (cr x)].toArray 89 (0, 0)) := by
    rw [hX, Below.heap_alloc _ _ _ (by simp)]; exact six_heap _ _ _ _ _ _ _ _
  have hX1 : X.heap[w.heap.size + 1]? = some (.cells zeroCs.toArray 89 (0, 0)) := by
    rw [hX]
    have := heap_alloc_new (w.alloc (.cells #[.int .i64 x.1, .int .i64 x.2.1, .int .i64 (cv x), .slice a n c, .int .i64 (ch x), .bool (cr x)] 89)) (.cells zeroCs.toArray 89)
    rw [show (w.alloc (.cells #[.int .i64 x.1, .int .i64 x.2.1, .int .i64 (cv x), .slice a n c, .int .i64 (ch x), .bool (cr x)] 89)).heap.size = w.heap.size + 1 by simp] at this
    exact this
  have C := hide (outCopy_is (cv x) a n c (ck x) X hn (h.later hbX) hs)
  have HX0 := hide hX0
  have HX1 := hide hX1
  have HBX := hide hbX
  have x2 := cell_of hX0 2 _ rfl
  have x3 := cell_of hX0 3 _ rfl
  clear h hs hbX hX1 hX0
  go_enter Tryz.func158, Tryz.ntmps158
  go_wp2_with fail
  rw [← hX]
  clear hX x2 x3
  refine (unhide C).mono ?_
  rintro e w3 ⟨a', c', rfl, ho3, hs3, hb3', hb3⟩
  have h0 := (hb3.block _ (lt_of_block (unhide HX0))).trans (unhide HX0)
  have h1 := (hb3.block _ (lt_of_block (unhide HX1))).trans (unhide HX1)
  have c0 := cell_of h0 0 _ rfl
  have c1 := cell_of h0 1 _ rfl
  have c2 := cell_of h0 2 _ rfl
  have c3 := cell_of h0 3 _ rfl
  have c4 := cell_of h0 4 _ rfl
  have c5 := cell_of h0 5 _ rfl
  have f2 := frozen_of h0 2
  have f3 := frozen_of h0 3
  have z0 := cell_of h1 0 _ rfl
  have z1 := cell_of h1 1 _ rfl
  have z2 := cell_of h1 2 _ rfl
  have z3 := cell_of h1 3 _ rfl
  have z4 := cell_of h1 4 _ rfl
  have z5 := cell_of h1 5 _ rfl
  have y0 := frozen_of h1 0
  have y1 := frozen_of h1 1
  have y2 := frozen_of h1 2
  have y3 := frozen_of h1 3
  have y4 := frozen_of h1 4
  have y5 := frozen_of h1 5
  have HX2 : Hid (w.heap.size + 1 < X.heap.size) := lt_of_block (unhide HX1)
  have H3 : Hid (OpsAt w3 a' n (ck x) ∧ SlOk a' n c' ∧ (∀ ad, a' = some ad → X.heap.size ≤ ad.block) ∧ Below X.heap.size X w3) := ⟨ho3, hs3, hb3', hb3⟩
  clear ho3 hs3 hb3' hb3 h0 h1
  go_wp2
  (try simp only [Exit.inBlock, Exit.then])
  obtain ⟨ho3, hs3, hb3', hb3⟩ := unhide H3
  have hlt := unhide HX2
  have hG := (((Gr.refl w3 (fun q => q = w.heap.size ∨ q = w.heap.size + 1)).one w.heap.size 2 (.inl (.inl rfl)) (.int .i64 (cv x))).one w.heap.size 3 (.inl (.inl rfl)) (.slice a' n c')).six (w.heap.size + 1) (.inl (.inr rfl)) (.int .i64 x.1) (.int .i64 x.2.1) (.int .i64 (cv x)) (.slice a' n c') (.int .i64 (ch x)) (.bool (cr x))
  refine bodyPost_ret (v := .agg #[.int .i64 x.1, .int .i64 x.2.1, .int .i64 (cv x), .slice a' n c', .int .i64 (ch x), .bool (cr x)]) ?_ rfl ⟨a', c', rfl, ho3.gr hG (fun ad e q => ?_), hs3, fun ad e => ?_, ?_⟩
  · rw [results_cell0 rfl]
    go_simp
  · have := hb3' ad e; rcases q with q | q <;> omega
  · have := hb3' ad e; omega
  · exact hG.below (bel_on (unhide HBX) hb3) (Nat.le_of_lt (Nat.lt_of_lt_of_le (by omega) hb3.size)) (fun k hk => by rcases hk with q | q <;> omega)

end Go.Proofs.YtifhlohdidfbgaaGreatDoor

/- The contract of clone.Coins. -/
namespace Go.Proofs.YtifhlohdidfbgaaGreatDoor
open Go.RowKit

/-- A coin whose lock lies in memory from s on. -/
def LkIn (w : World) (s : Nat) (x : CV) : Prop := LkAt w x ∧ ∀ ad, x.2.1 = some ad → s ≤ ad.block
theorem LkIn.later {w w' : World} {s : Nat} {x : CV} (h : LkIn w s x) (hb : Below w.heap.size w w') : LkIn w' s x := ⟨h.1.later hb, h.2⟩

/-- It holds in each world that is the same from B on. -/
def Fresh (B : Nat) (w : World) (Q : World → Prop) : Prop := ∀ w2, Gr w w2 (fun k => k < B) → Q w2

theorem own_head {w : World} {base : Nat} {e : TypeId} {size : Nat} {v : Value} {n : Nat} {xs : List Value} (h : w.ownsRow base e size v n xs) : ∃ a c, v = .slice a n c ∧ SlOk a n c ∧ (0 < n → ∃ g, a = some ⟨g, 0, none⟩ ∧ base ≤ g ∧ g < w.heap.size) := by
  rcases h.2 with ⟨rfl, rfl⟩ | ⟨g, cap, cur, rfl, hg, hh, h1, h2, h3, h4⟩
  · exact ⟨none, 0, rfl, ⟨Nat.le_refl _, Nat.zero_le _, fun _ => ⟨rfl, rfl⟩⟩, fun h => absurd h (by omega)⟩
  · exact ⟨_, cap, rfl, ⟨h1, h2, fun e => by cases e⟩, fun _ => ⟨g, rfl, hg, lt_of_block hh⟩⟩

set_option maxRecDepth 10000 in
set_option maxHeartbeats 6400000 in
theorem copyCoins_is (a : Option Addr) (n c : Nat) (L : List CoinD) (w : World) (hn : n ≤ 4096) (h : CoinsAt w a n L) (hsl : SlOk a n c) (hk : ∀ x ∈ L, (ck x).length ≤ 4096) :
    Calls Tryz.prog 116 #[.slice a n c] w fun e w' => ∃ a' c', e = .returned (.slice a' n c') ∧ Fresh w.heap.size w' (fun w2 => CoinsAt w2 a' n L) ∧ SlOk a' n c' ∧ Below w.heap.size w w' := by
  have C1 := hide (cloneCoin_any a n c L w hn h hsl)
  have HZ := hide h.1
  have HK := hide hk
  clear h hk hsl
  go_enter Tryz.func116, Tryz.ntmps116
  go_wp2_with fail
  refine (unhide C1).mono ?_
  rintro e w2 ⟨v, K, rfl, hK, hlk, hown, hb2⟩
  have hKn : K.length = n := by rw [← unhide HZ, ← hK, List.length_map]
  rw [hKn] at hown
  obtain ⟨a1, c1, rfl, hs1, hg1⟩ := own_head hown
  obtain ⟨G, hG⟩ : ∃ G, w2.heap.size = G := ⟨_, rfl⟩
  rw [hG] at hg1
  have HG1 := hide hg1
  have HS1 := hide hs1
  have HKK := hide hK
  have HKL := hide hKn
  have HLK := hide hlk
  have ST : Hid (w2.ownsRow w.heap.size 89 6 (.slice a1 n c1) n (flatC ([] ++ K.drop 0))) := hown
  have HB2 := hide hb2
  have HGl : Hid (G ≤ w2.heap.size) := Nat.le_of_eq hG.symm
  have HwG : Hid (w.heap.size ≤ G) := by rw [← hG]; exact hb2.size
  clear hown hb2 hK hlk hs1 hg1 C1 hG hKn
  go_wp2_with fail
  go_loopw [9] (fun i wr => ∃ (k : Nat) (T : List CV), k ≤ n ∧ i = .int .i64 k ∧ Hid (T.map (·.1) = L.take k) ∧ Hid (T.length = k) ∧ Hid (wr.ownsRow w.heap.size 89 6 (.slice a1 n c1) n (flatC (T ++ K.drop k))) ∧ Hid (∀ z ∈ T, LkIn wr G z) ∧ Hid (Below w.heap.size w wr) ∧ Hid (G ≤ wr.heap.size)) (fun i _ => n - (intOf i).toNat)
  case atStart => exact ⟨0, [], Nat.zero_le _, rfl, rfl, rfl, ST, (fun z hz => (by cases hz) : ∀ z ∈ ([] : List CV), LkIn w2 G z), HB2, HGl⟩
  case round =>
    obtain ⟨k, T, hk, rfl, HT, HTl, HO, HLk, HB, HGr⟩ := hrel
    clear ST HB2 HGl
    by_cases hlt : k < n
    · have hlk : k < L.length := by rw [unhide HZ]; exact hlt
      have hkK : k < K.length := by rw [unhide HKL]; exact hlt
      obtain ⟨g, rfl, hgw, hgG⟩ := (unhide HG1) (by omega)
      have hKx : (K[k]).1 = L[k] := by
        have := unhide HKK
        subst this
        rw [List.getElem_map]
      have hkl := (unhide HK) _ (List.getElem_mem hlk)
      have hLK := ((unhide HLK) _ (List.getElem_mem hkK)).later (unhide HB)
      have HTK : Hid (L.take (k + 1) = L.take k ++ [L[k]]) := List.take_succ_eq_append_getElem hlk
      have HR' : Hid (T ++ K.drop k = T ++ K[k] :: K.drop (k + 1)) := by
        show _ = _
        rw [List.drop_eq_getElem_cons hkK]
      obtain ⟨z, hz⟩ : ∃ z, K[k] = z := ⟨_, rfl⟩
      rw [hz] at hKx HR' hLK
      rw [← hKx] at HTK hkl
      obtain ⟨x, la, ln, lc⟩ := z
      simp only at HTK hkl
      obtain ⟨hO4, hs4⟩ := hLK
      simp only at hO4 hs4
      have hln : ln ≤ 4096 := by rw [← hO4.1]; exact hkl
      have hTk := unhide HTl
      have hOr := unhide HO
      rw [unhide HR'] at hOr
      have har : ∀ j, j < 6 → wr.cell? ⟨g, k * 6 + j, none⟩ = (sixV (x, la, ln, lc))[j]? := fun j hj => by
        rw [World.ownsRow.cellAt hOr _ (by omega), ← hTk, flatC_mid_at _ _ _ j hj]
      have g0 : wr.cell? ⟨g, k * 6, none⟩ = some (.int .i64 x.1) := (har 0 (by decide)).trans rfl
      have g1 : wr.cell? ⟨g, k * 6 + 1, none⟩ = some (.int .i64 x.2.1) := (har 1 (by decide)).trans rfl
      have g2 : wr.cell? ⟨g, k * 6 + 2, none⟩ = some (.int .i64 (cv x)) := (har 2 (by decide)).trans rfl
      have g3 : wr.cell? ⟨g, k * 6 + 3, none⟩ = some (.slice la ln lc) := (har 3 (by decide)).trans rfl
      have g4 : wr.cell? ⟨g, k * 6 + 4, none⟩ = some (.int .i64 (ch x)) := (har 4 (by decide)).trans rfl
      have g5 : wr.cell? ⟨g, k * 6 + 5, none⟩ = some (.bool (cr x)) := (har 5 (by decide)).trans rfl
      obtain ⟨X, hX⟩ : ∃ X, X = wr.alloc (.cells #[.int .i64 x.1, .int .i64 x.2.1, .int .i64 (cv x), .slice la ln lc, .int .i64 (ch x), .bool (cr x)] 89) := ⟨_, rfl⟩
      have hbX : Below wr.heap.size wr X := by rw [hX]; exact bel_new _ _
      have C := copyCoin_is x la ln lc X hln (hO4.later hbX) hs4
      unfold cnV at C
      have HC := hide C
      have HBX := hide hbX
      have hkI : (k : Int) < (n : Int) := by omega
      have HOr := hide hOr
      clear C hbX hO4 hs4 hkl hOr har hKx hz
      go_wp2_with fail
      rw [← hX]
      clear hX g0 g1 g2 g3 g4 g5
      refine (unhide HC).mono ?_
      rintro e w5 ⟨a5, c5, rfl, ho5, hs5, hba5, hb5⟩
      have hbw5 := bel_on (unhide HBX) hb5
      have hO5 := (Gr.of (S := fun _ => False) hbw5).own (unhide HOr) (fun _ _ q => q)
      have hat : ∀ j, j < 6 → w5.cell? ⟨g, k * 6 + j, none⟩ = (sixV (x, la, ln, lc))[j]? := fun j hj => by
        rw [World.ownsRow.cellAt hO5 _ (by omega), ← hTk, flatC_mid_at _ _ _ j hj]
      have t0 : w5.cell? ⟨g, k * 6, none⟩ = some (.int .i64 x.1) := (hat 0 (by decide)).trans rfl
      have t1 : w5.cell? ⟨g, k * 6 + 1, none⟩ = some (.int .i64 x.2.1) := (hat 1 (by decide)).trans rfl
      have t2 : w5.cell? ⟨g, k * 6 + 2, none⟩ = some (.int .i64 (cv x)) := (hat 2 (by decide)).trans rfl
      have t3 : w5.cell? ⟨g, k * 6 + 3, none⟩ = some (.slice la ln lc) := (hat 3 (by decide)).trans rfl
      have t4 : w5.cell? ⟨g, k * 6 + 4, none⟩ = some (.int .i64 (ch x)) := (hat 4 (by decide)).trans rfl
      have t5 : w5.cell? ⟨g, k * 6 + 5, none⟩ = some (.bool (cr x)) := (hat 5 (by decide)).trans rfl
      have z0 := hO5.frozenAt (k * 6)
      have z1 := hO5.frozenAt (k * 6 + 1)
      have z2 := hO5.frozenAt (k * 6 + 2)
      have z3 := hO5.frozenAt (k * 6 + 3)
      have z4 := hO5.frozenAt (k * 6 + 4)
      have z5 := hO5.frozenAt (k * 6 + 5)
      have hsl5 : g < w5.heap.size := (hO5.lt _ rfl).2
      have TAIL : Hid (∃ T' : List CV, Hid (T'.map (·.1) = L.take (k + 1)) ∧ Hid (T'.length = k + 1) ∧ Hid (((((((w5.setCell ⟨g, k * 6, none⟩ (.int .i64 x.1)).setCell ⟨g, k * 6 + 1, none⟩ (.int .i64 x.2.1)).setCell ⟨g, k * 6 + 2, none⟩ (.int .i64 (cv x))).setCell ⟨g, k * 6 + 3, none⟩ (.slice a5 ln c5)).setCell ⟨g, k * 6 + 4, none⟩ (.int .i64 (ch x))).setCell ⟨g, k * 6 + 5, none⟩ (.bool (cr x))).ownsRow w.heap.size 89 6 (.slice (some ⟨g, 0, none⟩) n c1) n (flatC (T' ++ K.drop (k + 1)))) ∧
          Hid (∀ z ∈ T', LkIn ((((((w5.setCell ⟨g, k * 6, none⟩ (.int .i64 x.1)).setCell ⟨g, k * 6 + 1, none⟩ (.int .i64 x.2.1)).setCell ⟨g, k * 6 + 2, none⟩ (.int .i64 (cv x))).setCell ⟨g, k * 6 + 3, none⟩ (.slice a5 ln c5)).setCell ⟨g, k * 6 + 4, none⟩ (.int .i64 (ch x))).setCell ⟨g, k * 6 + 5, none⟩ (.bool (cr x))) G z) ∧
          Hid (Below w.heap.size w ((((((w5.setCell ⟨g, k * 6, none⟩ (.int .i64 x.1)).setCell ⟨g, k * 6 + 1, none⟩ (.int .i64 x.2.1)).setCell ⟨g, k * 6 + 2, none⟩ (.int .i64 (cv x))).setCell ⟨g, k * 6 + 3, none⟩ (.slice a5 ln c5)).setCell ⟨g, k * 6 + 4, none⟩ (.int .i64 (ch x))).setCell ⟨g, k * 6 + 5, none⟩ (.bool (cr x)))) ∧
          Hid (G ≤ ((((((w5.setCell ⟨g, k * 6, none⟩ (.int .i64 x.1)).setCell ⟨g, k * 6 + 1, none⟩ (.int .i64 x.2.1)).setCell ⟨g, k * 6 + 2, none⟩ (.int .i64 (cv x))).setCell ⟨g, k * 6 + 3, none⟩ (.slice a5 ln c5)).setCell ⟨g, k * 6 + 4, none⟩ (.int .i64 (ch x))).setCell ⟨g, k * 6 + 5, none⟩ (.bool (cr x))).heap.size)) := by
        have hG := (Gr.refl w5 (fun q => q = g)).sixAt g (k * 6) (.inl rfl) (.int .i64 x.1) (.int .i64 x.2.1) (.int .i64 (cv x)) (.slice a5 ln c5) (.int .i64 (ch x)) (.bool (cr x))
        have hO6 := stored6 hO5 (k * 6) (.int .i64 x.1) (.int .i64 x.2.1) (.int .i64 (cv x)) (.slice a5 ln c5) (.int .i64 (ch x)) (.bool (cr x))
        have hset := flatC_mid_set T (K.drop (k + 1)) (x, la, ln, lc) (x, a5, ln, c5)
        rw [hTk] at hset
        simp only at hset
        rw [hset] at hO6
        have hXs : wr.heap.size ≤ X.heap.size := (unhide HBX).size
        have hGr := unhide HGr
        have hs5' := hbw5.size
        have hs6 := hG.size
        refine ⟨T ++ [(x, a5, ln, c5)], ?_, ?_, ?_, ?_, ?_, ?_⟩
        · show _ = _; rw [List.map_append, unhide HT, unhide HTK]; rfl
        · show _ = _; rw [List.length_append, hTk]; rfl
        · show World.ownsRow _ _ _ _ _ _ _
          rw [List.append_assoc]
          exact hO6
        · intro z hz
          rcases List.mem_append.1 hz with hz | hz
          · have h1 := ((unhide HLk) z hz).later hbw5
            exact ⟨⟨h1.1.1.gr hG (fun ad e q => by have := h1.2 ad e; omega), h1.1.2⟩, h1.2⟩
          · rw [List.mem_singleton.1 hz]
            have h3 : ∀ ad, a5 = some ad → G ≤ ad.block := fun ad e => by have := hba5 ad e; omega
            exact ⟨⟨ho5.gr hG (fun ad e q => by have := h3 ad e; omega), hs5⟩, h3⟩
        · exact hG.below (bel_on (unhide HB) hbw5) (by have := unhide HwG; omega) (fun q hq => by omega)
        · show _ ≤ _; omega
      clear ho5 hs5 hba5 hb5 hbw5 hO5 hat HC HOr
      go_wp2
      go_roundw
      case rel =>
        obtain ⟨T', f1, f2, f3, f4, f5, f6⟩ := unhide TAIL
        exact ⟨k + 1, T', by omega, by go_num, f1, f2, f3, f4, f5, f6⟩
      case measure => simp [intOf]; omega
    · have e : k = n := by omega
      subst e
      have HR : Hid (Fresh w.heap.size wr (fun w2 => CoinsAt w2 a1 k L) ∧ SlOk a1 k c1) := by
        have h1 := unhide HO
        have hKL := unhide HKL
        rw [List.drop_of_length_le (by omega), List.append_nil, ← unhide HTl] at h1
        have hF : Fresh w.heap.size wr (fun w2 => CoinsAt w2 a1 k L) := fun w2 hG => by
          have h2 := hG.own h1 (fun q hq => by have := (h1.lt q hq).1; omega)
          obtain ⟨a', c', e, h3, _⟩ := coins_of_own h2 (fun z hz => ⟨((unhide HLk) z hz).1.1.gr hG (fun ad e q => by have := ((unhide HLk) z hz).2 ad e; have := unhide HwG; omega), ((unhide HLk) z hz).1.2⟩)
          cases e
          rw [unhide HT, List.take_of_length_le (by rw [unhide HZ]; exact Nat.le_refl _)] at h3
          rw [unhide HTl] at h3
          exact h3
        exact ⟨hF, unhide HS1⟩
      clear HO HT HTl HLk HG1
      go_wp2
      go_ret
      obtain ⟨h1, h2⟩ := unhide HR
      exact ⟨_, _, rfl, h1, h2, unhide HB⟩

end Go.Proofs.YtifhlohdidfbgaaGreatDoor

/- Contracts of covers, and of what is checked ahead of doing a transaction. -/
namespace Go.Proofs.YtifhlohdidfbgaaGreatDoor
open Go.RowKit

theorem sumC_bd : ∀ (L : List CoinD) (k : Nat), (∀ c ∈ L, 0 ≤ cv c ∧ cv c ≤ 1000000000) → 0 ≤ sumC (L.take k) ∧ sumC (L.take k) ≤ 1000000000 * (k : Int)
  | [], k, _ => by simp [sumC]; omega
  | c :: r, 0, _ => by simp [sumC]
  | c :: r, k + 1, h => by
    have h1 := h c (List.mem_cons_self ..)
    have h2 := sumC_bd r k (fun x hx => h x (List.mem_cons_of_mem _ hx))
    rw [List.take_succ_cons, sumC_cons]
    omega
theorem sumO_bd : ∀ (L : List OutD) (k : Nat), (∀ c ∈ L, 0 ≤ c.1 ∧ c.1 ≤ 1000000000) → 0 ≤ sumO (L.take k) ∧ sumO (L.take k) ≤ 1000000000 * (k : Int)
  | [], k, _ => by simp [sumO]; omega
  | c :: r, 0, _ => by simp [sumO]
  | c :: r, k + 1, h => by
    have h1 := h c (List.mem_cons_self ..)
    have h2 := sumO_bd r k (fun x hx => h x (List.mem_cons_of_mem _ hx))
    rw [List.take_succ_cons]
    have e : sumO (c :: r.take k) = c.1 + sumO (r.take k) := by simp [sumO]
    rw [e]
    omega

set_option maxRecDepth 10000 in
set_option maxHeartbeats 6400000 in
theorem covers_is (sa : Option Addr) (ns cs : Nat) (S : List CoinD) (ht : Int) (ai ao : Option Addr) (ni ci no co : Nat) (O : List OutD) (x : Int) (w : World) (hns : ns ≤ 6) (hno : no ≤ 6) (hS : CoinsAt w sa ns S) (hO : OutsAt w ao no O)
    (hs : ∀ c ∈ S, 0 ≤ cv c ∧ cv c ≤ 1000000000) (ho : ∀ c ∈ O, 0 ≤ c.1 ∧ c.1 ≤ 1000000000) (hx : (if sumC S - sumO O < 0 ∧ decide (ni = 0) = false then 9 else 0) = x) :
    Calls Tryz.prog 114 #[.slice sa ns cs, .agg #[.int .i64 ht, .slice ai ni ci, .slice ao no co]] w fun e w' => e = .returned (.int .i64 x) ∧ Below w.heap.size w w' := by
  obtain ⟨X0, hX0⟩ : ∃ X0, X0 = w.alloc (.cells #[.int .i64 ht, .slice ai ni ci, .slice ao no co] 78) := ⟨_, rfl⟩
  have hb0 : Below w.heap.size w X0 := by rw [hX0]; exact bel_new _ _
  have hX1 : X0.heap[w.heap.size]? = some (.cells [.int .i64 ht, .slice ai ni ci, .slice ao no co].toArray 78 (0, 0)) := by rw [hX0]; exact three_heap _ _ _ _ _
  have HSB := hide (fun k => sumC_bd S k hs)
  have HOB := hide (fun k => sumO_bd O k ho)
  have HS := hide (hS.later hb0)
  have HO := hide (hO.later hb0)
  have HZS := hide hS.1
  have HZO := hide hO.1
  have HX := hide hx
  have HX1 := hide hX1
  have HB0 := hide hb0
  clear hS hO hs ho hx hX1 hb0
  go_enter Tryz.func114, Tryz.ntmps114
  go_wp2
  rw [← hX0]
  clear hX0
  go_loopw [5, 12] (fun sv i wr => ∃ (k : Nat) (s : Int), k ≤ ns ∧ sv = .int .i64 s ∧ i = .int .i64 k ∧ Hid (s = sumC (S.take k)) ∧ Hid (Below X0.heap.size X0 wr)) (fun _ i _ => ns - (intOf i).toNat)
  case atStart => exact ⟨0, 0, Nat.zero_le _, rfl, rfl, rfl, Below.refl _ _⟩
  case round =>
    obtain ⟨k, s, hk, rfl, rfl, A, HB⟩ := hrel
    by_cases hlt : k < ns
    · have hlk : k < S.length := by rw [unhide HZS]; exact hlt
      obtain ⟨b, off, rfl, hbl, hcell⟩ := (unhide HS).2 (by omega)
      have hin := CoinAt.kept _ _ _ _ _ (unhide HB) (hcell k hlk)
      have b1 := (unhide HSB) k
      have b2 := (unhide HSB) (k + 1)
      have hst := sumC_take S k hlk
      obtain ⟨c, hc⟩ : ∃ c, S[k] = c := ⟨_, rfl⟩
      rw [hc] at hin hst
      obtain ⟨la, ln, lc, g0, g1, g2, g3, g4, g5, _, _⟩ := hin.val
      obtain ⟨v, hv⟩ : ∃ v, cv c = v := ⟨_, rfl⟩
      rw [hv] at g2 hst
      rw [← unhide A] at b1 hst
      rw [hst] at b2
      have A2 : Hid (s + v = sumC (S.take (k + 1))) := hst.symm
      have HB2 := hide (bel_on (unhide HB) (bel_new wr (.cells #[.int .i64 c.1, .int .i64 c.2.1, .int .i64 v, .slice la ln lc, .int .i64 (ch c), .bool (cr c)] 89)))
      have hw1 : IntKind.i64.wrap (s + v) = s + v := by rw [IntKind.wrap_i64]; omega
      clear hin hc hst A HB
      go_wp2
      go_roundw
      case rel => exact ⟨k + 1, s + v, by omega, rfl, by go_num, A2, HB2⟩
      case measure => simp [intOf]; omega
    · have e : k = ns := by omega
      subst e
      have A2 : Hid (s = sumC S) := by
        show _ = _
        rw [unhide A, List.take_of_length_le (by rw [unhide HZS]; exact Nat.le_refl _)]
      have b1 := (unhide HSB) k
      rw [← unhide A] at b1
      have hh := ((unhide HB).block _ (lt_of_block (unhide HX1))).trans (unhide HX1)
      have c2 := cell_of hh 2 _ rfl
      have hl := lt_of_block hh
      clear A hh
      go_wp2
      go_loopw [5, 25] (fun sv i wr2 => ∃ (j : Nat) (d : Int), j ≤ no ∧ sv = .int .i64 d ∧ i = .int .i64 j ∧ Hid (d = s - sumO (O.take j)) ∧ Hid (Below X0.heap.size X0 wr2)) (fun _ i _ => no - (intOf i).toNat)
      case atStart => exact ⟨0, s, Nat.zero_le _, rfl, rfl, (by simp [sumO] : s = s - sumO (O.take 0)), HB⟩
      case round =>
        obtain ⟨j, d, hj, rfl, rfl, D, HD⟩ := hrel
        clear HB
        have hbd := unhide HD
        by_cases hlt : j < no
        · have hlk : j < O.length := by rw [unhide HZO]; exact hlt
          obtain ⟨b, off, rfl, hbl, hcell⟩ := (unhide HO).2 (by omega)
          have hin := OutAt.kept _ _ _ _ _ hbd (hcell j hlk)
          have d1 := (unhide HOB) j
          have d2 := (unhide HOB) (j + 1)
          have hst := sumO_take O j hlk
          obtain ⟨o, hc⟩ : ∃ o, O[j] = o := ⟨_, rfl⟩
          rw [hc] at hin hst
          obtain ⟨q1, q2⟩ := o
          obtain ⟨g0, la, ln, lc, g1, _, _⟩ := hin
          simp only at g0 g1 hst
          have hd : d = s - sumO (O.take j) := unhide D
          have A3 : Hid (d - q1 = s - sumO (O.take (j + 1))) := by show _ = _; rw [hst]; omega
          have HB2 := hide (bel_on (unhide HD) (bel_new wr (.cells #[.int .i64 q1, .slice la ln lc] 85)))
          have hw1 : IntKind.i64.wrap (d - q1) = d - q1 := by rw [IntKind.wrap_i64]; omega
          clear hc hst D HD hd d1 d2 hbd
          go_wp2
          go_roundw
          case rel => exact ⟨j + 1, d - q1, by omega, rfl, by go_num, A3, HB2⟩
          case measure => simp [intOf]; omega
        · have e : j = no := by omega
          subst e
          have hd : d = sumC S - sumO O := by
            have := unhide D
            rw [List.take_of_length_le (by rw [unhide HZO]; exact Nat.le_refl _), unhide A2] at this
            exact this
          have hx := unhide HX
          rw [← hd] at hx
          have hh := (hbd.block _ (lt_of_block (unhide HX1))).trans (unhide HX1)
          have e0 := cell_of hh 0 _ rfl
          have e1 := cell_of hh 1 _ rfl
          have e2 := cell_of hh 2 _ rfl
          have hl2 := lt_of_block hh
          have HBD := hide (bel_on (unhide HB0) hbd)
          have IR := hide (fun w => isReward_is ht ai ao ni ci j co (decide (ni = 0)) w rfl)
          clear hh hbd D hd
          by_cases hneg : d < 0
          · cases hr : decide (ni = 0) with
            | true =>
              have R : Hid (x = 0) := by show _ = _; rw [← hx, if_neg (by rw [hr]; simp)]
              rw [hr] at IR
              clear hx hr
              go_wp2_with fail
              refine ((unhide IR) _).mono ?_
              rintro e w3 ⟨rfl, hb3⟩
              have HB3 := hide (bel_on (unhide HBD) hb3)
              clear hb3
              go_wp2
              go_ret
              exact ⟨by rw [unhide R]; rfl, unhide HB3⟩
            | false =>
              have R : Hid (x = 9) := by show _ = _; rw [← hx, if_pos ⟨hneg, hr⟩]
              rw [hr] at IR
              clear hx hr
              go_wp2_with fail
              refine ((unhide IR) _).mono ?_
              rintro e w3 ⟨rfl, hb3⟩
              have HB3 := hide (bel_on (unhide HBD) hb3)
              clear hb3
              go_wp2
              go_ret
              exact ⟨by rw [unhide R]; rfl, unhide HB3⟩
          · have R : Hid (x = 0) := by show _ = _; rw [← hx, if_neg (fun q => hneg q.1)]
            clear hx
            go_wp2
            go_ret
            exact ⟨by rw [unhide R]; rfl, unhide HBD⟩

end Go.Proofs.YtifhlohdidfbgaaGreatDoor

/- The contract of coversReward. -/
namespace Go.Proofs.YtifhlohdidfbgaaGreatDoor
open Go.RowKit

/-- Rows of undoings in memory. -/
def UndoAt (w : World) (b o : Nat) (s : List CoinD) : Prop := ∃ a n c, w.cell? ⟨b, o, none⟩ = some (.slice a n c) ∧ CoinsAt w a n s ∧ SlOk a n c
theorem UndoAt.kept {w w' : World} {b o : Nat} {s : List CoinD} (hb : Below w.heap.size w w') (h : UndoAt w b o s) : UndoAt w' b o s := by
  obtain ⟨a, n, c, h1, h2, h3⟩ := h
  exact ⟨a, n, c, cell_later hb h1, h2.later hb, h3⟩

/-- What is left behind the first k. -/
def leftD (r : Int) (T : List TxD) (S : List (List CoinD)) (k : Nat) : Int := r + sumC (S.take k).flatten - sumO ((T.take k).map (·.2.2)).flatten
theorem sumO_append (L M : List OutD) : sumO (L ++ M) = sumO L + sumO M := by simp [sumO]
theorem leftD_zero (r : Int) (T : List TxD) (S : List (List CoinD)) : leftD r T S 0 = r := by simp [leftD, sumC, sumO]
theorem leftD_succ (r : Int) (T : List TxD) (S : List (List CoinD)) (k : Nat) (hT : k < T.length) (hS : k < S.length) : leftD r T S (k + 1) = leftD r T S k + sumC S[k] - sumO T[k].2.2 := by
  unfold leftD
  rw [List.take_succ_eq_append_getElem hT, List.take_succ_eq_append_getElem hS, List.map_append, List.flatten_append, List.flatten_append, sumC_append, sumO_append]
  simp
  omega
theorem sumC_len (s : List CoinD) (h : s.length ≤ 6) (hc : ∀ c ∈ s, 0 ≤ cv c ∧ cv c ≤ 1000000000) : 0 ≤ sumC s ∧ sumC s ≤ 6000000000 := by
  have := sumC_bd s s.length hc
  rw [List.take_length] at this
  omega
theorem sumO_len (s : List OutD) (h : s.length ≤ 6) (hc : ∀ c ∈ s, 0 ≤ c.1 ∧ c.1 ≤ 1000000000) : 0 ≤ sumO s ∧ sumO s ≤ 6000000000 := by
  have := sumO_bd s s.length hc
  rw [List.take_length] at this
  omega

set_option maxRecDepth 10000 in
set_option maxHeartbeats 12800000 in
theorem coversR_is (p h k n : Int) (b off m c : Nat) (T : List TxD) (ub uo um uc : Nat) (S : List (List CoinD)) (r : Int) (o : Bool) (w : World) (hz : T.length = m) (hm : m ≤ 4) (hcT : ∀ i (h : i < T.length), TxAt w b (off + i * 3) T[i]) (hzS : S.length = m) (hum : um = m)
    (hcS : ∀ i (h : i < S.length), UndoAt w ub (uo + i) S[i]) (hT : ∀ t ∈ T, t.2.2.length ≤ 6 ∧ ∀ x ∈ t.2.2, 0 ≤ x.1 ∧ x.1 ≤ 1000000000) (hS : ∀ s ∈ S, s.length ≤ 6 ∧ ∀ x ∈ s, 0 ≤ cv x ∧ cv x ≤ 1000000000) (hr : rwD h = (r, 0)) (ho : decide (0 ≤ leftD r T S m) = o) :
    Calls Tryz.prog 59 #[.agg #[.int .i64 p, .int .i64 h, .int .i64 k, .int .i64 n, .slice (some ⟨b, off, none⟩) m c], .slice (some ⟨ub, uo, none⟩) um uc] w fun e w' => e = .returned (.bool o) ∧ Below w.heap.size w w' := by
  subst hum
  have hr64 : 0 ≤ r ∧ r ≤ 64 := by
    unfold rwD at hr
    split at hr
    · injection hr with e _
      have := rwN_le ((h - 1).toNat / 8)
      omega
    · injection hr with _ e; cases e
  obtain ⟨X, hX⟩ : ∃ X, X = w.alloc (.cells #[.int .i64 p, .int .i64 h, .int .i64 k, .int .i64 n, .slice (some ⟨b, off, none⟩) um c] 24) := ⟨_, rfl⟩
  have hbX : Below w.heap.size w X := by rw [hX]; exact bel_new _ _
  have hX1 : X.heap[w.heap.size]? = some (.cells [.int .i64 p, .int .i64 h, .int .i64 k, .int .i64 n, .slice (some ⟨b, off, none⟩) um c].toArray 24 (0, 0)) := by rw [hX]; exact five_heap _ _ _ _ _ _ _
  have RW := hide (fun W => reward_is h r 0 W hr)
  have HX1 := hide hX1
  have HBX := hide hbX
  have HCT : Hid (∀ i (h : i < T.length), TxAt X b (off + i * 3) T[i]) := fun i hi => TxAt.kept _ _ _ _ _ hbX (hcT i hi)
  have HCS : Hid (∀ i (h : i < S.length), UndoAt X ub (uo + i) S[i]) := fun i hi => (hcS i hi).kept hbX
  have HT := hide hT
  have HS := hide hS
  have HZ := hide hz
  have HZS := hide hzS
  have HO := hide ho
  clear hX1 hbX hcT hcS hT hS hz hzS ho hr
  go_enter Tryz.func59, Tryz.ntmps59
  go_wp2_with fail
  rw [← hX]
  clear hX
  refine ((unhide RW) _).mono ?_
  rintro e w1 ⟨rfl, hb1⟩
  have hx1 := (hb1.block _ (lt_of_block (unhide HX1))).trans (unhide HX1)
  have c4 := cell_of hx1 4 _ rfl
  have cl := lt_of_block hx1
  have HB1 := hide hb1
  clear hb1 hx1
  go_wp2
  go_loopw [5, 22] (fun sv i wr => ∃ (j : Nat) (d : Int), j ≤ um ∧ sv = .int .i64 d ∧ i = .int .i64 j ∧ Hid (d = leftD r T S j) ∧ -(6000000000 * (j : Int)) ≤ d ∧ d ≤ 64 + 6000000000 * (j : Int) ∧ Hid (Below X.heap.size X wr)) (fun _ i _ => um - (intOf i).toNat)
  case atStart => exact ⟨0, r, Nat.zero_le _, rfl, rfl, (leftD_zero r T S).symm, by omega, by omega, HB1⟩
  case round =>
    obtain ⟨j, d, hj, rfl, rfl, A, d1, d2, HBr⟩ := hrel
    clear c4 cl HB1
    by_cases hlt : j < um
    · have hlT : j < T.length := by rw [unhide HZ]; exact hlt
      have hlS : j < S.length := by rw [unhide HZS]; exact hlt
      have hin := TxAt.kept _ _ _ _ _ (unhide HBr) ((unhide HCT) j hlT)
      have hun := ((unhide HCS) j hlS).kept (unhide HBr)
      have bT := (unhide HT) T[j] (List.getElem_mem _)
      have bS := (unhide HS) S[j] (List.getElem_mem _)
      have ST := hide (leftD_succ r T S j hlT hlS)
      obtain ⟨t, ht⟩ : ∃ t, T[j] = t := ⟨_, rfl⟩
      obtain ⟨s, hs⟩ : ∃ s, S[j] = s := ⟨_, rfl⟩
      rw [ht] at hin bT ST
      rw [hs] at hun bS ST
      obtain ⟨t1, I, O⟩ := t
      obtain ⟨g0, ⟨ai, ni, ci, g1, hI, _⟩, ao, no, co, g2, hO, _⟩ := hin
      obtain ⟨sa, sn, sc, gs, hC, _⟩ := hun
      simp only at g0 g1 g2 hI hO bT ST
      obtain ⟨Y, hY⟩ : ∃ Y, Y = wr.alloc (.cells #[.int .i64 t1, .slice ai ni ci, .slice ao no co] 78) := ⟨_, rfl⟩
      have hbY : Below wr.heap.size wr Y := by rw [hY]; exact bel_new _ _
      have hY1 : Y.heap[wr.heap.size]? = some (.cells [.int .i64 t1, .slice ai ni ci, .slice ao no co].toArray 78 (0, 0)) := by rw [hY]; exact three_heap _ _ _ _ _
      have HY1 := hide hY1
      have HBY := hide (bel_on (unhide HBr) hbY)
      have HCY := hide (hC.later hbY)
      have HOY := hide (hO.later hbY)
      have gsY := cell_later hbY gs
      have gl := World.block_lt_of_cell? _ _ gs
      have glY := World.block_lt_of_cell? _ _ gsY
      have HSB := hide (fun k => sumC_bd s k bS.2)
      have HOB := hide (fun k => sumO_bd O k bT.2)
      have hsn : sn ≤ 6 := by rw [← hC.1]; exact bS.1
      have hno : no ≤ 6 := by rw [← hO.1]; exact bT.1
      have hjI : (j : Int) < (um : Int) := by omega
      clear hbY hY1 hI hO hC ht hs bT bS
      go_wp2_with fail
      rw [← hY]
      clear hY
      go_wp2
      go_loopw [5, 33] (fun sv i w2 => ∃ (k2 : Nat) (d2 : Int), k2 ≤ sn ∧ sv = .int .i64 d2 ∧ i = .int .i64 k2 ∧ Hid (d2 = d + sumC (s.take k2)) ∧ Hid (Below Y.heap.size Y w2)) (fun _ i _ => sn - (intOf i).toNat)
      case atStart => exact ⟨0, d, Nat.zero_le _, rfl, rfl, (by simp [sumC] : d = d + sumC (s.take 0)), (Below.refl _ _ : Below Y.heap.size Y Y)⟩
      case round =>
        obtain ⟨q, e, hq, rfl, rfl, D, HD⟩ := hrel
        clear g0 g1 g2 gs gsY gl glY
        by_cases hlt2 : q < sn
        · have hlk : q < s.length := by rw [(unhide HCY).1]; exact hlt2
          obtain ⟨b2, o2, rfl, _, hcell⟩ := (unhide HCY).2 (by omega)
          have hin := CoinAt.kept _ _ _ _ _ (unhide HD) (hcell q hlk)
          have b1 := (unhide HSB) q
          have b2' := (unhide HSB) (q + 1)
          have hst := sumC_take s q hlk
          obtain ⟨y, hy⟩ : ∃ y, s[q] = y := ⟨_, rfl⟩
          rw [hy] at hin hst
          obtain ⟨la, ln, lc, f0, f1, f2, f3, f4, f5, _, _⟩ := hin.val
          obtain ⟨v, hv⟩ : ∃ v, cv y = v := ⟨_, rfl⟩
          rw [hv] at f2 hst
          have hd : e = d + sumC (s.take q) := unhide D
          have A2 : Hid (e + v = d + sumC (s.take (q + 1))) := by show _ = _; rw [hst]; omega
          have HB2 := hide (bel_on (unhide HD) (bel_new wr (.cells #[.int .i64 y.1, .int .i64 y.2.1, .int .i64 v, .slice la ln lc, .int .i64 (ch y), .bool (cr y)] 89)))
          have hw1 : IntKind.i64.wrap (e + v) = e + v := by rw [IntKind.wrap_i64]; omega
          clear hin hy hst D HD hd b1 b2' hcell
          go_wp2
          go_roundw
          case rel => exact ⟨q + 1, e + v, by omega, rfl, by go_num, A2, HB2⟩
          case measure => simp [intOf]; omega
        · have e0 : q = sn := by omega
          subst e0
          have A2 : Hid (e = d + sumC s) := by
            show _ = _
            rw [unhide D, List.take_of_length_le (by rw [(unhide HCY).1]; exact Nat.le_refl _)]
          have b1 := (unhide HSB) q
          have eb : 0 ≤ e - d ∧ e - d ≤ 6000000000 := by
            have := unhide D
            omega
          have hh := ((unhide HD).block _ (lt_of_block (unhide HY1))).trans (unhide HY1)
          have f2 := cell_of hh 2 _ rfl
          have hl := lt_of_block hh
          clear D hh b1
          go_wp2
          go_loopw [5, 46] (fun sv i w3 => ∃ (k3 : Nat) (d3 : Int), k3 ≤ no ∧ sv = .int .i64 d3 ∧ i = .int .i64 k3 ∧ Hid (d3 = e - sumO (O.take k3)) ∧ Hid (Below Y.heap.size Y w3)) (fun _ i _ => no - (intOf i).toNat)
          case atStart => exact ⟨0, e, Nat.zero_le _, rfl, rfl, (by simp [sumO] : e = e - sumO (O.take 0)), HD⟩
          case round =>
            obtain ⟨u, g, hu, rfl, rfl, G, HG⟩ := hrel
            clear f2 hl HD
            by_cases hlt3 : u < no
            · have hlk : u < O.length := by rw [(unhide HOY).1]; exact hlt3
              obtain ⟨b3, o3, rfl, _, hcell⟩ := (unhide HOY).2 (by omega)
              have hin := OutAt.kept _ _ _ _ _ (unhide HG) (hcell u hlk)
              have x1 := (unhide HOB) u
              have x2 := (unhide HOB) (u + 1)
              have hst := sumO_take O u hlk
              obtain ⟨y, hy⟩ : ∃ y, O[u] = y := ⟨_, rfl⟩
              rw [hy] at hin hst
              obtain ⟨q1, q2⟩ := y
              obtain ⟨f0, la, ln, lc, f1, _, _⟩ := hin
              simp only at f0 f1 hst
              have hd : g = e - sumO (O.take u) := unhide G
              have A3 : Hid (g - q1 = e - sumO (O.take (u + 1))) := by show _ = _; rw [hst]; omega
              have HB2 := hide (bel_on (unhide HG) (bel_new wr (.cells #[.int .i64 q1, .slice la ln lc] 85)))
              have hw1 : IntKind.i64.wrap (g - q1) = g - q1 := by rw [IntKind.wrap_i64]; omega
              clear hy hst G HG hd x1 x2 hcell
              go_wp2
              go_roundw
              case rel => exact ⟨u + 1, g - q1, by omega, rfl, by go_num, A3, HB2⟩
              case measure => simp [intOf]; omega
            · have e1 : u = no := by omega
              subst e1
              have hd : g = e - sumO O := by
                have := unhide G
                rw [List.take_of_length_le (by rw [(unhide HOY).1]; exact Nat.le_refl _)] at this
                exact this
              have x1 := (unhide HOB) u
              rw [List.take_of_length_le (by rw [(unhide HOY).1]; exact Nat.le_refl _)] at x1
              have A4 : Hid (g = leftD r T S (j + 1)) := by
                show _ = _
                rw [unhide ST, ← unhide A, hd, unhide A2]
              have HBF := hide (bel_on (unhide HBY) (unhide HG))
              have y1 : -(6000000000 * ((j + 1 : Nat) : Int)) ≤ g := by omega
              have y2 : g ≤ 64 + 6000000000 * ((j + 1 : Nat) : Int) := by omega
              clear hd x1 G HG A A2 ST
              go_wp2
              go_roundw
              case rel => exact ⟨j + 1, g, by omega, rfl, by go_num, A4, y1, y2, HBF⟩
              case measure => simp [intOf]; omega
    · have e0 : j = um := by omega
      subst e0
      have HBF := hide (bel_on (unhide HBX) (unhide HBr))
      have ho := unhide HO
      rw [← unhide A] at ho
      clear A
      by_cases hp : 0 ≤ d
      · obtain rfl : true = o := by rw [← ho, decide_eq_true hp]
        clear ho
        go_wp2
        go_ret
        exact ⟨rfl, unhide HBF⟩
      · obtain rfl : false = o := by rw [← ho, decide_eq_false hp]
        clear ho
        go_wp2
        go_ret
        exact ⟨rfl, unhide HBF⟩

end Go.Proofs.YtifhlohdidfbgaaGreatDoor
