/- The law UnspentOrder answers true. -/
import Derived.Test.YtklpajhgfdpboaaCoinAnyO
namespace Go.Proofs.Ytklpajhgfdpboaa
open Go.RowKit

def sameQ (p : PtD) (y : InD) : Bool := decide (y.1 = p.1 ∧ y.2.1 = p.2)

set_option maxRecDepth 10000 in
set_option maxHeartbeats 800000 in
theorem order11_is (p : PtD) (y : InD) (b : Nat) (ka : Option Addr) (kn kc : Nat) (w : World) (h0 : w.cell? ⟨b, 0, none⟩ = some (.int .i64 p.1)) (h1 : w.cell? ⟨b, 1, none⟩ = some (.int .i64 p.2)) :
    Calls Try.prog 23 #[.agg #[.int .i64 y.1, .int .i64 y.2.1, .slice ka kn kc], .pointer (some ⟨b, 0, none⟩)] w fun e w' => e = .returned (.bool (sameQ p y)) ∧ Below w.heap.size w w' := by
  have HB := hide (bel_new w (.cells #[.int .i64 y.1, .int .i64 y.2.1, .slice ka kn kc] 54))
  have hb := World.block_lt_of_cell? _ _ h0
  obtain ⟨x1, x2⟩ := p
  obtain ⟨y1, y2, y3⟩ := y
  simp only at h0 h1 HB ⊢
  unfold sameQ
  simp only
  by_cases e1 : y1 = x1
  · subst e1
    by_cases e2 : y2 = x2
    · subst e2
      rw [decide_eq_true ⟨rfl, rfl⟩]
      go_enter Try.func23, Try.ntmps23
      go_wp2
      go_ret
      exact ⟨rfl, unhide HB⟩
    · rw [decide_eq_false (fun q => e2 q.2)]
      go_enter Try.func23, Try.ntmps23
      go_wp2
      go_ret
      exact ⟨rfl, unhide HB⟩
  · rw [decide_eq_false (fun q => e1 q.1)]
    go_enter Try.func23, Try.ntmps23
    go_wp2
    go_ret
    exact ⟨rfl, unhide HB⟩

set_option maxRecDepth 10000 in
set_option maxHeartbeats 800000 in
theorem order1_is (h : Int) (ai ao : Option Addr) (ni ci no co : Nat) (I : List InD) (p : PtD) (o : Bool) (w : World) (hI : InsAt w ai ni I) (hn : ni ≤ maxLen) (ho : I.any (sameQ p) = o) :
    Calls Try.prog 22 #[.agg #[.int .i64 h, .slice ai ni ci, .slice ao no co], .agg #[.int .i64 p.1, .int .i64 p.2]] w fun e w' => e = .returned (.bool o) ∧ Below w.heap.size w w' := by
  obtain ⟨X, hX⟩ : ∃ X, X = (w.alloc (.cells #[.int .i64 h, .slice ai ni ci, .slice ao no co] 46)).alloc (.cells #[.int .i64 p.1, .int .i64 p.2] 24) := ⟨_, rfl⟩
  have hbX : Below w.heap.size w X := by rw [hX]; exact bel_on (bel_new _ _) (bel_new _ _)
  have hX1 : X.heap[w.heap.size + 1]? = some (.cells [.int .i64 p.1, .int .i64 p.2].toArray 24 (0, 0)) := by
    rw [hX]
    have := heap_alloc_new (w.alloc (.cells #[.int .i64 h, .slice ai ni ci, .slice ao no co] 46)) (.cells #[.int .i64 p.1, .int .i64 p.2] 24)
    rw [show (w.alloc (.cells #[.int .i64 h, .slice ai ni ci, .slice ao no co] 46)).heap.size = w.heap.size + 1 by simp] at this
    exact this
  have C := hide (contains_order11 (sameQ p) (.pointer (some ⟨w.heap.size + 1, 0, none⟩)) ai ni ci I o X hn (hI.later hbX) (fun wr hb y ka kn kc => order11_is p y (w.heap.size + 1) ka kn kc wr (cell_later hb (cell_of hX1 0 _ rfl)) (cell_later hb (cell_of hX1 1 _ rfl))) ho)
  have HBX := hide hbX
  clear hI hbX hX1 hn
  go_enter Try.func22, Try.ntmps22
  go_wp2_with fail
  rw [← hX]
  clear hX
  refine (unhide C).mono ?_
  rintro e w2 ⟨rfl, hb2⟩
  have HB2 := hide (bel_on (unhide HBX) hb2)
  clear hb2
  go_wp2
  go_ret
  exact ⟨rfl, unhide HB2⟩

theorem sameQ_no {I' : List InD} {p : PtD} (h : I'.any (sameQ p) = false) : ∀ y ∈ I', p ≠ (y.1, y.2.1) := fun y hy e => by
  have := List.any_eq_false.1 h y hy
  exact this (decide_eq_true ⟨by rw [e], by rw [e]⟩)

set_option maxRecDepth 10000 in
set_option maxHeartbeats 25600000 in
theorem lawOrder_any (a : Option Addr) (n c : Nat) (L : List CoinD) (h : Int) (ai ao : Option Addr) (ni ci no co : Nat) (I : List InD) (O : List OutD) (g : Int) (bi bo : Option Addr) (mi di mo eo : Nat) (I' : List InD) (O' : List OutD) (na nb ht : Int) (w : World)
    (hL : CoinsAt w a n L) (sL : SlOk a n c) (hI : InsAt w ai ni I) (hO : OutsAt w ao no O) (sI : SlOk ai ni ci) (hI' : InsAt w bi mi I') (hO' : OutsAt w bo mo O') (sI' : SlOk bi mi di) :
    Calls Try.prog 6 #[.slice a n c, .agg #[.int .i64 h, .slice ai ni ci, .slice ao no co], .agg #[.int .i64 g, .slice bi mi di, .slice bo mo eo], .int .i64 na, .int .i64 nb, .int .i64 ht] w fun e w' => e = .returned (.bool true) ∧ Below w.heap.size w w' := by
  obtain ⟨X, hX⟩ : ∃ X, X = (w.alloc (.cells #[.int .i64 h, .slice ai ni ci, .slice ao no co] 46)).alloc (.cells #[.int .i64 g, .slice bi mi di, .slice bo mo eo] 46) := ⟨_, rfl⟩
  have hbX : Below w.heap.size w X := by rw [hX]; exact bel_on (bel_new _ _) (bel_new _ _)
  have hXt : X.heap[w.heap.size]? = some (.cells [.int .i64 h, .slice ai ni ci, .slice ao no co].toArray 46 (0, 0)) := by
    rw [hX, Below.heap_alloc _ _ _ (by simp)]; exact three_heap _ _ _ _ _
  have hXu : X.heap[w.heap.size + 1]? = some (.cells [.int .i64 g, .slice bi mi di, .slice bo mo eo].toArray 46 (0, 0)) := by
    rw [hX]
    have := heap_alloc_new (w.alloc (.cells #[.int .i64 h, .slice ai ni ci, .slice ao no co] 46)) (.cells #[.int .i64 g, .slice bi mi di, .slice bo mo eo] 46)
    rw [show (w.alloc (.cells #[.int .i64 h, .slice ai ni ci, .slice ao no co] 46)).heap.size = w.heap.size + 1 by simp] at this
    exact this
  obtain ⟨⟨x1, M, S⟩, h1⟩ : ∃ r, apD L (h, I, O) na ht = r := ⟨_, rfl⟩
  obtain ⟨⟨x2, N, S'⟩, h2⟩ : ∃ r, apD L (g, I', O') nb ht = r := ⟨_, rfl⟩
  obtain ⟨⟨x3, V, Z⟩, h3⟩ : ∃ r, apD M (g, I', O') nb ht = r := ⟨_, rfl⟩
  obtain ⟨⟨x4, U, Z'⟩, h4⟩ : ∃ r, apD N (h, I, O) na ht = r := ⟨_, rfl⟩
  have A1 := hide (apply_is a n c L h ai ao ni ci no co I O na ht x1 M S X (hL.later hbX) sL (hI.later hbX) (hO.later hbX) sI h1)
  have A2 := hide (fun W (hb : Below X.heap.size X W) => apply_is a n c L g bi bo mi di mo eo I' O' nb ht x2 N S' W ((hL.later hbX).later hb) sL ((hI'.later hbX).later hb) ((hO'.later hbX).later hb) sI' h2)
  have A3 := hide (fun am nm cm W (hb : Below X.heap.size X W) (hM : CoinsAt W am nm M) (sM : SlOk am nm cm) => apply_is am nm cm M g bi bo mi di mo eo I' O' nb ht x3 V Z W hM sM ((hI'.later hbX).later hb) ((hO'.later hbX).later hb) sI' h3)
  have A4 := hide (fun am nm cm W (hb : Below X.heap.size X W) (hM : CoinsAt W am nm N) (sM : SlOk am nm cm) => apply_is am nm cm N h ai ao ni ci no co I O na ht x4 U Z' W hM sM ((hI.later hbX).later hb) ((hO.later hbX).later hb) sI h4)
  have OF := hide (fun p (o : Bool) W (hb : Below X.heap.size X W) (ho : I'.any (sameQ p) = o) => order1_is g bi bo mi di mo eo I' p o W ((hI'.later hbX).later hb) sI'.len ho)
  have FIN : Hid (x1 = 0 → x2 = 0 → na ≠ nb → (∀ x ∈ I, (∀ y ∈ I', (x.1, x.2.1) ≠ (y.1, y.2.1)) ∧ x.1 ≠ na ∧ x.1 ≠ nb) → (∀ y ∈ I', y.1 ≠ na ∧ y.1 ≠ nb) → (x3 = 0 ∨ x3 = 12 ∨ x3 = 2) ∧ (x4 = 0 ∨ x4 = 12 ∨ x4 = 2) ∧ (x3 = 0 → x4 = 0 → V = U)) := fun e1 e2 e3 e4 e5 => by
    subst e1 e2
    exact ap_order h1 h2 e3 (fun x hx => (e4 x hx).1) (fun y hy => (e5 y hy).1) (fun x hx => (e4 x hx).2.2) h3 h4
  have TH := hide there_yes
  have HT := hide hXt
  have HU := hide hXu
  have HBX := hide hbX
  have HI := hide (hI.later hbX)
  have HJ := hide (hI'.later hbX)
  have x0 := cell_of hXt 0 _ rfl
  have x1' := cell_of hXt 1 _ rfl
  have x2' := cell_of hXt 2 _ rfl
  have hl0 := lt_of_block hXt
  have hni : ni ≤ maxLen := sI.len
  have hmi : mi ≤ maxLen := sI'.len
  unfold maxLen at hni hmi
  clear hL sL hI hO sI hI' hO' sI' h1 h2 h3 h4 hXt hXu hbX
  go_enter Try.func6, Try.ntmps6
  go_wp2_with fail
  rw [← hX]
  clear hX
  refine (unhide A1).mono ?_
  rintro e w1 ⟨am, nm, cm, sa, ns, cs, rfl, hM, sM, _, _, hb1⟩
  obtain ⟨Y, hY⟩ : ∃ Y, Y = w1.alloc (.cells #[.slice sa ns cs] 48) := ⟨_, rfl⟩
  have hbY : Below w1.heap.size w1 Y := by rw [hY]; exact bel_new _ _
  have hu1 := (hb1.block _ (lt_of_block (unhide HU))).trans (unhide HU)
  have k0 := cell_of hu1 0 _ rfl
  have k1 := cell_of hu1 1 _ rfl
  have k2 := cell_of hu1 2 _ rfl
  have luY := lt_of_block hu1
  have HM := hide (hM.later hbY)
  have HSM := hide sM
  have HXY := hide (bel_on hb1 hbY)
  have AA := hide ((unhide A2) Y (unhide HXY))
  clear hM sM hb1 hbY hu1 x0 x1' x2' hl0 A1 A2
  go_wp2_with fail
  rw [← hY]
  clear hY
  go_wp2_with fail
  refine (unhide AA).mono ?_
  rintro e w2 ⟨an, nn, cn, sb, nt, ct, rfl, hN, sN, _, _, hb2⟩
  obtain ⟨Q, hQ⟩ : ∃ Q, Q = w2.alloc (.cells #[.slice sb nt ct] 48) := ⟨_, rfl⟩
  have hbQ : Below w2.heap.size w2 Q := by rw [hQ]; exact bel_new _ _
  have HN := hide (hN.later hbQ)
  have HSN := hide sN
  have hYQ := bel_on hb2 hbQ
  have HMQ := hide ((unhide HM).later hYQ)
  have HXQ := hide (bel_on (unhide HXY) hYQ)
  have THQ := hide ((unhide TH) Q)
  clear hN sN hb2 hbQ hYQ AA HM HXY k0 k1 k2 luY
  go_wp2_with fail
  rw [← hQ]
  clear hQ
  refine (unhide THQ).mono ?_
  rintro e w3 ⟨rfl, hb3⟩
  have hX3 := bel_on (unhide HXQ) hb3
  have ht3 := (hX3.block _ (lt_of_block (unhide HT))).trans (unhide HT)
  have c1 := cell_of ht3 1 _ rfl
  have lt3 := lt_of_block ht3
  have HX3 := hide hX3
  have HM3 := hide ((unhide HMQ).later hb3)
  have HN3 := hide ((unhide HN).later hb3)
  have TH3 := hide ((unhide TH) w3)
  clear hb3 hX3 ht3 THQ HMQ HN HXQ
  by_cases e1 : x1 = 0
  · subst e1
    by_cases e2 : x2 = 0
    · subst e2
      by_cases e3 : na = nb
      · subst e3
        clear FIN
        go_wp2_with fail
        refine (unhide TH3).mono ?_
        rintro e w4 ⟨rfl, hb4⟩
        have HB4 := hide (bel_on (unhide HBX) (bel_on (unhide HX3) hb4))
        clear hb4
        go_wp2
        go_ret
        exact ⟨rfl, unhide HB4⟩
      · have FIN2 := hide ((unhide FIN) rfl rfl e3)
        have ne3 : (na == nb) = false := by simp [e3]
        clear FIN TH3 TH
        go_wp2
        go_loopw [65] (fun i wr => ∃ k : Nat, k ≤ ni ∧ i = .int .i64 k ∧ Hid (∀ x ∈ I.take k, (∀ y ∈ I', (x.1, x.2.1) ≠ (y.1, y.2.1)) ∧ x.1 ≠ na ∧ x.1 ≠ nb) ∧ Hid (Below w3.heap.size w3 wr)) (fun i _ => ni - (intOf i).toNat)
        case atStart => exact ⟨0, Nat.zero_le _, rfl, (fun x hx => (by simp at hx) : ∀ x ∈ I.take 0, _), (Below.refl _ _ : Below w3.heap.size w3 w3)⟩
        case round =>
          obtain ⟨k, hk, rfl, A, HWr⟩ := hrel
          have HXr := hide (bel_on (unhide HX3) (unhide HWr))
          by_cases hlt : k < ni
          · have hlk : k < I.length := by rw [(unhide HI).1]; exact hlt
            obtain ⟨b, off, rfl, hbl, hcell⟩ := (unhide HI).2 (by omega)
            have hin0 := hcell k hlk
            have T1 := hide (List.take_succ_eq_append_getElem hlk)
            obtain ⟨y, hy⟩ : ∃ y, I[k] = y := ⟨_, rfl⟩
            rw [hy] at hin0 T1
            obtain ⟨y1, y2, key⟩ := y
            obtain ⟨g1', g2', ka, kn, kc, g3', _, _⟩ := hin0
            have g1 := cell_later (unhide HXr) g1'
            have g2 := cell_later (unhide HXr) g2'
            have g3 := cell_later (unhide HXr) g3'
            clear g1' g2' g3' hcell hbl hy c1 lt3
            simp only at g1 g2 g3
            obtain ⟨R, hR⟩ : ∃ R, R = wr.alloc (.cells #[.int .i64 y1, .int .i64 y2, .slice ka kn kc] 54) := ⟨_, rfl⟩
            have hbR : Below wr.heap.size wr R := by rw [hR]; exact bel_new _ _
            have hR1 : R.heap[wr.heap.size]? = some (.cells [.int .i64 y1, .int .i64 y2, .slice ka kn kc].toArray 54 (0, 0)) := by rw [hR]; exact three_heap _ _ _ _ _
            have HXR := hide (bel_on (unhide HXr) hbR)
            have HWR := hide (bel_on (unhide HWr) hbR)
            have huR := ((unhide HXr).block _ (lt_of_block (unhide HU))).trans (unhide HU)
            have z0 := cell_of hR1 0 _ rfl
            have z1 := cell_of hR1 1 _ rfl
            have hzl := lt_of_block hR1
            have u0 := cell_of huR 0 _ rfl
            have u1 := cell_of huR 1 _ rfl
            have u2 := cell_of huR 2 _ rfl
            have hul := lt_of_block huR
            have HR1 := hide hR1
            obtain ⟨o, ho⟩ : ∃ o, I'.any (sameQ (y1, y2)) = o := ⟨_, rfl⟩
            have C := hide ((unhide OF) (y1, y2) o R (unhide HXR) ho)
            clear hbR hR1 huR
            cases o with
            | true =>
              clear ho A T1
              go_wp2_with fail
              rw [← hR]
              clear hR
              go_wp2_with fail
              refine (unhide C).mono ?_
              rintro e w5 ⟨rfl, hb5⟩
              have HB5 := hide (bel_on (unhide HBX) (bel_on (unhide HXR) hb5))
              clear hb5
              go_wp2
              go_ret
              exact ⟨rfl, unhide HB5⟩
            | false =>
              have NO := hide (sameQ_no ho)
              clear ho
              go_wp2_with fail
              rw [← hR]
              clear hR
              go_wp2_with fail
              refine (unhide C).mono ?_
              rintro e w5 ⟨rfl, hb5⟩
              have HB5 := hide (bel_on (unhide HBX) (bel_on (unhide HXR) hb5))
              have HW5 := hide (bel_on (unhide HWR) hb5)
              have hh5 := (hb5.block _ (lt_of_block (unhide HR1))).trans (unhide HR1)
              have v0 := cell_of hh5 0 _ rfl
              have hvl := lt_of_block hh5
              clear hb5 hh5 z0 z1 hzl u0 u1 u2 hul g1 g2 g3 C
              by_cases q1 : y1 = na
              · subst q1
                go_wp2
                go_ret
                exact ⟨rfl, unhide HB5⟩
              · have r1 : (y1 == na) = false := by simp [q1]
                by_cases q2 : y1 = nb
                · subst q2
                  clear q1
                  go_wp2
                  go_ret
                  exact ⟨rfl, unhide HB5⟩
                · have r2 : (y1 == nb) = false := by simp [q2]
                  have A' : Hid (∀ x ∈ I.take (k + 1), (∀ y ∈ I', (x.1, x.2.1) ≠ (y.1, y.2.1)) ∧ x.1 ≠ na ∧ x.1 ≠ nb) := by
                    show ∀ x ∈ I.take (k + 1), _
                    rw [unhide T1]
                    intro x hx
                    rcases List.mem_append.1 hx with hx | hx
                    · exact (unhide A) x hx
                    · rw [List.mem_singleton.1 hx]
                      exact ⟨unhide NO, q1, q2⟩
                  clear q1 q2 A T1 NO
                  go_wp2
                  go_roundw
                  case rel => exact ⟨k + 1, by omega, by go_num, A', HW5⟩
                  case measure => simp [intOf]; omega
          · have hkn : k = ni := by omega
            have FIN3 := hide ((unhide FIN2) (by
              have hq := unhide A
              rw [List.take_of_length_le (by rw [(unhide HI).1]; omega)] at hq
              exact hq))
            have hur := ((unhide HXr).block _ (lt_of_block (unhide HU))).trans (unhide HU)
            have r1 := cell_of hur 1 _ rfl
            have hrl := lt_of_block hur
            clear hur A c1 lt3 FIN2
            go_wp2
            go_loopw [92] (fun i wq => ∃ k : Nat, k ≤ mi ∧ i = .int .i64 k ∧ Hid (∀ y ∈ I'.take k, y.1 ≠ na ∧ y.1 ≠ nb) ∧ Hid (Below w3.heap.size w3 wq)) (fun i _ => mi - (intOf i).toNat)
            case atStart => exact ⟨0, Nat.zero_le _, rfl, (fun x hx => (by simp at hx) : ∀ x ∈ I'.take 0, _), HWr⟩
            case round =>
              obtain ⟨k2, hk2, rfl, A, HWq⟩ := hrel
              have HXq := hide (bel_on (unhide HX3) (unhide HWq))
              clear r1 hrl
              by_cases hlt2 : k2 < mi
              · have hlk : k2 < I'.length := by rw [(unhide HJ).1]; exact hlt2
                obtain ⟨b, off, rfl, hbl, hcell⟩ := (unhide HJ).2 (by omega)
                have hin0 := hcell k2 hlk
                have T1 := hide (List.take_succ_eq_append_getElem hlk)
                obtain ⟨y, hy⟩ : ∃ y, I'[k2] = y := ⟨_, rfl⟩
                rw [hy] at hin0 T1
                obtain ⟨y1, y2, key⟩ := y
                obtain ⟨g1', g2', ka, kn, kc, g3', _, _⟩ := hin0
                have g1 := cell_later (unhide HXq) g1'
                have g2 := cell_later (unhide HXq) g2'
                have g3 := cell_later (unhide HXq) g3'
                clear g1' g2' g3' hcell hbl hy
                simp only at g1 g2 g3
                have HBQ := hide (bel_on (unhide HBX) (bel_on (unhide HXq) (bel_new wr (.cells #[.int .i64 y1, .int .i64 y2, .slice ka kn kc] 54))))
                have HWQ := hide (bel_on (unhide HWq) (bel_new wr (.cells #[.int .i64 y1, .int .i64 y2, .slice ka kn kc] 54)))
                by_cases q1 : y1 = na
                · subst q1
                  go_wp2
                  go_ret
                  exact ⟨rfl, unhide HBQ⟩
                · have r1 : (y1 == na) = false := by simp [q1]
                  by_cases q2 : y1 = nb
                  · subst q2
                    clear q1
                    go_wp2
                    go_ret
                    exact ⟨rfl, unhide HBQ⟩
                  · have r2 : (y1 == nb) = false := by simp [q2]
                    have A' : Hid (∀ x ∈ I'.take (k2 + 1), x.1 ≠ na ∧ x.1 ≠ nb) := by
                      show ∀ x ∈ I'.take (k2 + 1), _
                      rw [unhide T1]
                      intro x hx
                      rcases List.mem_append.1 hx with hx | hx
                      · exact (unhide A) x hx
                      · rw [List.mem_singleton.1 hx]
                        exact ⟨q1, q2⟩
                    clear q1 q2 A T1
                    go_wp2
                    go_roundw
                    case rel => exact ⟨k2 + 1, by omega, by go_num, A', HWQ⟩
                    case measure => simp [intOf]; omega
              · obtain ⟨f3, f4, f5⟩ := (unhide FIN3) (by
                  have hq := unhide A
                  rw [List.take_of_length_le (by rw [(unhide HJ).1]; omega)] at hq
                  exact hq)
                have F5 := hide f5
                have F3 := hide f3
                have F4 := hide f4
                clear f3 f4 f5 FIN3 A
                have huq := ((unhide HXq).block _ (lt_of_block (unhide HU))).trans (unhide HU)
                have u0 := cell_of huq 0 _ rfl
                have u1 := cell_of huq 1 _ rfl
                have u2 := cell_of huq 2 _ rfl
                have hul := lt_of_block huq
                have AA := hide ((unhide A3) am nm cm _ (unhide HXq) ((unhide HM3).later (unhide HWq)) (unhide HSM))
                have HNq := hide ((unhide HN3).later (unhide HWq))
                clear huq A3
                go_wp2_with fail
                refine (unhide AA).mono ?_
                rintro e w6 ⟨av, nv, cv', s6, n6, c6, rfl, hV, sV, _, _, hb6⟩
                obtain ⟨D, hD⟩ : ∃ D, D = w6.alloc (.cells #[.slice s6 n6 c6] 48) := ⟨_, rfl⟩
                have hbD : Below w6.heap.size w6 D := by rw [hD]; exact bel_new _ _
                have hqD := bel_on hb6 hbD
                have HXD := hide (bel_on (unhide HXq) hqD)
                have htD := ((bel_on (unhide HXq) hb6).block _ (lt_of_block (unhide HT))).trans (unhide HT)
                have t0 := cell_of htD 0 _ rfl
                have t1 := cell_of htD 1 _ rfl
                have t2 := cell_of htD 2 _ rfl
                have htl := lt_of_block htD
                have HV := hide (hV.later hbD)
                have HSV := hide sV
                have AB := hide ((unhide A4) an nn cn D (unhide HXD) ((unhide HNq).later hqD) (unhide HSN))
                clear hV sV hb6 hbD hqD htD u0 u1 u2 hul AA A4
                go_wp2_with fail
                rw [← hD]
                clear hD
                go_wp2_with fail
                refine (unhide AB).mono ?_
                rintro e w7 ⟨au, nu, cu, s7, n7, c7, rfl, hU, sU, _, _, hb7⟩
                obtain ⟨E, hE⟩ : ∃ E, E = w7.alloc (.cells #[.slice s7 n7 c7] 48) := ⟨_, rfl⟩
                have hbE : Below w7.heap.size w7 E := by rw [hE]; exact bel_new _ _
                have hDE := bel_on hb7 hbE
                have HXE := hide (bel_on (unhide HBX) (bel_on (unhide HXD) hDE))
                have HVE := hide ((unhide HV).later hDE)
                have HUE := hide (hU.later hbE)
                clear hb7 hbE hDE hU sU t0 t1 t2 htl AB
                by_cases p3 : x3 = 0
                · subst p3
                  by_cases p4 : x4 = 0
                  · subst p4
                    have hVU := (unhide F5) rfl rfl
                    subst hVU
                    have SS := hide (uSame_is av au nv nu cv' cu V V true E (unhide HSV).len (unhide HVE) (unhide HUE) (sameL_yes rfl))
                    clear F3 F4 F5
                    go_wp2_with fail
                    rw [← hE]
                    clear hE
                    go_wp2_with fail
                    refine (unhide SS).mono ?_
                    rintro e w8 ⟨rfl, hb8⟩
                    have HB8 := hide (bel_on (unhide HXE) hb8)
                    clear hb8
                    go_wp2
                    go_ret
                    exact ⟨rfl, unhide HB8⟩
                  · rcases unhide F4 with p | p | p
                    · exact absurd p p4
                    · subst p
                      clear F3 F4 F5
                      go_wp2_with fail
                      rw [← hE]
                      clear hE
                      go_wp2
                      go_ret
                      exact ⟨rfl, unhide HXE⟩
                    · subst p
                      clear F3 F4 F5
                      go_wp2_with fail
                      rw [← hE]
                      clear hE
                      go_wp2
                      go_ret
                      exact ⟨rfl, unhide HXE⟩
                · rcases unhide F3 with p | p | p
                  · exact absurd p p3
                  · subst p
                    rcases unhide F4 with p | p | p
                    all_goals
                      subst p
                      clear F3 F4 F5
                      go_wp2_with fail
                      rw [← hE]
                      clear hE
                      go_wp2
                      go_ret
                      exact ⟨rfl, unhide HXE⟩
                  · subst p
                    rcases unhide F4 with p | p | p
                    all_goals
                      subst p
                      clear F3 F4 F5
                      go_wp2_with fail
                      rw [← hE]
                      clear hE
                      go_wp2
                      go_ret
                      exact ⟨rfl, unhide HXE⟩
    · have g2 : (x2 != 0) = true := by simp [e2]
      clear e2 FIN
      go_wp2_with fail
      refine (unhide TH3).mono ?_
      rintro e w4 ⟨rfl, hb4⟩
      have HB4 := hide (bel_on (unhide HBX) (bel_on (unhide HX3) hb4))
      clear hb4
      go_wp2
      go_ret
      exact ⟨rfl, unhide HB4⟩
  · have g1 : (x1 != 0) = true := by simp [e1]
    clear e1 FIN
    go_wp2_with fail
    refine (unhide TH3).mono ?_
    rintro e w4 ⟨rfl, hb4⟩
    have HB4 := hide (bel_on (unhide HBX) (bel_on (unhide HX3) hb4))
    clear hb4
    go_wp2
    go_ret
    exact ⟨rfl, unhide HB4⟩

end Go.Proofs.Ytklpajhgfdpboaa
