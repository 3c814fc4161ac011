/- The contract of spend. -/
import Derived.Test.YtmomfkikogbdeaaGreatDoorLockRunCToCoinSpend
import Derived.Test.YtmomfkikogbdeaaGreatDoorLockMathToLockRow
namespace Go.Proofs.YtmomfkikogbdeaaGreatDoor
open Go.RowKit

theorem three_heap (w : World) (a b c : Value) (t : TypeId) : (w.alloc (.cells #[a, b, c] t)).heap[w.heap.size]? = some (.cells [a, b, c].toArray t (0, 0)) := heap_alloc_new w _

/-- What spend leaves: what was spent, in a row of its own, and what is left. -/
def Spent (w0 w' : World) (p ni : Nat) (K : List CV) (S M : List CoinD) (a' : Option Addr) (n' c' : Nat) : Prop :=
  ∃ (v' : Value) (K' T : List CV), T.map (·.1) = S ∧ K'.map (·.1) = M ∧ Srt M ∧ K'.length ≤ K.length ∧ n' = T.length ∧ T.length = ni ∧ w'.ownsRow w0.heap.size 124 6 (.slice a' n' c') n' (flatC T) ∧ (∀ z ∈ T, LkAt w0 z) ∧ (∀ z ∈ K', z ∈ K) ∧ (∀ z ∈ T, z ∈ K) ∧ Pu w0 w' p v' K' ∧ (∃ s, (Value.slice a' n' c').ownBlock = some s ∧ v'.ownBlock ≠ some s ∧ s ≠ p)

set_option maxRecDepth 10000 in
set_option maxHeartbeats 12800000 in
theorem spend_is (w0 w : World) (p : Nat) (v : Value) (K : List CV) (ai : Option Addr) (ni ci : Nat) (I : List InD) (h : Int) (x : Int) (S M : List CoinD) (hP : Pu w0 w p v K) (hs : Srt (K.map (·.1))) (hn : K.length ≤ 4096) (hr : ∀ z ∈ K, ck1 z.1 = 0) (hI : InsAt w0 ai ni I) (hni : ni ≤ 6) (hx : spendGo h I [] (K.map (·.1)) = (x, S, M)) :
    Calls Tryz.prog 146 #[.pointer (some ⟨p, 0, none⟩), .slice ai ni ci, .int .i64 h] w fun e w' => ∃ a' n' c', e = .returned (.tuple #[.slice a' n' c', .int .i64 x]) ∧ Below w0.heap.size w0 w' ∧
      (x = 0 → Spent w0 w' p ni K S M a' n' c') := by
  obtain ⟨i0, hi0, hz0, hz1, hz2⟩ := info_parts Tryz.infoCoin
  have hB : w0.heap.size ≤ w.heap.size := hP.bel.size
  have hpw : p < w.heap.size := hP.lt
  have HP := hide hP
  have HS := hide hs
  have HR := hide hr
  have HI := hide hI
  have HZ := hide hI.1
  have HX := hide hx
  clear hP hs hr hI hx
  go_enter Tryz.func146, Tryz.ntmps146
  go_wp2_with (at_make; refine wpList_make_full _ rfl _ _ 29 rfl w0.heap.size 124 i0 zeroC 6 Tryz.underlying29 hi0 hz0 hz1 .i64 .i64 _ _ ni rfl rfl rfl rfl (by rw [hz2]; omega) (by unfold maxLen; omega) hB ?_; intro w2 hown2 hgrow2)
  rw [made_zero] at hown2
  have hbw2 : Below w.heap.size w w2 := (Below.refl _ _).grown hgrow2 (Nat.le_refl _) (fun k h => by cases h)
  have hs2 : w.heap.size < w2.heap.size := (hown2.lt w.heap.size rfl).2
  have ST : Hid (Pu w0 w2 p v K ∧ w2.ownsRow w0.heap.size 124 6 (.slice (some ⟨w.heap.size, 0, none⟩) ni ni) ni (flatC ([] ++ List.replicate (ni - 0) zeroCV)) ∧ v.ownBlock ≠ some w.heap.size) :=
    ⟨(unhide HP).kept hbw2, hown2, fun e => by have := ((unhide HP).own.lt _ e).2; omega⟩
  clear hown2 hgrow2 hbw2
  go_loopw [20] (fun i wr => ∃ (k : Nat) (T K' : List CV) (v' : Value), k ≤ ni ∧ i = .int .i64 k ∧ Hid (spendGo h I [] (K.map (·.1)) = spendGo h (I.drop k) (T.map (·.1)) (K'.map (·.1))) ∧ Hid (Srt (K'.map (·.1))) ∧ K'.length ≤ K.length ∧ Hid (T.length = k) ∧ Hid ((∀ z ∈ K', z ∈ K) ∧ (∀ z ∈ T, z ∈ K)) ∧
    Hid (Pu w0 wr p v' K') ∧ Hid (wr.ownsRow w0.heap.size 124 6 (.slice (some ⟨w.heap.size, 0, none⟩) ni ni) ni (flatC (T ++ List.replicate (ni - k) zeroCV))) ∧ Hid (∀ z ∈ T, LkAt w0 z) ∧ Hid (v'.ownBlock ≠ some w.heap.size) ∧ w.heap.size < wr.heap.size) (fun i _ => ni - (intOf i).toNat)
  case atStart => exact ⟨0, [], K, v, Nat.zero_le _, rfl, rfl, HS, Nat.le_refl _, rfl, ⟨fun z hz => hz, fun z hz => (by cases hz)⟩, (unhide ST).1, (unhide ST).2.1, (fun z hz => (by cases hz) : ∀ z ∈ ([] : List CV), LkAt w0 z), (unhide ST).2.2, hs2⟩
  case round =>
    obtain ⟨k, T, K', v', hk, rfl, A, HS', hKl, HT, HSub, HP', HO', HL, HNE, hsr⟩ := hrel
    clear ST HS
    by_cases hlt : k < ni
    · have hlk : k < I.length := by rw [unhide HZ]; exact hlt
      obtain ⟨b, off, rfl, hbl, hcell⟩ := (unhide HI).2 (by omega)
      have hin0 := hcell k hlk
      have E1 := hide (spendGo_none h I k hlk (T.map (·.1)) (K'.map (·.1)))
      have E2 := hide (spendGo_late h I k hlk (T.map (·.1)) (K'.map (·.1)))
      have E3 := hide (spendGo_key h I k hlk (T.map (·.1)) (K'.map (·.1)))
      have E4 := hide (spendGo_on h I k hlk (T.map (·.1)) (K'.map (·.1)))
      obtain ⟨y, hy⟩ : ∃ y, I[k] = y := ⟨_, rfl⟩
      rw [hy] at hin0 E1 E2 E3 E4
      obtain ⟨y1, y2, key⟩ := y
      obtain ⟨g1', g2', ka, kn, kc, g3', g4, _⟩ := hin0
      have g1 := cell_later (unhide HP').bel g1'
      have g2 := cell_later (unhide HP').bel g2'
      have g3 := cell_later (unhide HP').bel g3'
      have HKEY : Hid (OpsAt w0 ka kn key) := g4
      clear g1' g2' g3' g4
      simp only at g1 g2 g3 E1 E2 E3 E4
      obtain ⟨X, hX⟩ : ∃ X, X = wr.alloc (.cells #[.int .i64 y1, .int .i64 y2, .slice ka kn kc] 119) := ⟨_, rfl⟩
      have hbX : Below wr.heap.size wr X := by rw [hX]; exact bel_new _ _
      have hX1 : X.heap[wr.heap.size]? = some (.cells [.int .i64 y1, .int .i64 y2, .slice ka kn kc].toArray 119 (0, 0)) := by rw [hX]; exact three_heap _ _ _ _ _
      have hPX := (unhide HP').kept hbX
      have hOX := (Gr.of (S := fun _ => False) hbX).own (unhide HO') (fun _ _ q => q)
      have x0 := cell_of hX1 0 _ rfl
      have x1 := cell_of hX1 1 _ rfl
      have hxl : wr.heap.size < X.heap.size := lt_of_block hX1
      have HX1 := hide hX1
      have HPX := hide hPX
      have HOX := hide hOX
      have hpr : p < wr.heap.size := (unhide HP').lt
      cases hf : hasP (y1, y2) (K'.map (·.1)) with
      | false =>
        have C := hide (ptake_none w0 X p v' K' (y1, y2) hPX (unhide HS') (by omega) hf)
        have R : Hid (x = 7) := by
          have e := unhide A
          rw [(unhide E1) (takeD_none hf), unhide HX] at e
          injection e
        clear E1 E2 E3 E4 hbX hX1 hPX hOX hf hy A
        go_wp2_with fail
        rw [← hX]
        clear hX
        go_wp2_with fail
        refine (unhide C).mono ?_
        rintro e w3 ⟨rfl, hb3⟩
        have HB3 := hide (((unhide HPX).kept hb3).bel)
        unfold zeroC
        clear hb3
        go_wp2
        go_ret2
        exact ⟨_, _, _, by rw [unhide R]; rfl, bel_on (unhide HB3) (bel_new _ _), fun e => absurd e (by rw [unhide R]; decide)⟩
      | true =>
        have C := hide (ptake_some w0 X p v' K' (y1, y2) hPX (unhide HS') (by omega) hf)
        clear hbX hX1 hPX hOX hf hy
        go_wp2_with fail
        rw [← hX]
        clear hX
        go_wp2_with fail
        refine (unhide C).mono ?_
        rintro e w3 ⟨z, v3, K3, rfl, ht, hzm, hsub, hlen, hP3, hG3, hv3⟩
        have hzK : z ∈ K := (unhide HSub).1 z hzm
        have hzr := ck1_zero ((unhide HR) z hzK)
        have hzl := (unhide HP').lk z hzm
        have hch1 : 1 ≤ ch z.1 := hzr.2.2.2.2.2.2.1
        have hch2 : ch z.1 ≤ 1000 := hzr.2.2.2.2.2.2.2.1
        have hsrt3 := takeD_srt ht (unhide HS')
        have hnS : ¬ PuS p v' wr.heap.size := by
          rintro (e | e)
          · omega
          · have := ((unhide HP').own.lt _ e).2; omega
        have hh3 := hG3.heap (unhide HX1) hnS
        have hnS2 : ¬ PuS p v' w.heap.size := by
          rintro (e | e)
          · omega
          · exact (unhide HNE) e
        have hO3 := hG3.own (unhide HOX) (fun q hq => by cases hq; exact hnS2)
        have E2' := hide ((unhide E2) _ _ ht)
        have E3' := hide ((unhide E3) _ _ ht)
        have E4' := hide ((unhide E4) _ _ ht)
        obtain ⟨Y, hY⟩ : ∃ Y, Y = w3.alloc (.cells #[.int .i64 z.1.1, .int .i64 z.1.2.1, .int .i64 (cv z.1), .slice z.2.1 z.2.2.1 z.2.2.2, .int .i64 (ch z.1), .bool (cr z.1)] 124) := ⟨_, rfl⟩
        have hbY : Below w3.heap.size w3 Y := by rw [hY]; exact bel_new _ _
        have hY1 : Y.heap[w3.heap.size]? = some (.cells (sixV z).toArray 124 (0, 0)) := by rw [hY]; exact six_heap _ _ _ _ _ _ _ _
        have hPY := hP3.kept hbY
        have hOY := (Gr.of (S := fun _ => False) hbY).own hO3 (fun _ _ q => q)
        have hhY := (hbY.block _ (lt_of_block hh3)).trans hh3
        have hw3r : wr.heap.size < w3.heap.size := lt_of_block hh3
        have hyl : w3.heap.size < Y.heap.size := lt_of_block hY1
        have q2 := cell_of hhY 2 _ rfl
        have q3 := cell_of hh3 2 _ rfl
        have r3 := cell_of hY1 3 _ rfl
        have r4 := cell_of hY1 4 _ rfl
        have r5 := cell_of hY1 5 _ rfl
        have OP := hide (fun bb xx hb hx => opens_at z.2.1 ka z.2.2.1 z.2.2.2 kn kc (ck z.1) key h bb xx Y (hzl.1.later hPY.bel) ((unhide HKEY).later hPY.bel) hb hx)
        by_cases hla : cr z.1 = true ∧ h < ch z.1 + 2
        · have R : Hid (x = 10) := by
            have e := unhide A
            rw [(unhide E2') hla, unhide HX] at e
            injection e
          have hc1 : cr z.1 = true := hla.1
          have hc2 : h < ch z.1 + 2 := hla.2
          have HBY := hide hPY.bel
          rw [hc1] at hY r5
          unfold cnV
          rw [hc1]
          clear E1 E2 E3 E4 E2' E3' E4' A hla C hbY hY1 hPY hOY hhY hP3 hG3 hO3 hh3 ht hsub hsrt3 hzl hzr hnS hnS2 q2 r3 g1 g2 g3 x0 x1
          go_wp2_with fail
          rw [← hY]
          clear hY
          go_wp2
          go_ret2
          exact ⟨_, _, _, by rw [unhide R]; rfl, unhide HBY, fun e => absurd e (by rw [unhide R]; decide)⟩
        · have hD : Hid ((cr z.1 && decide (h < ch z.1 + 2)) = false) := by
            show _ = _
            rw [Bool.and_eq_false_iff, decide_eq_false_iff_not]
            cases q : cr z.1 with
            | true => exact .inr fun e => hla ⟨q, e⟩
            | false => exact .inl rfl
          obtain ⟨bb, hbb⟩ : ∃ bb, opensB (ck z.1) key h = bb := ⟨_, rfl⟩
          obtain ⟨xx, hxx⟩ : ∃ xx, opensE (ck z.1) key h = xx := ⟨_, rfl⟩
          have OP2 := hide ((unhide OP) bb xx hbb hxx)
          have HPY := hide hPY
          have HOY := hide hOY
          have HY1 := hide hY1
          have hv3s : v3.ownBlock ≠ some w.heap.size := by rw [hv3]; exact unhide HNE
          have HV3 := hide hv3s
          have HS3 := hide hsrt3
          have HSUB := hide hsub
          have HZL := hide hzl
          have HZK := hide hzK
          have HHY := hide hhY
          obtain ⟨hd, hdd⟩ : ∃ hd, ch z.1 = hd := ⟨_, rfl⟩
          obtain ⟨rr, hrr⟩ : ∃ rr, cr z.1 = rr := ⟨_, rfl⟩
          cases bb with
          | false =>
            have R : Hid (x = 8) := by
              have e := unhide A
              rw [(unhide E3') hla hbb, unhide HX] at e
              injection e
            unfold cnV
            rw [hdd] at hD hY r4 hch1 hch2 ⊢
            rw [hrr] at hD hY r5 ⊢
            clear E1 E2 E3 E4 E2' E3' E4' A hla C hbY hY1 hPY hOY hhY hP3 hG3 hO3 hh3 ht hsub hsrt3 hzl hzr hnS hnS2 g1 g2 g3 x0 x1 OP hbb hxx hv3s hdd hrr
            cases rr with
            | false =>
              clear hD
              go_wp2_with fail
              rw [← hY]
              clear hY
              refine (unhide OP2).mono ?_
              rintro e w5 ⟨rfl, hb5⟩
              have HB5 := hide ((unhide HPY).kept hb5).bel
              clear hb5
              go_wp2
              go_ret2
              exact ⟨_, _, _, by rw [unhide R]; rfl, unhide HB5, fun e => absurd e (by rw [unhide R]; decide)⟩
            | true =>
              have hD2 : ¬ (h < hd + 2) := by have := unhide hD; simpa using this
              clear hD
              go_wp2_with fail
              rw [← hY]
              clear hY
              refine (unhide OP2).mono ?_
              rintro e w5 ⟨rfl, hb5⟩
              have HB5 := hide ((unhide HPY).kept hb5).bel
              clear hb5
              go_wp2
              go_ret2
              exact ⟨_, _, _, by rw [unhide R]; rfl, unhide HB5, fun e => absurd e (by rw [unhide R]; decide)⟩
          | true =>
            have hxx0 : xx = 0 := by rw [← hxx]; exact opensB_E hbb
            subst hxx0
            have A2 : Hid (spendGo h I [] (K.map (·.1)) = spendGo h (I.drop (k + 1)) ((T ++ [z]).map (·.1)) (K3.map (·.1))) := by
              show _ = _
              rw [unhide A, (unhide E4') hla hbb, List.map_append]; rfl
            have HR' : Hid (T ++ List.replicate (ni - k) zeroCV = T ++ zeroCV :: List.replicate (ni - (k + 1)) zeroCV) := by
              show _ = _
              rw [show ni - k = (ni - (k + 1)) + 1 by omega, List.replicate_succ]
            have HLEN : Hid (K3.length ≤ K.length) := by show _ ≤ _; omega
            have hkI : (k : Int) < (ni : Int) := by omega
            unfold cnV
            rw [hdd] at hD hY r4 hch1 hch2 ⊢
            rw [hrr] at hD hY r5 ⊢
            have HDD := hide hdd
            have HRR := hide hrr
            clear E1 E2 E3 E4 E2' E3' E4' A hla C hbY hY1 hPY hOY hhY hP3 hG3 hO3 hh3 ht hsub hsrt3 hzl hzr hnS hnS2 g1 g2 g3 x0 x1 OP hbb hxx hv3s hdd hrr
            have TAIL : Hid (∀ w5, Below Y.heap.size Y w5 → (w5.cell? ⟨w3.heap.size, 0, none⟩ = some (.int .i64 z.1.1) ∧ w5.cell? ⟨w3.heap.size, 1, none⟩ = some (.int .i64 z.1.2.1) ∧ w5.cell? ⟨w3.heap.size, 2, none⟩ = some (.int .i64 (cv z.1)) ∧ w5.cell? ⟨w3.heap.size, 3, none⟩ = some (.slice z.2.1 z.2.2.1 z.2.2.2) ∧ w5.cell? ⟨w3.heap.size, 4, none⟩ = some (.int .i64 hd) ∧ w5.cell? ⟨w3.heap.size, 5, none⟩ = some (.bool rr)) ∧
                (∃ u0 u1 u2 u3 u4 u5, w5.cell? ⟨w.heap.size, k * 6, none⟩ = some u0 ∧ w5.cell? ⟨w.heap.size, k * 6 + 1, none⟩ = some u1 ∧ w5.cell? ⟨w.heap.size, k * 6 + 2, none⟩ = some u2 ∧ w5.cell? ⟨w.heap.size, k * 6 + 3, none⟩ = some u3 ∧ w5.cell? ⟨w.heap.size, k * 6 + 4, none⟩ = some u4 ∧ w5.cell? ⟨w.heap.size, k * 6 + 5, none⟩ = some u5) ∧ (∀ j, w5.frozen? ⟨w.heap.size, j, none⟩ = false) ∧ w.heap.size < w5.heap.size ∧
                Hid (∃ (T' K' : List CV) (v' : Value), Hid (spendGo h I [] (K.map (·.1)) = spendGo h (I.drop (k + 1)) (T'.map (·.1)) (K'.map (·.1))) ∧ Hid (Srt (K'.map (·.1))) ∧ K'.length ≤ K.length ∧ Hid (T'.length = k + 1) ∧ Hid ((∀ z ∈ K', z ∈ K) ∧ (∀ z ∈ T', z ∈ K)) ∧
                  Hid (Pu w0 ((((((w5.setCell ⟨w.heap.size, k * 6, none⟩ (.int .i64 z.1.1)).setCell ⟨w.heap.size, k * 6 + 1, none⟩ (.int .i64 z.1.2.1)).setCell ⟨w.heap.size, k * 6 + 2, none⟩ (.int .i64 (cv z.1))).setCell ⟨w.heap.size, k * 6 + 3, none⟩ (.slice z.2.1 z.2.2.1 z.2.2.2)).setCell ⟨w.heap.size, k * 6 + 4, none⟩ (.int .i64 hd)).setCell ⟨w.heap.size, k * 6 + 5, none⟩ (.bool rr)) p v' K') ∧
                  Hid (((((((w5.setCell ⟨w.heap.size, k * 6, none⟩ (.int .i64 z.1.1)).setCell ⟨w.heap.size, k * 6 + 1, none⟩ (.int .i64 z.1.2.1)).setCell ⟨w.heap.size, k * 6 + 2, none⟩ (.int .i64 (cv z.1))).setCell ⟨w.heap.size, k * 6 + 3, none⟩ (.slice z.2.1 z.2.2.1 z.2.2.2)).setCell ⟨w.heap.size, k * 6 + 4, none⟩ (.int .i64 hd)).setCell ⟨w.heap.size, k * 6 + 5, none⟩ (.bool rr)).ownsRow w0.heap.size 124 6 (.slice (some ⟨w.heap.size, 0, none⟩) ni ni) ni (flatC (T' ++ List.replicate (ni - (k + 1)) zeroCV))) ∧ Hid (∀ z ∈ T', LkAt w0 z) ∧ Hid (v'.ownBlock ≠ some w.heap.size) ∧
                  w.heap.size < ((((((w5.setCell ⟨w.heap.size, k * 6, none⟩ (.int .i64 z.1.1)).setCell ⟨w.heap.size, k * 6 + 1, none⟩ (.int .i64 z.1.2.1)).setCell ⟨w.heap.size, k * 6 + 2, none⟩ (.int .i64 (cv z.1))).setCell ⟨w.heap.size, k * 6 + 3, none⟩ (.slice z.2.1 z.2.2.1 z.2.2.2)).setCell ⟨w.heap.size, k * 6 + 4, none⟩ (.int .i64 hd)).setCell ⟨w.heap.size, k * 6 + 5, none⟩ (.bool rr)).heap.size)) := by
              intro w5 hb5
              have hy5 := (hb5.block _ (lt_of_block (unhide HY1))).trans (unhide HY1)
              have hP5 := (unhide HPY).kept hb5
              have hO5 := (Gr.of (S := fun _ => False) hb5).own (unhide HOY) (fun _ _ q => q)
              rw [unhide HR'] at hO5
              have hTk := unhide HT
              have hat : ∀ j, j < 6 → w5.cell? ⟨w.heap.size, k * 6 + j, none⟩ = (sixV zeroCV)[j]? := fun j hj => by
                rw [World.ownsRow.cellAt hO5 _ (by omega), ← hTk, flatC_mid_at _ _ _ j hj]
              refine ⟨⟨cell_of hy5 0 _ rfl, cell_of hy5 1 _ rfl, cell_of hy5 2 _ rfl, cell_of hy5 3 _ rfl, by rw [← unhide HDD]; exact cell_of hy5 4 _ rfl, by rw [← unhide HRR]; exact cell_of hy5 5 _ rfl⟩,
                ⟨_, _, _, _, _, _, (hat 0 (by decide)).trans rfl, (hat 1 (by decide)).trans rfl, (hat 2 (by decide)).trans rfl, (hat 3 (by decide)).trans rfl, (hat 4 (by decide)).trans rfl, (hat 5 (by decide)).trans rfl⟩, fun j => hO5.frozenAt j, (hO5.lt _ rfl).2, ?_⟩
              have hG := (Gr.refl w5 (fun q => q = w.heap.size)).sixAt w.heap.size (k * 6) (.inl rfl) (.int .i64 z.1.1) (.int .i64 z.1.2.1) (.int .i64 (cv z.1)) (.slice z.2.1 z.2.2.1 z.2.2.2) (.int .i64 hd) (.bool rr)
              have hO6 := stored6 hO5 (k * 6) (.int .i64 z.1.1) (.int .i64 z.1.2.1) (.int .i64 (cv z.1)) (.slice z.2.1 z.2.2.1 z.2.2.2) (.int .i64 hd) (.bool rr)
              rw [← unhide HDD, ← unhide HRR] at hO6 hG ⊢
              have hset := flatC_mid_set T (List.replicate (ni - (k + 1)) zeroCV) zeroCV z
              rw [hTk] at hset
              rw [hset] at hO6
              refine ⟨T ++ [z], K3, v3, A2, HS3, unhide HLEN, ?_, ?_, ?_, ?_, ?_, HV3, Nat.lt_of_lt_of_le (hO5.lt _ rfl).2 hG.size⟩
              · show _ = _; rw [List.length_append, hTk]; rfl
              · refine ⟨fun q hq => (unhide HSub).1 q ((unhide HSUB) q hq), fun q hq => ?_⟩
                rcases List.mem_append.1 hq with hq | hq
                · exact (unhide HSub).2 q hq
                · rw [List.mem_singleton.1 hq]; exact unhide HZK
              · refine ⟨hG.below hP5.bel hP5.bel.size (fun q hq => by rw [hq]; exact hB), hP5.ge, hG.heap hP5.box (by omega), hG.own hP5.own (fun q hq e => (unhide HV3) (by rw [hq, e])), hP5.ne, hP5.lk⟩
              · show World.ownsRow _ _ _ _ _ _ _
                rw [List.append_assoc]
                exact hO6
              · intro q hq
                rcases List.mem_append.1 hq with hq | hq
                · exact (unhide HL) q hq
                · rw [List.mem_singleton.1 hq]; exact unhide HZL
            cases rr with
            | false =>
              clear hD
              go_wp2_with fail
              rw [← hY]
              clear hY
              refine (unhide OP2).mono ?_
              rintro e w5 ⟨rfl, hb5⟩
              obtain ⟨⟨s0, s1, s2, s3, s4, s5⟩, ⟨u0, u1, u2, u3, u4, u5, t0, t1, t2, t3, t4, t5⟩, hfz, hsl5, HEND⟩ := (unhide TAIL) w5 hb5
              have z0 := hfz (k * 6)
              have z1 := hfz (k * 6 + 1)
              have z2 := hfz (k * 6 + 2)
              have z3 := hfz (k * 6 + 3)
              have z4 := hfz (k * 6 + 4)
              have z5 := hfz (k * 6 + 5)
              have hb5s := hb5.size
              have m5 : w3.heap.size < w5.heap.size := World.block_lt_of_cell? _ _ s0
              have n1 : ¬ (w3.heap.size = w.heap.size) := by omega
              have n2 : ¬ (w.heap.size = w3.heap.size) := by omega
              clear hb5 hfz TAIL OP2 q2 q3 r3 r4 r5
              go_wp2
              go_roundw
              case rel =>
                obtain ⟨T', K', v', f1, f2, f3, f4, f5, f6, f7, f8, f9, f10⟩ := unhide HEND
                exact ⟨k + 1, T', K', v', by omega, by go_num, f1, f2, f3, f4, f5, f6, f7, f8, f9, f10⟩
              case measure => simp [intOf]; omega
            | true =>
              have hD2 : ¬ (h < hd + 2) := by have := unhide hD; simpa using this
              clear hD
              go_wp2_with fail
              rw [← hY]
              clear hY
              refine (unhide OP2).mono ?_
              rintro e w5 ⟨rfl, hb5⟩
              obtain ⟨⟨s0, s1, s2, s3, s4, s5⟩, ⟨u0, u1, u2, u3, u4, u5, t0, t1, t2, t3, t4, t5⟩, hfz, hsl5, HEND⟩ := (unhide TAIL) w5 hb5
              have z0 := hfz (k * 6)
              have z1 := hfz (k * 6 + 1)
              have z2 := hfz (k * 6 + 2)
              have z3 := hfz (k * 6 + 3)
              have z4 := hfz (k * 6 + 4)
              have z5 := hfz (k * 6 + 5)
              have hb5s := hb5.size
              have m5 : w3.heap.size < w5.heap.size := World.block_lt_of_cell? _ _ s0
              have n1 : ¬ (w3.heap.size = w.heap.size) := by omega
              have n2 : ¬ (w.heap.size = w3.heap.size) := by omega
              clear hb5 hfz TAIL OP2 q2 q3 r3 r4 r5
              go_wp2
              go_roundw
              case rel =>
                obtain ⟨T', K', v', f1, f2, f3, f4, f5, f6, f7, f8, f9, f10⟩ := unhide HEND
                exact ⟨k + 1, T', K', v', by omega, by go_num, f1, f2, f3, f4, f5, f6, f7, f8, f9, f10⟩
              case measure => simp [intOf]; omega
    · have e : k = ni := by omega
      subst e
      have R := unhide A
      rw [spendGo_end h I k (by rw [unhide HZ]; exact Nat.le_refl _), unhide HX] at R
      have R1 : Hid (x = 0) := by show _ = _; injection R
      have R2 : S = T.map (·.1) := by injection R with _ R; injection R
      have R3 : M = K'.map (·.1) := by injection R with _ R; injection R
      subst R2 R3
      have HO2 : Hid (wr.ownsRow w0.heap.size 124 6 (.slice (some ⟨w.heap.size, 0, none⟩) k k) k (flatC T)) := by
        have := unhide HO'
        rw [Nat.sub_self, List.replicate_zero, List.append_nil] at this
        exact this
      clear R A HO'
      go_wp2
      go_ret2
      exact ⟨some ⟨w.heap.size, 0, none⟩, k, k, by rw [unhide R1]; rfl, (unhide HP').bel, fun _ => ⟨v', K', T, rfl, rfl, unhide HS', hKl, (unhide HT).symm, unhide HT, unhide HO2, unhide HL, (unhide HSub).1, (unhide HSub).2, unhide HP', w.heap.size, rfl, unhide HNE, by omega⟩⟩

end Go.Proofs.YtmomfkikogbdeaaGreatDoor

/- A row of values that the call made, filled place by place. -/
namespace Go.Proofs.YtmomfkikogbdeaaGreatDoor
open Go.RowKit

theorem bel_tw {w w1 w2 : World} (h1 : Below w.heap.size w w1) (h2 : Below w1.heap.size w1 w2) : Below w.heap.size w w2 := h1.trans (h2.mono h1.size)

/-! A row of values that the call made, filled place by place. -/
structure FillV (B : Nat) (e : TypeId) (p : Nat) (f : Nat → Value) (w wr : World) (k : Nat) : Prop where
  ex : ∃ xs : List Value, wr.ownsRow B e 1 (.slice (some ⟨B, 0, none⟩) p p) p xs ∧ ∀ j, j < k → xs[j]? = some (f j)
  bel : Below B w wr

theorem FillV.lt {B : Nat} {e : TypeId} {p : Nat} {f : Nat → Value} {w wr : World} {k : Nat} (h : FillV B e p f w wr k) : B < wr.heap.size := by
  obtain ⟨_, ho, _⟩ := h.ex
  exact (ho.lt B rfl).2
theorem FillV.old {B : Nat} {e : TypeId} {p : Nat} {f : Nat → Value} {w wr : World} {k : Nat} (h : FillV B e p f w wr k) (hk : k < p) : ∃ v, wr.cell? ⟨B, k, none⟩ = some v := by
  obtain ⟨xs, ho, _⟩ := h.ex
  have hl : xs.length = p := by simpa using ho.1
  exact ⟨xs[k]'(by omega), by rw [ho.cellAt k (by omega)]; simp [hl, hk]⟩
theorem FillV.free {B : Nat} {e : TypeId} {p : Nat} {f : Nat → Value} {w wr : World} {k : Nat} (h : FillV B e p f w wr k) (j : Nat) : wr.frozen? ⟨B, j, none⟩ = false := by
  obtain ⟨xs, ho, _⟩ := h.ex
  exact ho.frozenAt j
theorem FillV.step {B : Nat} {e : TypeId} {p : Nat} {f : Nat → Value} {w wr : World} {k : Nat} (h : FillV B e p f w wr k) (hk : k < p) {v : Value} (hv : v = f k) : FillV B e p f w (wr.setCell ⟨B, k, none⟩ v) (k + 1) := by
  obtain ⟨xs, ho, hf⟩ := h.ex
  have hl : xs.length = p := by simpa using ho.1
  refine ⟨⟨xs.set k v, (ho.stored k _).1, fun j hj => ?_⟩, h.bel.setCell (Nat.le_refl _) _⟩
  by_cases e : j = k
  · subst e; simp [hl, hk, hv]
  · rw [List.getElem?_set_ne (by omega)]; exact hf j (by omega)
theorem FillV.keep {B : Nat} {e : TypeId} {p : Nat} {f : Nat → Value} {w wr w' : World} {k : Nat} (h : FillV B e p f w wr k) (hb : Below wr.heap.size wr w') : FillV B e p f w w' k := by
  obtain ⟨xs, ho, hf⟩ := h.ex
  refine ⟨⟨xs, ?_, hf⟩, h.bel.trans (hb.mono (Nat.le_of_lt h.lt))⟩
  obtain ⟨hl, h0 | ⟨g, cap, cur, hv, hg, hh, r⟩⟩ := ho
  · exact ⟨hl, .inl h0⟩
  · exact ⟨hl, .inr ⟨g, cap, cur, hv, hg, (hb.block g (lt_of_block hh)).trans hh, r⟩⟩
theorem FillV.cells {B : Nat} {e : TypeId} {p : Nat} {f : Nat → Value} {w wr : World} {k : Nat} (h : FillV B e p f w wr k) (hk : k ≤ p) (i : Nat) (hi : i < k) : wr.cell? ⟨B, i, none⟩ = some (f i) := by
  obtain ⟨xs, ho, hf⟩ := h.ex
  rw [ho.cellAt i (by omega)]
  exact hf i hi

end Go.Proofs.YtmomfkikogbdeaaGreatDoor

/- Contracts of what copies coins: a lock in memory of its own, a coin, a row of them. -/
namespace Go.Proofs.YtmomfkikogbdeaaGreatDoor
open Go.RowKit

def flatO : List (Int × Int) → List Value
  | [] => []
  | o :: r => .int .i64 o.1 :: .int .i64 o.2 :: flatO r
theorem flatO_len : ∀ l : List (Int × Int), (flatO l).length = l.length * 2
  | [] => rfl
  | _ :: r => by simp only [flatO, List.length_cons, flatO_len r]; omega
theorem flatO_at : ∀ (l : List (Int × Int)) (i : Nat), i < l.length → (flatO l)[i * 2]? = some (.int .i64 (l.getD i (0, 0)).1) ∧ (flatO l)[i * 2 + 1]? = some (.int .i64 (l.getD i (0, 0)).2)
  | [], _, h => absurd h (by simp)
  | o :: r, 0, _ => ⟨rfl, rfl⟩
  | o :: r, i + 1, h => by
    have := flatO_at r i (by simpa using h)
    rw [show (i + 1) * 2 = i * 2 + 2 by omega]
    simpa [flatO] using this
theorem flatO_one : ∀ (l : List (Int × Int)) (u : Value), u ∈ flatO l → u.oneCell' = true
  | [], u, h => by cases h
  | o :: r, u, h => by
    simp only [flatO, List.mem_cons] at h
    rcases h with rfl | rfl | h
    · rfl
    · rfl
    · exact flatO_one r u h
theorem flatO_cells {w : World} {b off n : Nat} {l : List (Int × Int)} (hz : l.length = n) (hc : ∀ i, i < n → w.cell? ⟨b, off + i * 2, none⟩ = some (.int .i64 (l.getD i (0, 0)).1) ∧ w.cell? ⟨b, off + i * 2 + 1, none⟩ = some (.int .i64 (l.getD i (0, 0)).2)) (j : Nat) (u : Value) (hj : (flatO l)[j]? = some u) : w.cell? ⟨b, off + j, none⟩ = some u := by
  have hjl : j < l.length * 2 := by rw [← flatO_len]; exact (List.getElem?_eq_some_iff.1 hj).1
  obtain ⟨f0, f1⟩ := flatO_at l (j / 2) (by omega)
  obtain ⟨c0, c1⟩ := hc (j / 2) (by omega)
  rcases (show j % 2 = 0 ∨ j % 2 = 1 by omega) with q | q
  · have e : j = j / 2 * 2 := by omega
    rw [← e] at f0 c0
    rw [f0] at hj
    rw [c0, ← hj]
  · have e : j = j / 2 * 2 + 1 := by omega
    rw [← e] at f1
    rw [show off + j / 2 * 2 + 1 = off + j by omega] at c1
    rw [f1] at hj
    rw [c1, ← hj]
theorem ops_own {w : World} {base : Nat} {v : Value} {n : Nat} {l : List (Int × Int)} (h : w.ownsRow base 164 2 v n (flatO l)) : ∃ a c, v = .slice a n c ∧ OpsAt w a n l ∧ SlOk a n c ∧ (∀ ad, a = some ad → base ≤ ad.block) := by
  have hl : l.length = n := by have := h.1; rw [flatO_len] at this; omega
  rcases h.2 with ⟨rfl, rfl⟩ | ⟨g, cap, cur, rfl, hg, hh, h1, h2, h3, h4⟩
  · exact ⟨none, 0, rfl, ⟨hl, fun h => absurd h (by omega)⟩, ⟨Nat.le_refl _, Nat.zero_le _, fun _ => ⟨rfl, rfl⟩⟩, fun ad e => by cases e⟩
  · refine ⟨_, cap, rfl, ⟨hl, fun _ => ⟨g, 0, rfl, fun i hi => ?_⟩⟩, ⟨h1, h2, fun e => by cases e⟩, fun ad e => by cases e; exact hg⟩
    obtain ⟨f0, f1⟩ := flatO_at l i (by omega)
    rw [Nat.zero_add, World.ownsRow.cellAt h _ (by omega), World.ownsRow.cellAt h _ (by omega)]
    exact ⟨f0, f1⟩

theorem Tryz.infoOpC : (Tryz.prog.info? 164).map (fun i => (i.zero, i.size, i.bytes)) = some (some (.agg #[.int .i64 0, .int .i64 0]), 2, 16) := by kernel_rfl

set_option maxRecDepth 10000 in
set_option maxHeartbeats 800000 in
theorem cloneOp_nil (w : World) : Calls Tryz.prog 150 #[.slice none 0 0] w fun e w' => e = .returned (.slice none 0 0) ∧ w = w' := by
  have he := fun w => Lib.run_eql_slice_nil (P := Tryz.prog) w 48 164 none 0 0 0 0 Tryz.underlying48
  go_enter Tryz.func150, Tryz.ntmps150
  go_wp2
  go_ret
  exact ⟨rfl, rfl⟩

set_option maxRecDepth 10000 in
set_option maxHeartbeats 1600000 in
theorem cloneOp_some (ad : Addr) (n c : Nat) (l : List (Int × Int)) (w : World) (hn : n ≤ 4096) (hz : l.length = n) (hc : ∀ j u, (flatO l)[j]? = some u → w.cell? (ad.add j) = some u) :
    Calls Tryz.prog 150 #[.slice (some ad) n c] w fun e w' => ∃ v, e = .returned v ∧ w'.ownsRow w.heap.size 164 2 v n (flatO l) ∧ Below w.heap.size w w' := by
  obtain ⟨i0, hi, hz0, hz1, hz2⟩ := info_parts Tryz.infoOpC
  have hb := bel_new w (.cells #[] 164)
  have HC : Hid (∀ j u, (flatO l)[j]? = some u → (w.alloc (.cells #[] 164)).cell? (ad.add j) = some u) := fun j u hj => cell_later hb (hc j u hj)
  have HB := hide hb
  have HZ := hide hz
  have HO := hide (own_nil w 164 2)
  have he := fun w => Lib.run_eql_slice_nil (P := Tryz.prog) w 48 164 (some ad) n c 0 0 Tryz.underlying48
  clear hc hb hz
  go_enter Tryz.func150, Tryz.ntmps150
  go_wp2_with (at_builtin; refine wpList_append_own _ rfl _ _ 48 rfl w.heap.size 164 i0 (.agg #[.int .i64 0, .int .i64 0]) 2 16 Tryz.underlying48 hi hz0 hz1 hz2 rfl (by decide) _ _ _ rfl (unhide HO) ad n c (flatO l) rfl (by rw [flatO_len, unhide HZ]) (unhide HC) (flatO_one l) (by unfold maxLen; omega) (by omega) (unhide HB).size ?_; intro v2 w3 hown3 hgrow3 _)
  have HW : Hid (w3.ownsRow w.heap.size 164 2 v2 n (flatO l)) := by show World.ownsRow _ _ _ _ _ _ _; simpa using hown3
  have HB3 := hide ((unhide HB).grown hgrow3 (unhide HB).size (own_lo (unhide HO)))
  clear hown3 hgrow3
  go_wp2
  go_ret
  exact ⟨v2, rfl, unhide HW, unhide HB3⟩

theorem cloneOp_any (a : Option Addr) (n c : Nat) (l : List (Int × Int)) (w : World) (hn : n ≤ 4096) (h : OpsAt w a n l) (hs : SlOk a n c) :
    Calls Tryz.prog 150 #[.slice a n c] w fun e w' => ∃ a' c', e = .returned (.slice a' n c') ∧ OpsAt w' a' n l ∧ SlOk a' n c' ∧ (∀ ad, a' = some ad → w.heap.size ≤ ad.block) ∧ Below w.heap.size w w' := by
  obtain ⟨hl, hc⟩ := h
  cases a with
  | none =>
    obtain ⟨rfl, rfl⟩ := hs.2.2 rfl
    exact (cloneOp_nil w).mono fun e w' ⟨x, y⟩ => ⟨none, 0, x, ⟨hl, fun h => absurd h (by omega)⟩, hs, fun ad e => (by cases e), y ▸ Below.refl _ _⟩
  | some ad =>
    have hc2 : ∀ j u, (flatO l)[j]? = some u → w.cell? (ad.add j) = some u := fun j u hj => by
      have hjl : j < l.length * 2 := by rw [← flatO_len]; exact (List.getElem?_eq_some_iff.1 hj).1
      obtain ⟨b, off, e, hcell⟩ := hc (by omega)
      cases e
      rw [Addr.add_lit]
      exact flatO_cells hl hcell j u hj
    refine (cloneOp_some ad n c l w hn hl hc2).mono ?_
    rintro e w' ⟨v, rfl, x, y⟩
    obtain ⟨a', c', rfl, h1, h2, h3⟩ := ops_own x
    exact ⟨a', c', rfl, h1, h2, h3, y⟩

end Go.Proofs.YtmomfkikogbdeaaGreatDoor
