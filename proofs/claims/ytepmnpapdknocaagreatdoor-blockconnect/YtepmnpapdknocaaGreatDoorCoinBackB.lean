/- The contract of putBack: the coins that spend took are put. -/
import Derived.Test.YtepmnpapdknocaaGreatDoorCoinBackA
namespace Go.Proofs.YtepmnpapdknocaaGreatDoor
open Go.RowKit

theorem putbGo_no {I : List InD} {S : List CoinD} {k : Nat} (h1 : k < I.length) (h2 : k < S.length) {L : List CoinD} (h : pt S[k] ≠ (I[k].1, I[k].2.1) ∨ hasP (pt S[k]) L = true) : putbGo (I.drop k) (S.drop k) L = (6, []) := by
  rw [List.drop_eq_getElem_cons h1, List.drop_eq_getElem_cons h2, putbGo, if_pos h]
theorem putbGo_on {I : List InD} {S : List CoinD} {k : Nat} (h1 : k < I.length) (h2 : k < S.length) {L : List CoinD} (h : ¬ (pt S[k] ≠ (I[k].1, I[k].2.1) ∨ hasP (pt S[k]) L = true)) : putbGo (I.drop k) (S.drop k) L = putbGo (I.drop (k + 1)) (S.drop (k + 1)) (putC S[k] L) := by
  rw [List.drop_eq_getElem_cons h1, List.drop_eq_getElem_cons h2, putbGo, if_neg h]
theorem putbGo_end {I : List InD} {S : List CoinD} {k : Nat} (h1 : I.length ≤ k) (L : List CoinD) : putbGo (I.drop k) (S.drop k) L = (0, L) := by
  rw [List.drop_of_length_le h1]; cases S.drop k <;> rfl

set_option maxRecDepth 10000 in
set_option maxHeartbeats 12800000 in
theorem putBack_is (w0 w : World) (p : Nat) (v : Value) (K : List CV) (ai : Option Addr) (ni ci : Nat) (I : List InD) (sa : Option Addr) (cs : Nat) (S : List CoinD) (x : Int) (M : List CoinD) (hP : Pu w0 w p v K) (hs : Srt (K.map (·.1))) (hn : K.length + ni ≤ 4096) (hI : InsAt w0 ai ni I) (hS : CoinsAt w0 sa ni S) (hni : ni ≤ 6) (hx : putbGo I S (K.map (·.1)) = (x, M)) :
    Calls Tryz.prog 77 #[.pointer (some ⟨p, 0, none⟩), .slice ai ni ci, .slice sa ni cs] w fun e w' => e = .returned (.int .i64 x) ∧ Below w0.heap.size w0 w' ∧ (x = 0 → Given w0 w w' p v (K.length + ni) M) := by
  have hpw : p < w.heap.size := hP.lt
  have HP := hide hP
  have HS0 := hide hs
  have HI := hide hI
  have HSp := hide hS
  have HZI := hide hI.1
  have HZS := hide hS.1
  have HX := hide hx
  clear hP hs hI hS hx
  go_enter Tryz.func77, Tryz.ntmps77
  go_wp2
  go_loopw [11] (fun i wr => ∃ (k : Nat) (K' : List CV) (v' : Value), k ≤ ni ∧ i = .int .i64 k ∧ Hid (putbGo I S (K.map (·.1)) = putbGo (I.drop k) (S.drop k) (K'.map (·.1))) ∧ Hid (Srt (K'.map (·.1))) ∧ K'.length ≤ K.length + k ∧ Hid (Pu w0 wr p v' K') ∧ Hid (Gr w wr (PuS p v)) ∧ Hid (v'.ownBlock = v.ownBlock ∨ ∀ k, v'.ownBlock = some k → w.heap.size ≤ k)) (fun i _ => ni - (intOf i).toNat)
  case atStart => exact ⟨0, K, v, Nat.zero_le _, rfl, rfl, HS0, Nat.le_refl _, HP, Gr.refl _ _, Or.inl rfl⟩
  case round =>
    obtain ⟨k, K', v', hk, rfl, A, HS', hKl, HP', HG, HV⟩ := hrel
    clear HS0 HP
    by_cases hlt : k < ni
    · have hlI : k < I.length := by rw [unhide HZI]; exact hlt
      have hlS : k < S.length := by rw [unhide HZS]; exact hlt
      obtain ⟨b, off, rfl, _, hcell⟩ := (unhide HI).2 (by omega)
      obtain ⟨b2, off2, rfl, _, hcell2⟩ := (unhide HSp).2 (by omega)
      have hin0 := hcell k hlI
      have hin2 := hcell2 k hlS
      have E1 := hide (putbGo_no hlI hlS (L := K'.map (·.1)))
      have E2 := hide (putbGo_on hlI hlS (L := K'.map (·.1)))
      obtain ⟨y, hy⟩ : ∃ y, I[k] = y := ⟨_, rfl⟩
      obtain ⟨z, hz⟩ : ∃ z, S[k] = z := ⟨_, rfl⟩
      rw [hy] at hin0 E1 E2
      rw [hz] at hin2 E1 E2
      obtain ⟨y1, y2, key⟩ := y
      obtain ⟨g1', g2', ka, kn, kc, _, _, _⟩ := hin0
      obtain ⟨la, ln, lc, m0', m1', m2', m3', m4', m5', hO4, hs4⟩ := hin2.val
      have bl := (unhide HP').bel
      have g1 := cell_later bl g1'
      have g2 := cell_later bl g2'
      have m0 := cell_later bl m0'
      have m1 := cell_later bl m1'
      have m2 := cell_later bl m2'
      have m3 := cell_later bl m3'
      have m4 := cell_later bl m4'
      have m5 := cell_later bl m5'
      simp only at g1 g2
      obtain ⟨X, hX⟩ : ∃ X, X = wr.alloc (.cells #[.int .i64 z.1, .int .i64 z.2.1, .int .i64 (cv z), .slice la ln lc, .int .i64 (ch z), .bool (cr z)] 88) := ⟨_, rfl⟩
      have hbX : Below wr.heap.size wr X := by rw [hX]; exact bel_new _ _
      have hX1 : X.heap[wr.heap.size]? = some (.cells [.int .i64 z.1, .int .i64 z.2.1, .int .i64 (cv z), .slice la ln lc, .int .i64 (ch z), .bool (cr z)].toArray 88 (0, 0)) := by rw [hX]; exact six_heap _ _ _ _ _ _ _ _
      have hg1 := cell_later hbX g1
      have hg2 := cell_later hbX g2
      have c0 := cell_of hX1 0 _ rfl
      have c1 := cell_of hX1 1 _ rfl
      have c2 := cell_of hX1 2 _ rfl
      have c3 := cell_of hX1 3 _ rfl
      have c4 := cell_of hX1 4 _ rfl
      have c5 := cell_of hX1 5 _ rfl
      have hxl := lt_of_block hX1
      have hbl : b < X.heap.size := World.block_lt_of_cell? _ _ hg1
      have HBX := hide hbX
      have hPX := (unhide HP').kept hbX
      have hPD := hPX.kept (bel_draw1 X)
      have hkI : (k : Int) < (ni : Int) := by omega
      by_cases he : pt z = (y1, y2)
      · have he1 : z.1 = y1 := congrArg Prod.fst he
        have he2 : z.2.1 = y2 := congrArg Prod.snd he
        cases hf : hasP (pt z) (K'.map (·.1)) with
        | true =>
          have R : Hid (x = 6) := by
            have e := unhide A
            rw [(unhide E1) (.inr hf), unhide HX] at e
            injection e
          have C := pput_no w0 X.drew p v' K' (z, la, ln, lc) hPD (unhide HS') (by omega) hf
          unfold cnV at C
          simp only at C
          have HC := hide C
          have HBD := hide hPD.bel
          rw [← he1] at hg1
          rw [← he2] at hg2
          clear E1 E2 A g1' g2' m0' m1' m2' m3' m4' m5' hO4 hs4 bl hbX hX1 hPX hPD C hf he he1 he2 hy hz
          go_wp2_with fail
          rw [← hX]
          clear hX g1 g2 m0 m1 m2 m3 m4 m5
          go_region_with (go_at_call 114; refine (unhide HC).mono ?_; rintro e w4 ⟨rfl, hb4⟩; have HB4 : Hid (Below w0.heap.size w0 w4) := bel_on (unhide HBD) (hb4.mono (unhide HBD).size |> fun q => ⟨q.os, q.tape, q.output, q.size, hb4.block⟩); clear hb4)
          all_goals
            go_wp2
            go_ret
            exact ⟨by rw [unhide R]; rfl, unhide HB4, fun e => absurd e (by rw [unhide R]; decide)⟩
        | false =>
          have A2 : Hid (∀ K'' : List CV, K''.map (·.1) = putC z (K'.map (·.1)) → putbGo I S (K.map (·.1)) = putbGo (I.drop (k + 1)) (S.drop (k + 1)) (K''.map (·.1))) := fun K'' hK => by
            rw [unhide A, (unhide E2) (by rintro (q | q); exact q he; rw [hf] at q; cases q), hK]
          have C := pput_yes w0 X.drew p v' K' (z, la, ln, lc) hPD (unhide HS') (by omega) hf ⟨hO4, hs4⟩
          unfold cnV at C
          simp only at C
          have HC := hide C
          have GD : Hid (Gr w X.drew (PuS p v)) := ((unhide HG).on (unhide HBX)).draw
          rw [← he1] at hg1
          rw [← he2] at hg2
          have hXs : wr.heap.size ≤ X.heap.size := (unhide HBX).size
          have hws : w.heap.size ≤ wr.heap.size := (unhide HG).size
          clear E1 E2 A g1' g2' m0' m1' m2' m3' m4' m5' hO4 hs4 bl hbX hX1 hPX hPD C hf he he1 he2 hy hz
          go_wp2_with fail
          rw [← hX]
          clear hX g1 g2 m0 m1 m2 m3 m4 m5
          go_region_with (go_at_call 114; refine (unhide HC).mono ?_; rintro e w4 ⟨v4, K4, rfl, hK4, hsub4, hl4, hP4, hG4, hv4⟩; have H4 : Hid (K4.map (·.1) = putC z (K'.map (·.1)) ∧ K4.length = K'.length + 1 ∧ Pu w0 w4 p v4 K4 ∧ Gr X.drew w4 (PuS p v') ∧ (v4.ownBlock = v'.ownBlock ∨ ∀ k, v4.ownBlock = some k → X.heap.size ≤ k)) := ⟨hK4, hl4, hP4, hG4, hv4⟩; clear hK4 hsub4 hl4 hP4 hG4 hv4)
          all_goals
            obtain ⟨hK4, hl4, hP4, hG4, hv4⟩ := unhide H4
            have R : Hid (Hid (putbGo I S (K.map (·.1)) = putbGo (I.drop (k + 1)) (S.drop (k + 1)) (K4.map (·.1))) ∧ Hid (Srt (K4.map (·.1))) ∧ K4.length ≤ K.length + (k + 1) ∧ Hid (Pu w0 w4 p v4 K4) ∧ Hid (Gr w w4 (PuS p v)) ∧ Hid (v4.ownBlock = v.ownBlock ∨ ∀ k, v4.ownBlock = some k → w.heap.size ≤ k)) := by
              refine ⟨(unhide A2) K4 hK4, ?_, by omega, hP4, ?_, ?_⟩
              · show Srt _; rw [hK4]; exact putC_srt (unhide HS')
              · refine (unhide GD).trans2 hG4 (fun q hq hT => ?_)
                rcases hT with e | e
                · exact .inl e
                · rcases unhide HV with f | f
                  · exact .inr (by rw [← f]; exact e)
                  · have := f q e; omega
              · rcases hv4 with f | f
                · rcases unhide HV with g | g
                  · exact .inl (by rw [f, g])
                  · exact .inr (fun q hq => g q (by rw [← f]; exact hq))
                · exact .inr (fun q hq => by have := f q hq; omega)
            clear hK4 hl4 hP4 hG4 hv4 H4
            go_wp2
            go_roundw
            case rel =>
              obtain ⟨r1, r2, r3, r4, r5, r6⟩ := unhide R
              exact ⟨k + 1, K4, v4, by omega, by go_num, r1, r2, r3, r4, r5, r6⟩
            case measure => simp [intOf]; omega
      · have R : Hid (x = 6) := by
          have e := unhide A
          rw [(unhide E1) (.inl he), unhide HX] at e
          injection e
        have HBD := hide hPD.bel
        by_cases e1 : z.1 = y1
        · have e2 : ¬ (z.2.1 = y2) := fun q => he (by unfold pt; rw [e1, q])
          subst e1
          clear E1 E2 A g1' g2' m0' m1' m2' m3' m4' m5' hO4 hs4 bl hbX hX1 hPX hPD he hy hz
          go_wp2_with fail
          rw [← hX]
          clear hX g1 g2 m0 m1 m2 m3 m4 m5
          go_quiet (fail)
          go_wp2
          go_ret
          exact ⟨by rw [unhide R]; rfl, bel_on (unhide HBD) ⟨rfl, rfl, rfl, Nat.le_refl _, fun _ _ => rfl⟩, fun e => absurd e (by rw [unhide R]; decide)⟩
        · clear E1 E2 A g1' g2' m0' m1' m2' m3' m4' m5' hO4 hs4 bl hbX hX1 hPX hPD he hy hz
          go_wp2_with fail
          rw [← hX]
          clear hX g1 g2 m0 m1 m2 m3 m4 m5
          go_quiet (fail)
          go_wp2
          go_ret
          exact ⟨by rw [unhide R]; rfl, bel_on (unhide HBD) ⟨rfl, rfl, rfl, Nat.le_refl _, fun _ _ => rfl⟩, fun e => absurd e (by rw [unhide R]; decide)⟩
    · have e : k = ni := by omega
      subst e
      have R := unhide A
      rw [putbGo_end (by rw [unhide HZI]; exact Nat.le_refl _), unhide HX] at R
      have R1 : Hid (x = 0) := by show _ = _; injection R
      have R2 : M = K'.map (·.1) := by injection R
      subst R2
      clear R A
      go_wp2
      go_ret
      exact ⟨by rw [unhide R1]; rfl, (unhide HP').bel, fun _ => ⟨v', K', rfl, unhide HS', hKl, unhide HP', unhide HG⟩⟩

end Go.Proofs.YtepmnpapdknocaaGreatDoor
