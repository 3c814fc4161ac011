/- The contract of takeBack: the coins that give put are taken. -/
import Derived.Test.YtmomfkikogbdeaaGreatDoorCoinApplyBToLockFlat
import Derived.Test.YtmomfkikogbdeaaGreatDoorCoinEqToBlkDisL
namespace Go.Proofs.YtmomfkikogbdeaaGreatDoor
open Go.RowKit

theorem backGo_none {name : Int} {O : List OutD} {k : Nat} (hk : k < O.length) {L : List CoinD} (ht : takeD (name, (k : Int)) L = none) : backGo name k (O.drop k) L = (7, []) := by
  rw [List.drop_eq_getElem_cons hk, backGo, ht]
theorem backGo_unlike {name : Int} {O : List OutD} {k : Nat} (hk : k < O.length) {L M : List CoinD} {c : CoinD} (ht : takeD (name, (k : Int)) L = some (c, M)) (hu : (cv c, ck c) ≠ O[k]) : backGo name k (O.drop k) L = (7, []) := by
  rw [List.drop_eq_getElem_cons hk, backGo, ht]; simp only; rw [if_neg hu]
theorem backGo_on {name : Int} {O : List OutD} {k : Nat} (hk : k < O.length) {L M : List CoinD} {c : CoinD} (ht : takeD (name, (k : Int)) L = some (c, M)) (hu : (cv c, ck c) = O[k]) : backGo name k (O.drop k) L = backGo name (k + 1) (O.drop (k + 1)) M := by
  rw [List.drop_eq_getElem_cons hk, backGo, ht]; simp only; rw [if_pos hu]
theorem backGo_end {name : Int} {O : List OutD} {k : Nat} (hk : O.length ≤ k) (L : List CoinD) : backGo name k (O.drop k) L = (0, L) := by
  rw [List.drop_of_length_le hk, backGo]

set_option maxRecDepth 10000 in
set_option maxHeartbeats 12800000 in
theorem takeBack_is (w0 w : World) (p : Nat) (v : Value) (K : List CV) (ao : Option Addr) (no co : Nat) (O : List OutD) (name x : Int) (M : List CoinD) (hP : Pu w0 w p v K) (hs : Srt (K.map (·.1))) (hn : K.length ≤ 4096) (hO : OutsAt w0 ao no O) (hno : no ≤ 6) (hx : backGo name 0 O (K.map (·.1)) = (x, M)) :
    Calls Tryz.prog 246 #[.pointer (some ⟨p, 0, none⟩), .slice ao no co, .int .i64 name] w fun e w' => e = .returned (.int .i64 x) ∧ Below w0.heap.size w0 w' ∧ (x = 0 → Given w0 w w' p v K.length M) := by
  have hpw : p < w.heap.size := hP.lt
  have HP := hide hP
  have HS := hide hs
  have HO := hide hO
  have HZ := hide hO.1
  have HX := hide hx
  clear hP hs hO hx
  go_enter Tryz.func246, Tryz.ntmps246
  go_wp2
  go_loopw [13] (fun i wr => ∃ (k : Nat) (K' : List CV) (v' : Value), k ≤ no ∧ i = .int .i64 k ∧ Hid (backGo name 0 O (K.map (·.1)) = backGo name k (O.drop k) (K'.map (·.1))) ∧ Hid (Srt (K'.map (·.1))) ∧ K'.length ≤ K.length ∧ Hid (Pu w0 wr p v' K') ∧ Hid (Gr w wr (PuS p v)) ∧ Hid (v'.ownBlock = v.ownBlock)) (fun i _ => no - (intOf i).toNat)
  case atStart => exact ⟨0, K, v, Nat.zero_le _, rfl, rfl, HS, Nat.le_refl _, HP, Gr.refl _ _, rfl⟩
  case round =>
    obtain ⟨k, K', v', hk, rfl, A, HS', hKl, HP', HG, HV⟩ := hrel
    clear HS HP
    by_cases hlt : k < no
    · have hlk : k < O.length := by rw [unhide HZ]; exact hlt
      obtain ⟨b, off, rfl, hbl, hcell⟩ := (unhide HO).2 (by omega)
      have hin0 := hcell k hlk
      have E1 := hide (fun ht => backGo_none (name := name) hlk (L := K'.map (·.1)) ht)
      have E2 := hide (fun M c ht hu => backGo_unlike (name := name) hlk (L := K'.map (·.1)) (M := M) (c := c) ht hu)
      have E3 := hide (fun M c ht hu => backGo_on (name := name) hlk (L := K'.map (·.1)) (M := M) (c := c) ht hu)
      obtain ⟨y, hy⟩ : ∃ y, O[k] = y := ⟨_, rfl⟩
      rw [hy] at hin0 E2 E3
      obtain ⟨y1, lk⟩ := y
      obtain ⟨g1', la, ln, lc, g2', g4, g5⟩ := hin0
      have g1 := cell_later (unhide HP').bel g1'
      have g2 := cell_later (unhide HP').bel g2'
      simp only at g1 g2 g4
      obtain ⟨X, hX⟩ : ∃ X, X = wr.alloc (.cells #[.int .i64 y1, .slice la ln lc] 122) := ⟨_, rfl⟩
      have hbX : Below wr.heap.size wr X := by rw [hX]; exact bel_new _ _
      have hX1 : X.heap[wr.heap.size]? = some (.cells [.int .i64 y1, .slice la ln lc].toArray 122 (0, 0)) := by rw [hX]; exact heap_alloc_new wr _
      have hPX := (unhide HP').kept hbX
      have HX1 := hide hX1
      have HPX := hide hPX
      have HBX := hide hbX
      have hpr : p < wr.heap.size := (unhide HP').lt
      have HL0 : Hid (OpsAt w0 la ln lk) := g4
      cases hf : hasP (name, (k : Int)) (K'.map (·.1)) with
      | false =>
        have C := hide (ptake_none w0 X p v' K' (name, (k : Int)) hPX (unhide HS') (by omega) hf)
        have R : Hid (x = 7) := by
          have e := unhide A
          rw [(unhide E1) (takeD_none hf), unhide HX] at e
          injection e
        clear E1 E2 E3 hbX hX1 hPX hf hy A g1' g2' g4
        go_wp2_with fail
        rw [← hX]
        clear hX
        refine (unhide C).mono ?_
        rintro e w3 ⟨rfl, hb3⟩
        have HB3 := hide (((unhide HPX).kept hb3).bel)
        unfold zeroC
        clear hb3
        go_wp2
        go_ret
        exact ⟨by rw [unhide R]; rfl, bel_on (unhide HB3) (bel_new _ _), fun e => absurd e (by rw [unhide R]; decide)⟩
      | true =>
        have C := hide (ptake_some w0 X p v' K' (name, (k : Int)) hPX (unhide HS') (by omega) hf)
        clear hbX hX1 hPX hf hy E1 g1' g2' g4
        go_wp2_with fail
        rw [← hX]
        clear hX
        refine (unhide C).mono ?_
        rintro e w3 ⟨z, v3, K3, rfl, ht, hzm, hsub, hlen, hP3, hG3, hv3⟩
        have hzl := (unhide HP').lk z hzm
        have hsrt3 := takeD_srt ht (unhide HS')
        have hnS : ¬ PuS p v' wr.heap.size := by
          rintro (e | e)
          · omega
          · have := ((unhide HP').own.lt _ e).2; omega
        have hh3 := hG3.heap (unhide HX1) hnS
        obtain ⟨Y, hY⟩ : ∃ Y, Y = w3.alloc (.cells #[.int .i64 z.1.1, .int .i64 z.1.2.1, .int .i64 (cv z.1), .slice z.2.1 z.2.2.1 z.2.2.2, .int .i64 (ch z.1), .bool (cr z.1)] 124) := ⟨_, rfl⟩
        have hbY : Below w3.heap.size w3 Y := by rw [hY]; exact bel_new _ _
        have hPY := hP3.kept hbY
        have q0 := cell_of hh3 0 _ rfl
        have q1 := cell_of hh3 1 _ rfl
        have hw3r : wr.heap.size < w3.heap.size := lt_of_block hh3
        obtain ⟨o, ho⟩ : ∃ o, decide ((cv z.1, ck z.1) = (y1, lk)) = o := ⟨_, rfl⟩
        have OS := sameOut_is (cv z.1, ck z.1) (y1, lk) z.2.1 la z.2.2.1 z.2.2.2 ln lc o Y hzl.2.len (hzl.1.later hPY.bel) ((unhide HL0).later hPY.bel) ho
        simp only at OS
        have HOS := hide OS
        have HPY := hide hPY
        have GY : Hid (Gr w Y (PuS p v)) := by
          refine ((unhide HG).on (unhide HBX)).trans2 (hG3.on hbY) (fun q hq hT => ?_)
          rcases hT with e | e
          · exact .inl e
          · exact .inr (by rw [← unhide HV]; exact e)
        have HV3 : Hid (v3.ownBlock = v.ownBlock) := by show _ = _; rw [hv3]; exact unhide HV
        have HS3 := hide hsrt3
        have HLEN : Hid (K3.length ≤ K.length) := by show _ ≤ _; omega
        unfold cnV
        cases o with
        | false =>
          have R : Hid (x = 7) := by
            have e := unhide A
            rw [(unhide E2) _ _ ht (of_decide_eq_false ho), unhide HX] at e
            injection e
          clear E2 E3 A ht hzm hsub hlen hP3 hG3 hv3 hzl hsrt3 hnS hh3 hbY hPY OS ho g1 g2 C
          go_wp2_with fail
          rw [← hY]
          clear hY
          refine (unhide HOS).mono ?_
          rintro e w5 ⟨rfl, hb5⟩
          have HB5 := hide ((unhide HPY).kept hb5).bel
          clear hb5
          go_wp2
          go_ret
          exact ⟨by rw [unhide R]; rfl, unhide HB5, fun e => absurd e (by rw [unhide R]; decide)⟩
        | true =>
          have A2 : Hid (backGo name 0 O (K.map (·.1)) = backGo name (k + 1) (O.drop (k + 1)) (K3.map (·.1))) := by
            show _ = _
            rw [unhide A, (unhide E3) _ _ ht (of_decide_eq_true ho)]
          clear E2 E3 A ht hzm hsub hlen hP3 hG3 hv3 hzl hsrt3 hnS hh3 hbY hPY OS ho g1 g2 C
          go_wp2_with fail
          rw [← hY]
          clear hY
          refine (unhide HOS).mono ?_
          rintro e w5 ⟨rfl, hb5⟩
          have HP5 := hide ((unhide HPY).kept hb5)
          have HG5 := hide ((unhide GY).on hb5)
          clear hb5
          go_wp2
          go_roundw
          case rel => exact ⟨k + 1, K3, v3, by omega, by go_num, A2, HS3, unhide HLEN, HP5, HG5, HV3⟩
          case measure => simp [intOf]; omega
    · have e : k = no := by omega
      subst e
      have R := unhide A
      rw [backGo_end (by rw [unhide HZ]; exact Nat.le_refl _), unhide HX] at R
      have R1 : Hid (x = 0) := by show _ = _; injection R
      have R2 : M = K'.map (·.1) := by injection R
      subst R2
      clear R A
      go_wp2
      go_ret
      exact ⟨by rw [unhide R1]; rfl, (unhide HP').bel, fun _ => ⟨v', K', rfl, unhide HS', hKl, unhide HP', unhide HG⟩⟩

end Go.Proofs.YtmomfkikogbdeaaGreatDoor

/- The contract of putBack: the coins that spend took are put. -/
namespace Go.Proofs.YtmomfkikogbdeaaGreatDoor
open Go.RowKit

theorem putbGo_no {I : List InD} {S : List CoinD} {k : Nat} (h1 : k < I.length) (h2 : k < S.length) {L : List CoinD} (h : pt S[k] ≠ (I[k].1, I[k].2.1) ∨ hasP (pt S[k]) L = true) : putbGo (I.drop k) (S.drop k) L = (6, []) := by
  rw [List.drop_eq_getElem_cons h1, List.drop_eq_getElem_cons h2, putbGo, if_pos h]
theorem putbGo_on {I : List InD} {S : List CoinD} {k : Nat} (h1 : k < I.length) (h2 : k < S.length) {L : List CoinD} (h : ¬ (pt S[k] ≠ (I[k].1, I[k].2.1) ∨ hasP (pt S[k]) L = true)) : putbGo (I.drop k) (S.drop k) L = putbGo (I.drop (k + 1)) (S.drop (k + 1)) (putC S[k] L) := by
  rw [List.drop_eq_getElem_cons h1, List.drop_eq_getElem_cons h2, putbGo, if_neg h]
theorem putbGo_end {I : List InD} {S : List CoinD} {k : Nat} (h1 : I.length ≤ k) (L : List CoinD) : putbGo (I.drop k) (S.drop k) L = (0, L) := by
  rw [List.drop_of_length_le h1]; cases S.drop k <;> rfl

set_option maxRecDepth 10000 in
set_option maxHeartbeats 12800000 in
theorem putBack_is (w0 w : World) (p : Nat) (v : Value) (K : List CV) (ai : Option Addr) (ni ci : Nat) (I : List InD) (sa : Option Addr) (cs : Nat) (S : List CoinD) (x : Int) (M : List CoinD) (hP : Pu w0 w p v K) (hs : Srt (K.map (·.1))) (hn : K.length + ni ≤ 4096) (hI : InsAt w0 ai ni I) (hS : CoinsAt w0 sa ni S) (hni : ni ≤ 6) (hx : putbGo I S (K.map (·.1)) = (x, M)) :
    Calls Tryz.prog 247 #[.pointer (some ⟨p, 0, none⟩), .slice ai ni ci, .slice sa ni cs] w fun e w' => e = .returned (.int .i64 x) ∧ Below w0.heap.size w0 w' ∧ (x = 0 → Given w0 w w' p v (K.length + ni) M) := by
  have hpw : p < w.heap.size := hP.lt
  have HP := hide hP
  have HS0 := hide hs
  have HI := hide hI
  have HSp := hide hS
  have HZI := hide hI.1
  have HZS := hide hS.1
  have HX := hide hx
  clear hP hs hI hS hx
  go_enter Tryz.func247, Tryz.ntmps247
  go_wp2
  go_loopw [11] (fun i wr => ∃ (k : Nat) (K' : List CV) (v' : Value), k ≤ ni ∧ i = .int .i64 k ∧ Hid (putbGo I S (K.map (·.1)) = putbGo (I.drop k) (S.drop k) (K'.map (·.1))) ∧ Hid (Srt (K'.map (·.1))) ∧ K'.length ≤ K.length + k ∧ Hid (Pu w0 wr p v' K') ∧ Hid (Gr w wr (PuS p v)) ∧ Hid (v'.ownBlock = v.ownBlock ∨ ∀ k, v'.ownBlock = some k → w.heap.size ≤ k)) (fun i _ => ni - (intOf i).toNat)
  case atStart => exact ⟨0, K, v, Nat.zero_le _, rfl, rfl, HS0, Nat.le_refl _, HP, Gr.refl _ _, Or.inl rfl⟩
  case round =>
    obtain ⟨k, K', v', hk, rfl, A, HS', hKl, HP', HG, HV⟩ := hrel
    clear HS0 HP
    by_cases hlt : k < ni
    · have hlI : k < I.length := by rw [unhide HZI]; exact hlt
      have hlS : k < S.length := by rw [unhide HZS]; exact hlt
      obtain ⟨b, off, rfl, _, hcell⟩ := (unhide HI).2 (by omega)
      obtain ⟨b2, off2, rfl, _, hcell2⟩ := (unhide HSp).2 (by omega)
      have hin0 := hcell k hlI
      have hin2 := hcell2 k hlS
      have E1 := hide (putbGo_no hlI hlS (L := K'.map (·.1)))
      have E2 := hide (putbGo_on hlI hlS (L := K'.map (·.1)))
      obtain ⟨y, hy⟩ : ∃ y, I[k] = y := ⟨_, rfl⟩
      obtain ⟨z, hz⟩ : ∃ z, S[k] = z := ⟨_, rfl⟩
      rw [hy] at hin0 E1 E2
      rw [hz] at hin2 E1 E2
      obtain ⟨y1, y2, key⟩ := y
      obtain ⟨g1', g2', ka, kn, kc, _, _, _⟩ := hin0
      obtain ⟨la, ln, lc, m0', m1', m2', m3', m4', m5', hO4, hs4⟩ := hin2.val
      have bl := (unhide HP').bel
      have g1 := cell_later bl g1'
      have g2 := cell_later bl g2'
      have m0 := cell_later bl m0'
      have m1 := cell_later bl m1'
      have m2 := cell_later bl m2'
      have m3 := cell_later bl m3'
      have m4 := cell_later bl m4'
      have m5 := cell_later bl m5'
      simp only at g1 g2
      obtain ⟨X, hX⟩ : ∃ X, X = wr.alloc (.cells #[.int .i64 z.1, .int .i64 z.2.1, .int .i64 (cv z), .slice la ln lc, .int .i64 (ch z), .bool (cr z)] 124) := ⟨_, rfl⟩
      have hbX : Below wr.heap.size wr X := by rw [hX]; exact bel_new _ _
      have hX1 : X.heap[wr.heap.size]? = some (.cells [.int .i64 z.1, .int .i64 z.2.1, .int .i64 (cv z), .slice la ln lc, .int .i64 (ch z), .bool (cr z)].toArray 124 (0, 0)) := by rw [hX]; exact six_heap _ _ _ _ _ _ _ _
      have hg1 := cell_later hbX g1
      have hg2 := cell_later hbX g2
      have c0 := cell_of hX1 0 _ rfl
      have c1 := cell_of hX1 1 _ rfl
      have c2 := cell_of hX1 2 _ rfl
      have c3 := cell_of hX1 3 _ rfl
      have c4 := cell_of hX1 4 _ rfl
      have c5 := cell_of hX1 5 _ rfl
      have hxl := lt_of_block hX1
      have hbl : b < X.heap.size := World.block_lt_of_cell? _ _ hg1
      have HBX := hide hbX
      have hPX := (unhide HP').kept hbX
      have hPD := hPX.kept (bel_draw1 X)
      have hkI : (k : Int) < (ni : Int) := by omega
      by_cases he : pt z = (y1, y2)
      · have he1 : z.1 = y1 := congrArg Prod.fst he
        have he2 : z.2.1 = y2 := congrArg Prod.snd he
        cases hf : hasP (pt z) (K'.map (·.1)) with
        | true =>
          have R : Hid (x = 6) := by
            have e := unhide A
            rw [(unhide E1) (.inr hf), unhide HX] at e
            injection e
          have C := pput_no w0 X.drew p v' K' (z, la, ln, lc) hPD (unhide HS') (by omega) hf
          unfold cnV at C
          simp only at C
          have HC := hide C
          have HBD := hide hPD.bel
          rw [← he1] at hg1
          rw [← he2] at hg2
          clear E1 E2 A g1' g2' m0' m1' m2' m3' m4' m5' hO4 hs4 bl hbX hX1 hPX hPD C hf he he1 he2 hy hz
          go_wp2_with fail
          rw [← hX]
          clear hX g1 g2 m0 m1 m2 m3 m4 m5
          go_region_with (go_at_call 207; refine (unhide HC).mono ?_; rintro e w4 ⟨rfl, hb4⟩; have HB4 : Hid (Below w0.heap.size w0 w4) := bel_on (unhide HBD) (hb4.mono (unhide HBD).size |> fun q => ⟨q.os, q.tape, q.output, q.size, hb4.block⟩); clear hb4)
          all_goals
            go_wp2
            go_ret
            exact ⟨by rw [unhide R]; rfl, unhide HB4, fun e => absurd e (by rw [unhide R]; decide)⟩
        | false =>
          have A2 : Hid (∀ K'' : List CV, K''.map (·.1) = putC z (K'.map (·.1)) → putbGo I S (K.map (·.1)) = putbGo (I.drop (k + 1)) (S.drop (k + 1)) (K''.map (·.1))) := fun K'' hK => by
            rw [unhide A, (unhide E2) (by rintro (q | q); exact q he; rw [hf] at q; cases q), hK]
          have C := pput_yes w0 X.drew p v' K' (z, la, ln, lc) hPD (unhide HS') (by omega) hf ⟨hO4, hs4⟩
          unfold cnV at C
          simp only at C
          have HC := hide C
          have GD : Hid (Gr w X.drew (PuS p v)) := ((unhide HG).on (unhide HBX)).draw
          rw [← he1] at hg1
          rw [← he2] at hg2
          have hXs : wr.heap.size ≤ X.heap.size := (unhide HBX).size
          have hws : w.heap.size ≤ wr.heap.size := (unhide HG).size
          clear E1 E2 A g1' g2' m0' m1' m2' m3' m4' m5' hO4 hs4 bl hbX hX1 hPX hPD C hf he he1 he2 hy hz
          go_wp2_with fail
          rw [← hX]
          clear hX g1 g2 m0 m1 m2 m3 m4 m5
          go_region_with (go_at_call 207; refine (unhide HC).mono ?_; rintro e w4 ⟨v4, K4, rfl, hK4, hsub4, hl4, hP4, hG4, hv4⟩; have H4 : Hid (K4.map (·.1) = putC z (K'.map (·.1)) ∧ K4.length = K'.length + 1 ∧ Pu w0 w4 p v4 K4 ∧ Gr X.drew w4 (PuS p v') ∧ (v4.ownBlock = v'.ownBlock ∨ ∀ k, v4.ownBlock = some k → X.heap.size ≤ k)) := ⟨hK4, hl4, hP4, hG4, hv4⟩; clear hK4 hsub4 hl4 hP4 hG4 hv4)
          all_goals
            obtain ⟨hK4, hl4, hP4, hG4, hv4⟩ := unhide H4
            have R : Hid (Hid (putbGo I S (K.map (·.1)) = putbGo (I.drop (k + 1)) (S.drop (k + 1)) (K4.map (·.1))) ∧ Hid (Srt (K4.map (·.1))) ∧ K4.length ≤ K.length + (k + 1) ∧ Hid (Pu w0 w4 p v4 K4) ∧ Hid (Gr w w4 (PuS p v)) ∧ Hid (v4.ownBlock = v.ownBlock ∨ ∀ k, v4.ownBlock = some k → w.heap.size ≤ k)) := by
              refine ⟨(unhide A2) K4 hK4, ?_, by omega, hP4, ?_, ?_⟩
              · show Srt _; rw [hK4]; exact putC_srt (unhide HS')
              · refine (unhide GD).trans2 hG4 (fun q hq hT => ?_)
                rcases hT with e | e
                · exact .inl e
                · rcases unhide HV with f | f
                  · exact .inr (by rw [← f]; exact e)
                  · have := f q e; omega
              · rcases hv4 with f | f
                · rcases unhide HV with g | g
                  · exact .inl (by rw [f, g])
                  · exact .inr (fun q hq => g q (by rw [← f]; exact hq))
                · exact .inr (fun q hq => by have := f q hq; omega)
            clear hK4 hl4 hP4 hG4 hv4 H4
            go_wp2
            go_roundw
            case rel =>
              obtain ⟨r1, r2, r3, r4, r5, r6⟩ := unhide R
              exact ⟨k + 1, K4, v4, by omega, by go_num, r1, r2, r3, r4, r5, r6⟩
            case measure => simp [intOf]; omega
      · have R : Hid (x = 6) := by
          have e := unhide A
          rw [(unhide E1) (.inl he), unhide HX] at e
          injection e
        have HBD := hide hPD.bel
        by_cases e1 : z.1 = y1
        · have e2 : ¬ (z.2.1 = y2) := fun q => he (by unfold pt; rw [e1, q])
          subst e1
          clear E1 E2 A g1' g2' m0' m1' m2' m3' m4' m5' hO4 hs4 bl hbX hX1 hPX hPD he hy hz
          go_wp2_with fail
          rw [← hX]
          clear hX g1 g2 m0 m1 m2 m3 m4 m5
          go_quiet (fail)
          go_wp2
          go_ret
          exact ⟨by rw [unhide R]; rfl, bel_on (unhide HBD) ⟨rfl, rfl, rfl, Nat.le_refl _, fun _ _ => rfl⟩, fun e => absurd e (by rw [unhide R]; decide)⟩
        · clear E1 E2 A g1' g2' m0' m1' m2' m3' m4' m5' hO4 hs4 bl hbX hX1 hPX hPD he hy hz
          go_wp2_with fail
          rw [← hX]
          clear hX g1 g2 m0 m1 m2 m3 m4 m5
          go_quiet (fail)
          go_wp2
          go_ret
          exact ⟨by rw [unhide R]; rfl, bel_on (unhide HBD) ⟨rfl, rfl, rfl, Nat.le_refl _, fun _ _ => rfl⟩, fun e => absurd e (by rw [unhide R]; decide)⟩
    · have e : k = ni := by omega
      subst e
      have R := unhide A
      rw [putbGo_end (by rw [unhide HZI]; exact Nat.le_refl _), unhide HX] at R
      have R1 : Hid (x = 0) := by show _ = _; injection R
      have R2 : M = K'.map (·.1) := by injection R
      subst R2
      clear R A
      go_wp2
      go_ret
      exact ⟨by rw [unhide R1]; rfl, (unhide HP').bel, fun _ => ⟨v', K', rfl, unhide HS', hKl, unhide HP', unhide HG⟩⟩

end Go.Proofs.YtmomfkikogbdeaaGreatDoor

/- The contract of Revert. -/
namespace Go.Proofs.YtmomfkikogbdeaaGreatDoor
open Go.RowKit

/-- What Revert answers. -/
def RvR (w w' : World) (x : Int) (M : List CoinD) (e : Ending) : Prop :=
  ∃ am nm cm, e = .returned (.tuple #[.slice am nm cm, .int .i64 x]) ∧ CoinsAt w' am nm M ∧ SlOk am nm cm ∧ Below w.heap.size w w'
theorem rv_err {w w' : World} {x y : Int} {M : List CoinD} (h : (x, M) = ((y : Int), ([] : List CoinD))) (hb : Below w.heap.size w w') : RvR w w' x M (.returned (.tuple #[.slice none 0 0, .int .i64 y])) := by
  injection h with h1 h3
  subst h1 h3
  exact ⟨none, 0, 0, rfl, RowsAt.nil _ _, slok_nil, hb⟩

set_option maxRecDepth 10000 in
set_option maxHeartbeats 12800000 in
theorem revert_is (a : Option Addr) (n c : Nat) (L : List CoinD) (h : Int) (ai ao : Option Addr) (ni ci no co : Nat) (I : List InD) (O : List OutD) (name : Int) (sa : Option Addr) (ns cs : Nat) (S : List CoinD) (x : Int) (M : List CoinD) (w : World) (hL : CoinsAt w a n L) (sL : SlOk a n c) (hI : InsAt w ai ni I) (hO : OutsAt w ao no O) (sI : SlOk ai ni ci) (hS : CoinsAt w sa ns S) (hx : rvD L (h, I, O) name S = (x, M)) :
    Calls Tryz.prog 198 #[.slice a n c, .agg #[.int .i64 h, .slice ai ni ci, .slice ao no co], .int .i64 name, .agg #[.slice sa ns cs]] w fun e w' => RvR w w' x M e := by
  obtain ⟨X0, hX0⟩ : ∃ X0, X0 = (w.alloc (.cells #[.int .i64 h, .slice ai ni ci, .slice ao no co] 59)).alloc (.cells #[.slice sa ns cs] 153) := ⟨_, rfl⟩
  have hb0 : Below w.heap.size w X0 := by rw [hX0]; exact bel_on (bel_new _ _) (bel_new _ _)
  have hX1 : X0.heap[w.heap.size]? = some (.cells [.int .i64 h, .slice ai ni ci, .slice ao no co].toArray 59 (0, 0)) := by
    rw [hX0, Below.heap_alloc _ _ _ (by simp)]; exact three_heap _ _ _ _ _
  have hX2 : X0.heap[w.heap.size + 1]? = some (.cells [.slice sa ns cs].toArray 153 (0, 0)) := by
    rw [hX0]
    have := heap_alloc_new (w.alloc (.cells #[.int .i64 h, .slice ai ni ci, .slice ao no co] 59)) (.cells #[.slice sa ns cs] 153)
    rw [show (w.alloc (.cells #[.int .i64 h, .slice ai ni ci, .slice ao no co] 59)).heap.size = w.heap.size + 1 by simp] at this
    exact this
  obtain ⟨x1, h1⟩ : ∃ x1, ckBoth L (h, I, O) = x1 := ⟨_, rfl⟩
  obtain ⟨⟨x2, M2⟩, h2⟩ : ∃ r, backGo name 0 O L = r := ⟨_, rfl⟩
  obtain ⟨⟨x3, M3⟩, h3⟩ : ∃ r, putbGo I S M2 = r := ⟨_, rfl⟩
  obtain ⟨x4, h4⟩ : ∃ x4, ckCoins M3 = x4 := ⟨_, rfl⟩
  rw [rvD_eq h1 h2 h3 h4] at hx
  have hlen : S.length = ns ∧ I.length = ni := ⟨hS.1, hI.1⟩
  have C1 := hide (checkBoth_is a n c L h ai ao ni ci no co I O x1 X0 (hL.later hb0) (hI.later hb0) (hO.later hb0) sI h1)
  have HX1 := hide hX1
  have HX2 := hide hX2
  have HB0 := hide hb0
  have y0 := cell_of hX1 0 _ rfl
  have y1 := cell_of hX1 1 _ rfl
  have y2 := cell_of hX1 2 _ rfl
  have hsz : w.heap.size + 1 < X0.heap.size := lt_of_block hX2
  by_cases e1 : x1 = 0
  · subst e1
    rw [if_neg (by decide)] at hx
    obtain ⟨hRC, hTx⟩ := ckBoth_zero h1
    obtain ⟨t1, t2, t3, _⟩ := chkTx_zero hTx
    have hni : ni ≤ 6 := by rw [← hI.1]; exact t1
    have hno : no ≤ 6 := by rw [← hO.1]; exact t2
    have hn : n ≤ 720 := by rw [← hL.1]; exact hRC.len
    by_cases e0 : ns = ni
    · subst e0
      rw [if_neg (by show ¬ S.length ≠ I.length; omega)] at hx
      have OPN := hide (fun w' (hb : Below X0.heap.size X0 w') => uopen_is a n c L w' (by omega) ((hL.later hb0).later hb) sL)
      have HI := hide (fun w' (hb : Below X0.heap.size X0 w') => (hI.later hb0).later hb)
      have HO := hide (fun w' (hb : Below X0.heap.size X0 w') => (hO.later hb0).later hb)
      have HSp := hide (fun w' (hb : Below X0.heap.size X0 w') => (hS.later hb0).later hb)
      have HRC := hide hRC
      have H2 := hide h2
      have H3 := hide h3
      have H4 := hide h4
      have HX := hide hx
      have HZL := hide hL.1
      clear hL sL hI hO sI hS h1 hX1 hX2 hb0 hRC hTx t1 t2 t3 h2 h3 h4 hx hlen
      go_enter Tryz.func198, Tryz.ntmps198
      go_wp2_with fail
      rw [← hX0]
      clear hX0
      refine (unhide C1).mono ?_
      rintro e w2 ⟨rfl, hb2⟩
      have OP2 := hide ((unhide OPN) w2 hb2)
      have HI2 := hide ((unhide HI) w2 hb2)
      have HO2 := hide ((unhide HO) w2 hb2)
      have HS2 := hide ((unhide HSp) w2 hb2)
      have hh2 := (hb2.block _ (lt_of_block (unhide HX1))).trans (unhide HX1)
      have hu2 := (hb2.block _ (lt_of_block (unhide HX2))).trans (unhide HX2)
      have c1 := cell_of hh2 1 _ rfl
      have u0 := cell_of hu2 0 _ rfl
      have HH2 := hide hh2
      have HU2 := hide hu2
      have HB2 := hide (bel_on (unhide HB0) hb2)
      clear hb2 hh2 hu2 y0 y1 y2 OPN HI HO HSp C1
      go_wp2_with fail
      refine (unhide OP2).mono ?_
      rintro e w3 ⟨p, v, K, rfl, hK, hP3⟩
      have hKl : K.length = n := by rw [← unhide HZL, ← hK, List.length_map]
      have hsrt : Srt (K.map (·.1)) := by rw [hK]; exact (unhide HRC).srt
      have TB := hide (takeBack_is w2 w3 p v K ao no co O name x2 M2 hP3 hsrt (by omega) (unhide HO2) hno (by rw [hK]; exact unhide H2))
      have hh3 := (hP3.bel.block _ (lt_of_block (unhide HH2))).trans (unhide HH2)
      have d2 := cell_of hh3 2 _ rfl
      have HKL := hide hKl
      clear hK hP3 hKl hsrt hh3 OP2 c1 u0
      go_wp2_with fail
      refine (unhide TB).mono ?_
      rintro e w4 ⟨rfl, hb4, hgv⟩
      have hh4 := (hb4.block _ (lt_of_block (unhide HH2))).trans (unhide HH2)
      have hu4 := (hb4.block _ (lt_of_block (unhide HU2))).trans (unhide HU2)
      have k1 := cell_of hh4 1 _ rfl
      have k2 := cell_of hu4 0 _ rfl
      have HB4 := hide hb4
      clear hh4 hu4 d2 TB hb4
      by_cases e2 : x2 = 0
      · subst e2
        obtain ⟨v4, K4, r1, r2, r3, r4, r5⟩ := hgv rfl
        have hx := unhide HX
        rw [if_neg (by decide)] at hx
        have HXa := hide hx
        have hKl := unhide HKL
        have PB := hide (putBack_is w2 w4 p v4 K4 ai ns ci I sa cs S x3 M3 r4 (by rw [r1]; exact r2) (by omega) (unhide HI2) (unhide HS2) hni (by rw [r1]; exact unhide H3))
        have hK4 : K4.length ≤ 720 := by omega
        clear hgv hx HX r1 r2 r3 r4 r5 hKl
        go_wp2_with fail
        refine (unhide PB).mono ?_
        rintro e w5 ⟨rfl, hb5, hgv5⟩
        have HB5 := hide hb5
        clear k1 k2 PB hb5
        by_cases e3 : x3 = 0
        · subst e3
          obtain ⟨v5, K5, s1, s2, s3, s4, s5⟩ := hgv5 rfl
          have hx := unhide HXa
          rw [if_neg (by decide)] at hx
          have HXb := hide hx
          obtain ⟨a6, c6, rfl, hc6, hs6⟩ := s4.coins
          obtain ⟨n6, hn6⟩ : ∃ n6, K5.length = n6 := ⟨_, rfl⟩
          rw [s1, hn6] at hc6
          have hbox := s4.box
          rw [hn6] at hbox
          have p6 := cell_of (X := [.slice a6 n6 c6]) hbox 0 _ rfl
          have hn6' : n6 ≤ 726 := by omega
          have CK := hide (uCheck_any a6 n6 c6 M3 x4 w5 hc6 (unhide H4))
          have HC6 := hide hc6
          have HS6 : Hid (SlOk a6 n6 c6) := by rw [← hn6]; exact hs6
          clear hgv5 hx HXa s1 s2 s3 s4 s5 hc6 hs6 hn6 hbox
          go_wp2_with fail
          refine (unhide CK).mono ?_
          rintro e w7 ⟨rfl, hb7⟩
          have p7 := cell_later hb7 p6
          have HC7 := hide ((unhide HC6).later hb7)
          have HB7 : Hid (Below w2.heap.size w2 w7) := (unhide HB5).trans (hb7.mono (unhide HB5).size)
          clear hb7 p6 CK HC6
          by_cases e4 : x4 = 0
          · subst e4
            have hx := unhide HXb
            rw [if_neg (by decide)] at hx
            have hx0 : x = 0 := by injection hx with hx _; exact hx.symm
            have hxM : M = M3 := by injection hx with _ hx; exact hx.symm
            subst hx0 hxM
            have hRM := (ckCoins_zero M).1 (unhide H4)
            have CP := hide (copyCoins_is a6 n6 c6 M w7 (by omega) (unhide HC7) (unhide HS6) (fun z hz => by have := chk_len (ck1_zero (hRM.one z hz)).2.2.2.2.2.2.2.2; omega))
            clear hx HXb hRM
            go_wp2_with fail
            refine (unhide CP).mono ?_
            rintro e w8 ⟨a8, c8, rfl, hf8, hs8, hb8⟩
            have HEND : Hid (RvR w w8 0 M (.returned (.tuple #[.slice a8 n6 c8, .int .i64 0]))) :=
              ⟨a8, n6, c8, rfl, hf8 w8 (Gr.refl _ _), hs8, bel_on (unhide HB2) ((unhide HB7).trans (hb8.mono (unhide HB7).size))⟩
            clear hf8 hs8 hb8 CP p7
            go_wp2
            go_ret2
            exact unhide HEND
          · have g : (x4 != 0) = true := by simp [e4]
            have HE : Hid ((x, M) = ((x4 : Int), ([] : List CoinD))) := by have := unhide HXb; rw [if_pos e4] at this; exact this.symm
            have HBE := hide (bel_on (unhide HB2) (unhide HB7))
            clear e4 p7
            go_wp2
            go_ret2
            exact rv_err (unhide HE) (unhide HBE)
        · have g : (x3 == 0) = false := by simp [e3]
          have g' : (x3 != 0) = true := by simp [e3]
          have HE : Hid ((x, M) = ((x3 : Int), ([] : List CoinD))) := by have := unhide HXa; rw [if_pos e3] at this; exact this.symm
          have HBE := hide (bel_on (unhide HB2) (unhide HB5))
          clear e3 hgv5
          go_wp2
          go_ret2
          exact rv_err (unhide HE) (unhide HBE)
      · have g : (x2 == 0) = false := by simp [e2]
        have g' : (x2 != 0) = true := by simp [e2]
        have HE : Hid ((x, M) = ((x2 : Int), ([] : List CoinD))) := by have := unhide HX; rw [if_pos e2] at this; exact this.symm
        have HBE := hide (bel_on (unhide HB2) (unhide HB4))
        clear e2 hgv k1 k2
        go_wp2
        go_ret2
        exact rv_err (unhide HE) (unhide HBE)
    · have HE : Hid ((x, M) = ((4 : Int), ([] : List CoinD))) := by rw [if_pos (by show S.length ≠ I.length; omega)] at hx; exact hx.symm
      have g : ((ns : Int) != (ni : Int)) = true := by simp; omega
      clear hL sL hI hO sI hS h1 hX1 hX2 hb0 hRC hTx t1 t2 t3 h2 h3 h4 hx hlen e0
      go_enter Tryz.func198, Tryz.ntmps198
      go_wp2_with fail
      rw [← hX0]
      clear hX0
      refine (unhide C1).mono ?_
      rintro e w2 ⟨rfl, hb2⟩
      have hh2 := (hb2.block _ (lt_of_block (unhide HX1))).trans (unhide HX1)
      have hu2 := (hb2.block _ (lt_of_block (unhide HX2))).trans (unhide HX2)
      have c1 := cell_of hh2 1 _ rfl
      have u0 := cell_of hu2 0 _ rfl
      have HB2 := hide (bel_on (unhide HB0) hb2)
      clear hb2 hh2 hu2 y0 y1 y2
      go_wp2
      go_ret2
      exact rv_err (unhide HE) (unhide HB2)
  · have g : (x1 != 0) = true := by simp [e1]
    have HE : Hid ((x, M) = ((x1 : Int), ([] : List CoinD))) := by rw [if_pos e1] at hx; exact hx.symm
    clear hL sL hI hO sI hS h1 hX1 hX2 hb0 h2 h3 h4 hx e1 hlen
    go_enter Tryz.func198, Tryz.ntmps198
    go_wp2_with fail
    rw [← hX0]
    clear hX0
    refine (unhide C1).mono ?_
    rintro e w2 ⟨rfl, hb2⟩
    have HB2 := hide (bel_on (unhide HB0) hb2)
    clear hb2 y0 y1 y2
    go_wp2
    go_ret2
    exact rv_err (unhide HE) (unhide HB2)

end Go.Proofs.YtmomfkikogbdeaaGreatDoor
