/- The contract of takeBack: the coins that give put are taken. -/
import Derived.Test.YtepmnpapdknocaaGreatDoorCoinApplyB
import Derived.Test.YtepmnpapdknocaaGreatDoorCoinEq
namespace Go.Proofs.YtepmnpapdknocaaGreatDoor
open Go.RowKit

theorem backGo_none {name : Int} {O : List OutD} {k : Nat} (hk : k < O.length) {L : List CoinD} (ht : takeD (name, (k : Int)) L = none) : backGo name k (O.drop k) L = (7, []) := by
  rw [List.drop_eq_getElem_cons hk, backGo, ht]
theorem backGo_unlike {name : Int} {O : List OutD} {k : Nat} (hk : k < O.length) {L M : List CoinD} {c : CoinD} (ht : takeD (name, (k : Int)) L = some (c, M)) (hu : (cv c, ck c) ≠ O[k]) : backGo name k (O.drop k) L = (7, []) := by
  rw [List.drop_eq_getElem_cons hk, backGo, ht]; simp only; rw [if_neg hu]
theorem backGo_on {name : Int} {O : List OutD} {k : Nat} (hk : k < O.length) {L M : List CoinD} {c : CoinD} (ht : takeD (name, (k : Int)) L = some (c, M)) (hu : (cv c, ck c) = O[k]) : backGo name k (O.drop k) L = backGo name (k + 1) (O.drop (k + 1)) M := by
  rw [List.drop_eq_getElem_cons hk, backGo, ht]; simp only; rw [if_pos hu]
theorem backGo_end {name : Int} {O : List OutD} {k : Nat} (hk : O.length ≤ k) (L : List CoinD) : backGo name k (O.drop k) L = (0, L) := by
  rw [List.drop_of_length_le hk, backGo]

set_option maxRecDepth 10000 in
set_option maxHeartbeats 12800000 in
theorem takeBack_is (w0 w : World) (p : Nat) (v : Value) (K : List CV) (ao : Option Addr) (no co : Nat) (O : List OutD) (name x : Int) (M : List CoinD) (hP : Pu w0 w p v K) (hs : Srt (K.map (·.1))) (hn : K.length ≤ 4096) (hO : OutsAt w0 ao no O) (hno : no ≤ 6) (hx : backGo name 0 O (K.map (·.1)) = (x, M)) :
    Calls Tryz.prog 76 #[.pointer (some ⟨p, 0, none⟩), .slice ao no co, .int .i64 name] w fun e w' => e = .returned (.int .i64 x) ∧ Below w0.heap.size w0 w' ∧ (x = 0 → Given w0 w w' p v K.length M) := by
  have hpw : p < w.heap.size := hP.lt
  have HP := hide hP
  have HS := hide hs
  have HO := hide hO
  have HZ := hide hO.1
  have HX := hide hx
  clear hP hs hO hx
  go_enter Tryz.func76, Tryz.ntmps76
  go_wp2
  go_loopw [13] (fun i wr => ∃ (k : Nat) (K' : List CV) (v' : Value), k ≤ no ∧ i = .int .i64 k ∧ Hid (backGo name 0 O (K.map (·.1)) = backGo name k (O.drop k) (K'.map (·.1))) ∧ Hid (Srt (K'.map (·.1))) ∧ K'.length ≤ K.length ∧ Hid (Pu w0 wr p v' K') ∧ Hid (Gr w wr (PuS p v)) ∧ Hid (v'.ownBlock = v.ownBlock)) (fun i _ => no - (intOf i).toNat)
  case atStart => exact ⟨0, K, v, Nat.zero_le _, rfl, rfl, HS, Nat.le_refl _, HP, Gr.refl _ _, rfl⟩
  case round =>
    obtain ⟨k, K', v', hk, rfl, A, HS', hKl, HP', HG, HV⟩ := hrel
    clear HS HP
    by_cases hlt : k < no
    · have hlk : k < O.length := by rw [unhide HZ]; exact hlt
      obtain ⟨b, off, rfl, hbl, hcell⟩ := (unhide HO).2 (by omega)
      have hin0 := hcell k hlk
      have E1 := hide (fun ht => backGo_none (name := name) hlk (L := K'.map (·.1)) ht)
      have E2 := hide (fun M c ht hu => backGo_unlike (name := name) hlk (L := K'.map (·.1)) (M := M) (c := c) ht hu)
      have E3 := hide (fun M c ht hu => backGo_on (name := name) hlk (L := K'.map (·.1)) (M := M) (c := c) ht hu)
      obtain ⟨y, hy⟩ : ∃ y, O[k] = y := ⟨_, rfl⟩
      rw [hy] at hin0 E2 E3
      obtain ⟨y1, lk⟩ := y
      obtain ⟨g1', la, ln, lc, g2', g4, g5⟩ := hin0
      have g1 := cell_later (unhide HP').bel g1'
      have g2 := cell_later (unhide HP').bel g2'
      simp only at g1 g2 g4
      obtain ⟨X, hX⟩ : ∃ X, X = wr.alloc (.cells #[.int .i64 y1, .slice la ln lc] 84) := ⟨_, rfl⟩
      have hbX : Below wr.heap.size wr X := by rw [hX]; exact bel_new _ _
      have hX1 : X.heap[wr.heap.size]? = some (.cells [.int .i64 y1, .slice la ln lc].toArray 84 (0, 0)) := by rw [hX]; exact heap_alloc_new wr _
      have hPX := (unhide HP').kept hbX
      have HX1 := hide hX1
      have HPX := hide hPX
      have HBX := hide hbX
      have hpr : p < wr.heap.size := (unhide HP').lt
      have HL0 : Hid (OpsAt w0 la ln lk) := g4
      cases hf : hasP (name, (k : Int)) (K'.map (·.1)) with
      | false =>
        have C := hide (ptake_none w0 X p v' K' (name, (k : Int)) hPX (unhide HS') (by omega) hf)
        have R : Hid (x = 7) := by
          have e := unhide A
          rw [(unhide E1) (takeD_none hf), unhide HX] at e
          injection e
        clear E1 E2 E3 hbX hX1 hPX hf hy A g1' g2' g4
        go_wp2_with fail
        rw [← hX]
        clear hX
        refine (unhide C).mono ?_
        rintro e w3 ⟨rfl, hb3⟩
        have HB3 := hide (((unhide HPX).kept hb3).bel)
        unfold zeroC
        clear hb3
        go_wp2
        go_ret
        exact ⟨by rw [unhide R]; rfl, bel_on (unhide HB3) (bel_new _ _), fun e => absurd e (by rw [unhide R]; decide)⟩
      | true =>
        have C := hide (ptake_some w0 X p v' K' (name, (k : Int)) hPX (unhide HS') (by omega) hf)
        clear hbX hX1 hPX hf hy E1 g1' g2' g4
        go_wp2_with fail
        rw [← hX]
        clear hX
        refine (unhide C).mono ?_
        rintro e w3 ⟨z, v3, K3, rfl, ht, hzm, hsub, hlen, hP3, hG3, hv3⟩
        have hzl := (unhide HP').lk z hzm
        have hsrt3 := takeD_srt ht (unhide HS')
        have hnS : ¬ PuS p v' wr.heap.size := by
          rintro (e | e)
          · omega
          · have := ((unhide HP').own.lt _ e).2; omega
        have hh3 := hG3.heap (unhide HX1) hnS
        obtain ⟨Y, hY⟩ : ∃ Y, Y = w3.alloc (.cells #[.int .i64 z.1.1, .int .i64 z.1.2.1, .int .i64 (cv z.1), .slice z.2.1 z.2.2.1 z.2.2.2, .int .i64 (ch z.1), .bool (cr z.1)] 88) := ⟨_, rfl⟩
        have hbY : Below w3.heap.size w3 Y := by rw [hY]; exact bel_new _ _
        have hPY := hP3.kept hbY
        have q0 := cell_of hh3 0 _ rfl
        have q1 := cell_of hh3 1 _ rfl
        have hw3r : wr.heap.size < w3.heap.size := lt_of_block hh3
        obtain ⟨o, ho⟩ : ∃ o, decide ((cv z.1, ck z.1) = (y1, lk)) = o := ⟨_, rfl⟩
        have OS := sameOut_is (cv z.1, ck z.1) (y1, lk) z.2.1 la z.2.2.1 z.2.2.2 ln lc o Y hzl.2.len (hzl.1.later hPY.bel) ((unhide HL0).later hPY.bel) ho
        simp only at OS
        have HOS := hide OS
        have HPY := hide hPY
        have GY : Hid (Gr w Y (PuS p v)) := by
          refine ((unhide HG).on (unhide HBX)).trans2 (hG3.on hbY) (fun q hq hT => ?_)
          rcases hT with e | e
          · exact .inl e
          · exact .inr (by rw [← unhide HV]; exact e)
        have HV3 : Hid (v3.ownBlock = v.ownBlock) := by show _ = _; rw [hv3]; exact unhide HV
        have HS3 := hide hsrt3
        have HLEN : Hid (K3.length ≤ K.length) := by show _ ≤ _; omega
        unfold cnV
        cases o with
        | false =>
          have R : Hid (x = 7) := by
            have e := unhide A
            rw [(unhide E2) _ _ ht (of_decide_eq_false ho), unhide HX] at e
            injection e
          clear E2 E3 A ht hzm hsub hlen hP3 hG3 hv3 hzl hsrt3 hnS hh3 hbY hPY OS ho g1 g2 C
          go_wp2_with fail
          rw [← hY]
          clear hY
          refine (unhide HOS).mono ?_
          rintro e w5 ⟨rfl, hb5⟩
          have HB5 := hide ((unhide HPY).kept hb5).bel
          clear hb5
          go_wp2
          go_ret
          exact ⟨by rw [unhide R]; rfl, unhide HB5, fun e => absurd e (by rw [unhide R]; decide)⟩
        | true =>
          have A2 : Hid (backGo name 0 O (K.map (·.1)) = backGo name (k + 1) (O.drop (k + 1)) (K3.map (·.1))) := by
            show _ = _
            rw [unhide A, (unhide E3) _ _ ht (of_decide_eq_true ho)]
          clear E2 E3 A ht hzm hsub hlen hP3 hG3 hv3 hzl hsrt3 hnS hh3 hbY hPY OS ho g1 g2 C
          go_wp2_with fail
          rw [← hY]
          clear hY
          refine (unhide HOS).mono ?_
          rintro e w5 ⟨rfl, hb5⟩
          have HP5 := hide ((unhide HPY).kept hb5)
          have HG5 := hide ((unhide GY).on hb5)
          clear hb5
          go_wp2
          go_roundw
          case rel => exact ⟨k + 1, K3, v3, by omega, by go_num, A2, HS3, unhide HLEN, HP5, HG5, HV3⟩
          case measure => simp [intOf]; omega
    · have e : k = no := by omega
      subst e
      have R := unhide A
      rw [backGo_end (by rw [unhide HZ]; exact Nat.le_refl _), unhide HX] at R
      have R1 : Hid (x = 0) := by show _ = _; injection R
      have R2 : M = K'.map (·.1) := by injection R
      subst R2
      clear R A
      go_wp2
      go_ret
      exact ⟨by rw [unhide R1]; rfl, (unhide HP').bel, fun _ => ⟨v', K', rfl, unhide HS', hKl, unhide HP', unhide HG⟩⟩

end Go.Proofs.YtepmnpapdknocaaGreatDoor
