/- The contract of the reference's Disconnected: of right coins and a right book it answers as Disconnect does. -/
import Derived.Test.YtepmnpapdknocaaGreatDoorRefNames
import Derived.Test.YtepmnpapdknocaaGreatDoorRefReverted
import Derived.Test.YtepmnpapdknocaaGreatDoorBlkDisA
import Derived.Test.YtepmnpapdknocaaGreatDoorBlkSameB
import Derived.Deep.RegionHeld3
import Derived.Deep.AppendLies
namespace Go.Proofs.YtepmnpapdknocaaGreatDoor
open Go.RowKit

/-- The reference's order: 0, then the last ones first. -/
def ordL (m k : Nat) : List Int := (List.range k).map fun j => (((m - j) % m : Nat) : Int)
theorem ordL_len (m k : Nat) : (ordL m k).length = k := by simp [ordL]
theorem ordL_succ (m k : Nat) : ordL m (k + 1) = ordL m k ++ [(((m - k) % m : Nat) : Int)] := by simp [ordL, List.range_succ]
theorem ordL_at (m k j : Nat) (h : j < k) : (ordL m k)[j]'(by rw [ordL_len]; exact h) = (((m - j) % m : Nat) : Int) := by simp [ordL]
theorem rv_right {L S M : List CoinD} {t : TxD} {name : Int} (h : rvD L t name S = (0, M)) : RightC M := by
  unfold rvD at h
  split at h
  · rename_i q; injection h with e _; exact absurd e q
  split at h
  · injection h with e _; exact absurd e (by decide)
  split at h
  · rename_i q; injection h with e _; exact absurd e q
  split at h
  · rename_i q; injection h with e _; exact absurd e q
  split at h
  · rename_i q; injection h with e _; exact absurd e q
  · rename_i q
    injection h with _ e
    rw [← e]
    exact (ckCoins_zero _).1 (Decidable.not_not.1 q)

set_option maxRecDepth 10000 in
set_option maxHeartbeats 6400000 in
theorem rdis_main (ka : Option Addr) (kn kc : Nat) (K : List ByteArray) (la : Option Addr) (ln lc : Nat) (C0 : List CoinD) (p h k0 n : Int) (a : Option Addr) (m c : Nat) (T : List TxD) (ua : Option Addr) (uc : Nat) (S : List (List CoinD)) (X1 : List ByteArray) (nm1 : Int) (N : List Int) (x : Int) (C' : List CoinD) (w : World) (hE : EnvF w) (hK : Bk.TextsAt w ka kn K) (sK : Bk.SlOk ka kn kc) (hR : Bk.Right K) (hC : CoinsAt w la ln C0) (sC : SlOk la ln lc) (hRC : RightC C0) (hT : TxsAt w a m T) (hU : UndosAt w ua m S) (hnm : nmsB K (p, h, k0, n, T) = (X1, nm1, N, 0)) (hx : disGo T N S m C0 = (x, C')) :
    Calls Tryz.prog 16 #[.slice ka kn kc, .slice la ln lc, .agg #[.int .i64 p, .int .i64 h, .int .i64 k0, .int .i64 n, .slice a m c], .slice ua m uc] w fun e w' => RvR w w' x C' e := by
  obtain ⟨X, hX⟩ : ∃ X, X = w.alloc (.cells #[.int .i64 p, .int .i64 h, .int .i64 k0, .int .i64 n, .slice a m c] 28) := ⟨_, rfl⟩
  have hbX : Below w.heap.size w X := by rw [hX]; exact bel_new _ _
  have hXb : X.heap[w.heap.size]? = some (.cells [.int .i64 p, .int .i64 h, .int .i64 k0, .int .i64 n, .slice a m c].toArray 28 (0, 0)) := by rw [hX]; exact five_heap _ _ _ _ _ _ _
  have NF := hide (rnames_is ka kn kc K p h k0 n a m c T X1 nm1 N 0 X (hE.later hbX) (hK.later hbX) sK hR (hT.later hbX) hnm)
  have hb0 := (nms_zero hnm).1
  obtain ⟨hm0, hm4, _, _⟩ := chkB_few hb0
  have zT : T.length = m := hT.1
  rw [show (p, h, k0, n, T).2.2.2.2 = T from rfl, zT] at hm0 hm4
  have zS : S.length = m := hU.1
  have zN : N.length = m := by rw [(nms_zero hnm).2.2.2.2.1]; simpa using zT
  have hck : ∀ t ∈ T, chkTx t = 0 := (chkB_zero hb0).2.2.2.2
  obtain ⟨i0, hi, hz0, hz1, hz2⟩ := info_parts Tryz.infoInt
  have x0 := cell_of hXb 0 _ rfl
  have x1 := cell_of hXb 1 _ rfl
  have x2 := cell_of hXb 2 _ rfl
  have x3 := cell_of hXb 3 _ rfl
  have x4 := cell_of hXb 4 _ rfl
  have xl := lt_of_block hXb
  have HBX := hide hbX
  have HXB := hide hXb
  have HC := hide (hC.later hbX)
  have HT := hide (hT.later hbX)
  have HU := hide (hU.later hbX)
  have HCK := hide hck
  have HRC := hide hRC
  have HX := hide hx
  have ZT := hide zT
  have ZS := hide zS
  have ZN := hide zN
  have gm : ((m : Int) != (m : Int)) = false := by simp
  clear hE hK sK hR hC hRC hT hU hnm hx hbX hXb hb0 hck zT zS zN
  go_enter Tryz.func16, Tryz.ntmps16
  go_wp2_with fail
  rw [← hX]
  clear hX
  (try go_wp2_with fail)
  refine (unhide NF).mono ?_
  rintro e w1 ⟨a', n', c', na, nn, nc, rfl, _, _, hN, hb1⟩
  have y4 := cell_later hb1 x4
  have yl := World.block_lt_of_cell? _ _ y4
  obtain ⟨Y, hY⟩ : ∃ Y, Y = w1.alloc (.cells #[.int .i64 0] 3) := ⟨_, rfl⟩
  have hbY : Below w1.heap.size w1 Y := by rw [hY]; exact bel_new _ _
  have hYs : Y.heap[w1.heap.size]? = some (.cells #[.int .i64 0] 3 (0, 0)) := by rw [hY]; exact heap_alloc_new _ _
  have OW : Hid (Y.ownsRow w1.heap.size 3 1 (.slice (some ⟨w1.heap.size, 0, none⟩) 1 1) (ordL m 1).length ((ordL m 1).map (Value.int .i64))) := by
    show World.ownsRow _ _ _ _ _ _ _
    have e : (ordL m 1).map (Value.int .i64) = [.int .i64 0] := by simp [ordL, List.range_succ]
    rw [e, ordL_len]
    exact ⟨rfl, .inr ⟨w1.heap.size, 1, _, rfl, Nat.le_refl _, hYs, Nat.le_refl _, by unfold maxLen; omega, rfl, rfl⟩⟩
  have HN := hide hN
  have HB1 := hide hb1
  have HBY := hide (bel_on hb1 hbY)
  have HY1 := hide hbY
  clear hN hb1 hbY hYs NF x0 x1 x2 x3 x4 xl
  have hm1 : ((m : Int) - 1) = ((m - 1 : Nat) : Int) := by omega
  go_wp2_with fail
  rw [← hY]
  clear hY
  (try go_wp2_with fail)
  go_loopw [14, 15] (fun ov iv wr => ∃ (k : Nat) (oc : Nat) (g : Nat), 1 ≤ k ∧ k ≤ m ∧ ov = .slice (some ⟨g, 0, none⟩) k oc ∧ iv = .int .i64 ((m - k : Nat) : Int) ∧ Hid (wr.ownsRow w1.heap.size 3 1 (.slice (some ⟨g, 0, none⟩) k oc) k ((ordL m k).map (Value.int .i64))) ∧ Hid (Below w1.heap.size w1 wr)) (fun _ iv _ => (intOf iv).toNat)
  case atStart =>
    have o1 := unhide OW
    rw [ordL_len] at o1
    exact ⟨1, 1, w1.heap.size, Nat.le_refl _, hm0, rfl, by rw [← hm1], o1, HY1⟩
  case round =>
    obtain ⟨k, oc, g, hk1, hkm, rfl, rfl, HO, HB⟩ := hrel
    clear OW HY1 HBY
    by_cases hlt : k < m
    · obtain ⟨d, hd⟩ : ∃ d, m - k = d := ⟨_, rfl⟩
      have hd0 : 0 < d := by omega
      have hdI : (0 : Int) < (d : Int) := by omega
      rw [hd]
      have hbn := bel_new wr (.cells #[.int .i64 (d : Int)] 3)
      have OWN5 := hide ((Gr.of (S := fun _ => False) hbn).own (unhide HO) (fun _ _ q => q))
      have NEWS := hide (World.news_of_block (heap_alloc_new wr (.cells #[.int .i64 (d : Int)] 3)))
      have HB6 := hide (bel_on (unhide HB) hbn)
      have HOL : Hid (ordL m (k + 1) = ordL m k ++ [(d : Int)]) := by show _ = _; rw [ordL_succ, Nat.mod_eq_of_lt (show m - k < m by omega), hd]
      have HD := hide hd
      have hdm : d < m := by omega
      clear hbn hd
      go_wp2_with (at_builtin; refine wpList_append_lies _ rfl _ _ 30 rfl w1.heap.size 3 i0 (.int .i64 0) 1 8 Tryz.underlying30 hi hz0 hz1 hz2 rfl (by decide) _ _ _ rfl (unhide OWN5) ⟨wr.heap.size, 0, none⟩ 1 1 [.int .i64 (d : Int)] rfl rfl (unhide NEWS) (fun u hu => by simp at hu; subst hu; rfl) (by decide) (by unfold maxLen; omega) (by omega) (unhide HB6).size _ rfl ?_; intro g7 cap7 w7 hown7 hgrow7 hor7 _)
      have OWN7 : Hid (w7.ownsRow w1.heap.size 3 1 (.slice (some ⟨g7, 0, none⟩) (k + 1) cap7) (k + 1) ((ordL m (k + 1)).map (Value.int .i64))) := by
        show World.ownsRow _ _ _ _ _ _ _
        rw [unhide HOL, List.map_append]
        exact hown7
      have HB7 := hide ((unhide HB6).grown hgrow7 (unhide HB6).size (fun k hk => ((unhide OWN5).lt k hk).1))
      clear hown7 hgrow7 hor7
      have hwd : IntKind.i64.wrap ((d : Int) - 1) = ((m - (k + 1) : Nat) : Int) := by have := unhide HD; rw [IntKind.wrap_i64]; omega
      go_wp2
      go_roundw
      case rel => exact ⟨k + 1, cap7, g7, by omega, by omega, rfl, by have := unhide HD; go_num, OWN7, HB7⟩
      case measure => have := unhide HD; simp [intOf]; omega
    · have hkm2 : m = k := by omega
      subst hkm2
      have hd0 : ((m - m : Nat) : Int) = 0 := by omega
      rw [hd0]
      clear hkm hk1 hlt hd0 hi hz0 hz1 hz2 hm1
      obtain ⟨ra, rcap, hre, hrow⟩ := row_of_own (unhide HO)
      cases hre
      obtain ⟨rb, ro, hre, hrc⟩ := hrow.2.2 hm0
      cases hre
      have ROWC : Hid (∀ V, Below wr.heap.size wr V → ∀ i, i < m → V.cell? ⟨g, i, none⟩ = some (.int .i64 (((m - i) % m : Nat) : Int))) := fun V hb i hi => by
        have q := cell_later hb (hrc i hi)
        rw [Nat.zero_add, List.getD_eq_getElem?_getD, List.getElem?_eq_getElem (by rw [ordL_len]; exact hi), ordL_at m m i hi] at q
        exact q
      clear hrow hrc
      have HBX1 := hide (bel_on (unhide HB1) (unhide HB))
      have HCR := hide ((unhide HC).later (unhide HBX1))
      clear HO
      obtain ⟨Z, hZ⟩ : ∃ Z, Z = wr := ⟨_, rfl⟩
      subst hZ
      go_wp2_with fail
      go_loopw [1, 13, 49] (fun lv ev iv V => ∃ (k : Nat) (oa : Option Addr) (oon oc : Nat) (C : List CoinD), k ≤ m ∧ lv = .slice oa oon oc ∧ ev = .int .i64 0 ∧ iv = .int .i64 k ∧ Hid (CoinsAt V oa oon C ∧ SlOk oa oon oc ∧ RightC C) ∧ Hid (disGo T N S (m - k) C = (x, C')) ∧ Hid (Below Z.heap.size Z V)) (fun _ _ iv _ => m - (intOf iv).toNat)
      case atStart => exact ⟨0, la, ln, lc, C0, Nat.zero_le _, rfl, rfl, rfl, (⟨unhide HCR, sC, unhide HRC⟩ : CoinsAt Z la ln C0 ∧ SlOk la ln lc ∧ RightC C0), HX, (⟨rfl, rfl, rfl, Nat.le_refl _, fun _ _ => rfl⟩ : Below Z.heap.size Z Z)⟩
      case round =>
        obtain ⟨k, oa, oon, oc, C, hk, rfl, rfl, rfl, HO, HQ, HV⟩ := hrel
        clear HCR HX HRC HC
        have HBV := hide (bel_on (unhide HBX1) (unhide HV))
        have hxb := ((unhide HBV).block _ (lt_of_block (unhide HXB))).trans (unhide HXB)
        have v4 := cell_of hxb 4 _ rfl
        have vl := lt_of_block hxb
        clear hxb
        by_cases hlt : k < m
        · have hil : (m - k) % m < m := Nat.mod_lt _ hm0
          have ok := (unhide ROWC) wr (unhide HV) k hlt
          have okl := World.block_lt_of_cell? _ _ ok
          obtain ⟨i, hi⟩ : ∃ i, (m - k) % m = i := ⟨_, rfl⟩
          rw [hi] at hil ok
          have hmk : m - k = (m - (k + 1)) + 1 := by omega
          have hiT : i < T.length := by rw [unhide ZT]; exact hil
          have hiN : i < N.length := by rw [unhide ZN]; exact hil
          have hiS : i < S.length := by rw [unhide ZS]; exact hil
          obtain ⟨t1, I, O, ht⟩ : ∃ t1 I O, T[i] = (t1, I, O) := ⟨_, _, _, rfl⟩
          obtain ⟨nm, hnm⟩ : ∃ nm, N[i] = nm := ⟨_, rfl⟩
          obtain ⟨s, hs⟩ : ∃ s, S[i] = s := ⟨_, rfl⟩
          obtain ⟨y, M, hrv⟩ : ∃ y M, rvD C (t1, I, O) nm s = (y, M) := ⟨_, _, rfl⟩
          have HEQ := unhide HQ
          rw [hmk, disGo_at (i := i) (by rw [unhide ZT, ← hmk]; exact hi) (t := (t1, I, O)) (by rw [List.getD_eq_getElem?_getD, List.getElem?_eq_getElem hiT]; exact ht) (nm := nm) (by rw [List.getD_eq_getElem?_getD, List.getElem?_eq_getElem hiN]; exact hnm) (s := s) (by rw [List.getD_eq_getElem?_getD, List.getElem?_eq_getElem hiS]; exact hs) hrv] at HEQ
          have HEQ := hide HEQ
          obtain ⟨tb, tof, rfl, _, htc⟩ := (unhide HT).2 hm0
          have tc := htc i hiT
          have hck := (unhide HCK) T[i] (List.getElem_mem hiT)
          rw [ht] at tc hck
          obtain ⟨c0, ⟨ai, ni, ci, c1, hIn, sIn⟩, ao, no2, co, c2, hOut, sOut⟩ := tc
          obtain ⟨ub, uo, rfl, _, huc⟩ := (unhide HU).2 hm0
          obtain ⟨sa, ns, cs, c3, hSp, sSp⟩ := huc i hiS
          rw [hs] at hSp
          have hnn : nn = m := (unhide HN).1.symm.trans (unhide ZN)
          obtain ⟨nb, no, rfl, hcn⟩ := (unhide HN).2 (by omega)
          have c4 := hcn i hiN
          rw [hnm] at c4
          simp only at c0 c1 c2 hIn hOut
          have RV : Hid (∀ U, Below wr.heap.size wr U → Calls Tryz.prog 44 #[.slice oa oon oc, .agg #[.int .i64 t1, .slice ai ni ci, .slice ao no2 co], .int .i64 nm, .agg #[.slice sa ns cs]] U fun e w' => RvR U w' y M e) := fun U hb =>
            have hx := bel_on (unhide HBV) hb
            reverted_any oa oon oc C t1 ai ao ni ci no2 co I O nm sa ns cs s y M U ((unhide HO).1.later hb) (unhide HO).2.1 (hIn.later hx) (hOut.later hx) (hSp.later hx) (unhide HO).2.2 hck hrv
          have KS : Hid (∀ U, Below wr.heap.size wr U → Below wr.heap.size wr U ∧ U.cell? ⟨w.heap.size, 4, none⟩ = some (.slice (some ⟨tb, tof, none⟩) m c) ∧ U.cell? ⟨tb, tof + i * 3, none⟩ = some (.int .i64 t1) ∧ U.cell? ⟨tb, tof + i * 3 + 1, none⟩ = some (.slice ai ni ci) ∧ U.cell? ⟨tb, tof + i * 3 + 2, none⟩ = some (.slice ao no2 co) ∧ U.cell? ⟨nb, no + i, none⟩ = some (.int .i64 nm) ∧ U.cell? ⟨ub, uo + i, none⟩ = some (.slice sa ns cs)) := fun U hb => by
            have hx := bel_on (unhide HBV) hb
            have h1 := bel_on (bel_on (unhide HB) (unhide HV)) hb
            exact ⟨hb, cell_later hb v4, cell_later hx c0, cell_later hx c1, cell_later hx c2, cell_later h1 c4, cell_later hx c3⟩
          have HRV := hide hrv
          have hkI : (k : Int) < (m : Int) := by omega
          have hiI : (i : Int) < (m : Int) := by omega
          have hi0 : ¬ ((i : Int) < 0) := by omega
          subst hnn
          clear c0 c1 c2 c3 c4 hIn hOut hSp hcn huc htc hs hnm ht hck sIn sOut sSp hrv hi hmk HQ hiT hiN hiS v4 vl
          go_wp2_with fail
          refine wp_region_held_drew (S := fun U => Below wr.heap.size wr U ∧ U.cell? ⟨w.heap.size, 4, none⟩ = some (.slice (some ⟨tb, tof, none⟩) nn c) ∧ U.cell? ⟨tb, tof + i * 3, none⟩ = some (.int .i64 t1) ∧ U.cell? ⟨tb, tof + i * 3 + 1, none⟩ = some (.slice ai ni ci) ∧ U.cell? ⟨tb, tof + i * 3 + 2, none⟩ = some (.slice ao no2 co) ∧ U.cell? ⟨nb, no + i, none⟩ = some (.int .i64 nm) ∧ U.cell? ⟨ub, uo + i, none⟩ = some (.slice sa ns cs)) (by kernel_rfl) ((unhide KS) _ (bel_draw1 _)) (fun hHeld => ?_)
          refine wpAnyH_take (i := 0) (oi := { dst := some 54, op := Op.move (Operand.tmp 1), type := 25, pos := "second.go:300", after := #[], guard := none }) (v := ?_) rfl (by kernel_rfl) (by kernel_rfl) (by kernel_rfl) (fun _ _ _ h => h) (Or.inl ⟨by rfl, ?_⟩) hHeld ?_
          rotate_left
          · (intro W hSw; (try dsimp only at hSw); go_simp; first | done | with_reducible rfl)
          (try simp only [Act.put, List.setIfInBounds_toArray, List.set_cons_zero, List.set_cons_succ])
          refine wpAnyH_take (i := 1) (oi := { dst := some 55, op := Op.fieldAddr 28 (Operand.tmp 6) 4, type := 0, pos := "second.go:300", after := #[], guard := none }) (v := ?_) rfl (by kernel_rfl) (by kernel_rfl) (by kernel_rfl) (fun _ _ _ h => h) (Or.inl ⟨by rfl, ?_⟩) hHeld ?_
          rotate_left
          · (intro W hSw; (try dsimp only at hSw); go_simp; first | done | with_reducible rfl)
          (try simp only [Act.put, List.setIfInBounds_toArray, List.set_cons_zero, List.set_cons_succ])
          refine wpAnyH_take (i := 2) (oi := { dst := some 56, op := Op.load 26 (Operand.tmp 55), type := 26, pos := "second.go:300", after := #[{ on := 1, ground := Ground.data }], guard := none }) (v := ?_) rfl (by kernel_rfl) (by kernel_rfl) (by kernel_rfl) (fun _ _ _ h => h) (Or.inl ⟨by rfl, ?_⟩) hHeld ?_
          rotate_left
          · (intro W hSw; (try dsimp only at hSw); go_simp; first | done | with_reducible rfl)
          (try simp only [Act.put, List.setIfInBounds_toArray, List.set_cons_zero, List.set_cons_succ])
          refine wpAnyH_take (i := 3) (oi := { dst := some 57, op := Op.move (Operand.tmp 17), type := 3, pos := "second.go:300", after := #[], guard := none }) (v := ?_) rfl (by kernel_rfl) (by kernel_rfl) (by kernel_rfl) (fun _ _ _ h => h) (Or.inl ⟨by rfl, ?_⟩) hHeld ?_
          rotate_left
          · (intro W hSw; (try dsimp only at hSw); go_simp; first | done | with_reducible rfl)
          (try simp only [Act.put, List.setIfInBounds_toArray, List.set_cons_zero, List.set_cons_succ])
          refine wpAnyH_take (i := 4) (oi := { dst := some 58, op := Op.indexAddr 26 (Operand.tmp 56) (Operand.tmp 57), type := 0, pos := "second.go:300", after := #[{ on := 2, ground := Ground.data }, { on := 3, ground := Ground.data }], guard := none }) (v := ?_) rfl (by kernel_rfl) (by kernel_rfl) (by kernel_rfl) (fun _ _ _ h => h) (Or.inl ⟨by rfl, ?_⟩) hHeld ?_
          rotate_left
          · (intro W hSw; (try dsimp only at hSw); go_simp; first | done | with_reducible rfl)
          (try simp only [Act.put, List.setIfInBounds_toArray, List.set_cons_zero, List.set_cons_succ])
          refine wpAnyH_take (i := 5) (oi := { dst := some 59, op := Op.load 74 (Operand.tmp 58), type := 74, pos := "second.go:300", after := #[{ on := 4, ground := Ground.data }], guard := none }) (v := ?_) rfl (by kernel_rfl) (by kernel_rfl) (by kernel_rfl) (fun _ _ _ h => h) (Or.inl ⟨by rfl, ?_⟩) hHeld ?_
          rotate_left
          · (intro W hSw; (try dsimp only at hSw); go_simp; first | done | with_reducible rfl)
          (try simp only [Act.put, List.setIfInBounds_toArray, List.set_cons_zero, List.set_cons_succ])
          refine wpAnyH_take (i := 6) (oi := { dst := some 60, op := Op.move (Operand.tmp 12), type := 30, pos := "second.go:300", after := #[], guard := none }) (v := ?_) rfl (by kernel_rfl) (by kernel_rfl) (by kernel_rfl) (fun _ _ _ h => h) (Or.inl ⟨by rfl, ?_⟩) hHeld ?_
          rotate_left
          · (intro W hSw; (try dsimp only at hSw); go_simp; first | done | with_reducible rfl)
          (try simp only [Act.put, List.setIfInBounds_toArray, List.set_cons_zero, List.set_cons_succ])
          refine wpAnyH_take (i := 7) (oi := { dst := some 61, op := Op.move (Operand.tmp 17), type := 3, pos := "second.go:300", after := #[], guard := none }) (v := ?_) rfl (by kernel_rfl) (by kernel_rfl) (by kernel_rfl) (fun _ _ _ h => h) (Or.inl ⟨by rfl, ?_⟩) hHeld ?_
          rotate_left
          · (intro W hSw; (try dsimp only at hSw); go_simp; first | done | with_reducible rfl)
          (try simp only [Act.put, List.setIfInBounds_toArray, List.set_cons_zero, List.set_cons_succ])
          refine wpAnyH_take (i := 8) (oi := { dst := some 62, op := Op.indexAddr 30 (Operand.tmp 60) (Operand.tmp 61), type := 0, pos := "second.go:300", after := #[{ on := 6, ground := Ground.data }, { on := 7, ground := Ground.data }], guard := none }) (v := ?_) rfl (by kernel_rfl) (by kernel_rfl) (by kernel_rfl) (fun _ _ _ h => h) (Or.inl ⟨by rfl, ?_⟩) hHeld ?_
          rotate_left
          · (intro W hSw; (try dsimp only at hSw); go_simp; first | done | with_reducible rfl)
          (try simp only [Act.put, List.setIfInBounds_toArray, List.set_cons_zero, List.set_cons_succ])
          refine wpAnyH_take (i := 9) (oi := { dst := some 63, op := Op.load 3 (Operand.tmp 62), type := 3, pos := "second.go:300", after := #[{ on := 8, ground := Ground.data }], guard := none }) (v := ?_) rfl (by kernel_rfl) (by kernel_rfl) (by kernel_rfl) (fun _ _ _ h => h) (Or.inl ⟨by rfl, ?_⟩) hHeld ?_
          rotate_left
          · (intro W hSw; (try dsimp only at hSw); go_simp; first | done | with_reducible rfl)
          (try simp only [Act.put, List.setIfInBounds_toArray, List.set_cons_zero, List.set_cons_succ])
          refine wpAnyH_take (i := 10) (oi := { dst := some 64, op := Op.move (Operand.tmp 3), type := 29, pos := "second.go:300", after := #[], guard := none }) (v := ?_) rfl (by kernel_rfl) (by kernel_rfl) (by kernel_rfl) (fun _ _ _ h => h) (Or.inl ⟨by rfl, ?_⟩) hHeld ?_
          rotate_left
          · (intro W hSw; (try dsimp only at hSw); go_simp; first | done | with_reducible rfl)
          (try simp only [Act.put, List.setIfInBounds_toArray, List.set_cons_zero, List.set_cons_succ])
          refine wpAnyH_take (i := 11) (oi := { dst := some 65, op := Op.move (Operand.tmp 17), type := 3, pos := "second.go:300", after := #[], guard := none }) (v := ?_) rfl (by kernel_rfl) (by kernel_rfl) (by kernel_rfl) (fun _ _ _ h => h) (Or.inl ⟨by rfl, ?_⟩) hHeld ?_
          rotate_left
          · (intro W hSw; (try dsimp only at hSw); go_simp; first | done | with_reducible rfl)
          (try simp only [Act.put, List.setIfInBounds_toArray, List.set_cons_zero, List.set_cons_succ])
          refine wpAnyH_take (i := 12) (oi := { dst := some 66, op := Op.indexAddr 29 (Operand.tmp 64) (Operand.tmp 65), type := 0, pos := "second.go:300", after := #[{ on := 10, ground := Ground.data }, { on := 11, ground := Ground.data }], guard := none }) (v := ?_) rfl (by kernel_rfl) (by kernel_rfl) (by kernel_rfl) (fun _ _ _ h => h) (Or.inl ⟨by rfl, ?_⟩) hHeld ?_
          rotate_left
          · (intro W hSw; (try dsimp only at hSw); go_simp; first | done | with_reducible rfl)
          (try simp only [Act.put, List.setIfInBounds_toArray, List.set_cons_zero, List.set_cons_succ])
          refine wpAnyH_take (i := 13) (oi := { dst := some 67, op := Op.load 68 (Operand.tmp 66), type := 68, pos := "second.go:300", after := #[{ on := 12, ground := Ground.data }], guard := none }) (v := ?_) rfl (by kernel_rfl) (by kernel_rfl) (by kernel_rfl) (fun _ _ _ h => h) (Or.inl ⟨by rfl, ?_⟩) hHeld ?_
          rotate_left
          · (intro W hSw; (try dsimp only at hSw); go_simp; first | done | with_reducible rfl)
          (try simp only [Act.put, List.setIfInBounds_toArray, List.set_cons_zero, List.set_cons_succ])
          refine wpAnyH_ready (rs := [14]) (by kernel_rfl) (by simp) ?_
          refine AllReadyH.cons (o := { dst := some 68, op := Op.call { callee := Callee.value (Operand.func 44), args := #[Operand.tmp 54, Operand.tmp 59, Operand.tmp 63, Operand.tmp 67], argTypes := #[25, 74, 3, 68] }, type := 36, pos := "second.go:300", after := #[{ on := 0, ground := Ground.data }, { on := 5, ground := Ground.data }, { on := 9, ground := Ground.data }, { on := 13, ground := Ground.data }], guard := none }) rfl (fun K hK => ?_) AllReadyH.nil
          refine step_callS (by kernel_rfl) 44 #[.slice oa oon oc, .agg #[.int .i64 t1, .slice ai ni ci, .slice ao no2 co], .int .i64 nm, .agg #[.slice sa ns cs]] (by kernel_rfl) ((unhide RV) _ hHeld.1) ?_
          rintro e w6 ⟨am, nm6, cm, rfl, hM6, sM6, hbc⟩
          refine ⟨_, rfl, ?_⟩
          have HM6 := hide hM6
          have SM6 := hide sM6
          have HB6 := hide (bel_on hHeld.1 hbc)
          clear hM6 sM6 hbc
          refine hK.out _ _ ((unhide KS) _ (unhide HB6)) (fun hHeld2 => ?_)
          clear hK K hHeld
          have hHeld := hHeld2
          clear hHeld2
          (try simp only [Act.put, List.setIfInBounds_toArray, List.set_cons_zero, List.set_cons_succ])
          refine wpAnyH_take (i := 15) (oi := { dst := some 53, op := Op.move (Operand.tmp 68), type := 36, pos := "second.go:300", after := #[{ on := 14, ground := Ground.data }], guard := none }) (v := ?_) rfl (by kernel_rfl) (by kernel_rfl) (by kernel_rfl) (fun _ _ _ h => h) (Or.inl ⟨by rfl, ?_⟩) hHeld ?_
          rotate_left
          · (intro W hSw; (try dsimp only at hSw); go_simp; first | done | with_reducible rfl)
          (try simp only [Act.put, List.setIfInBounds_toArray, List.set_cons_zero, List.set_cons_succ])
          refine wpAnyH_take (i := 16) (oi := { dst := some 69, op := Op.extract (Operand.tmp 53) 0, type := 25, pos := "second.go:300", after := #[{ on := 15, ground := Ground.data }], guard := none }) (v := ?_) rfl (by kernel_rfl) (by kernel_rfl) (by kernel_rfl) (fun _ _ _ h => h) (Or.inl ⟨by rfl, ?_⟩) hHeld ?_
          rotate_left
          · (intro W hSw; (try dsimp only at hSw); go_simp; first | done | with_reducible rfl)
          (try simp only [Act.put, List.setIfInBounds_toArray, List.set_cons_zero, List.set_cons_succ])
          refine wpAnyH_take (i := 17) (oi := { dst := some 70, op := Op.extract (Operand.tmp 53) 1, type := 31, pos := "second.go:300", after := #[{ on := 15, ground := Ground.data }, { on := 18, ground := Ground.gcOnly Departure.lateStores }], guard := none }) (v := ?_) rfl (by kernel_rfl) (by kernel_rfl) (by kernel_rfl) (fun _ _ _ h => h) (Or.inl ⟨by rfl, ?_⟩) hHeld ?_
          rotate_left
          · (intro W hSw; (try dsimp only at hSw); go_simp; first | done | with_reducible rfl)
          (try simp only [Act.put, List.setIfInBounds_toArray, List.set_cons_zero, List.set_cons_succ])
          refine wpAnyH_take (i := 18) (oi := { dst := some 1, op := Op.assign (Operand.tmp 69), type := 25, pos := "second.go:300", after := #[{ on := 16, ground := Ground.data }, { on := 14, ground := Ground.chain }, { on := 0, ground := Ground.phase }, { on := 1, ground := Ground.phase }, { on := 2, ground := Ground.phase }, { on := 3, ground := Ground.phase }, { on := 4, ground := Ground.phase }, { on := 5, ground := Ground.phase }, { on := 6, ground := Ground.phase }, { on := 7, ground := Ground.phase }, { on := 8, ground := Ground.phase }, { on := 9, ground := Ground.phase }, { on := 10, ground := Ground.phase }, { on := 11, ground := Ground.phase }, { on := 12, ground := Ground.phase }, { on := 13, ground := Ground.phase }, { on := 14, ground := Ground.phase }, { on := 15, ground := Ground.phase }, { on := 16, ground := Ground.phase }, { on := 17, ground := Ground.textOnly Departure.lateStores }], guard := none }) (v := ?_) rfl (by kernel_rfl) (by kernel_rfl) (by kernel_rfl) (fun _ _ _ h => h) (Or.inl ⟨by rfl, ?_⟩) hHeld ?_
          rotate_left
          · (intro W hSw; (try dsimp only at hSw); go_simp; first | done | with_reducible rfl)
          (try simp only [Act.put, List.setIfInBounds_toArray, List.set_cons_zero, List.set_cons_succ])
          refine wpAnyH_take (i := 19) (oi := { dst := some 13, op := Op.assign (Operand.tmp 70), type := 31, pos := "second.go:300", after := #[{ on := 17, ground := Ground.data }, { on := 18, ground := Ground.chain }, { on := 0, ground := Ground.phase }, { on := 1, ground := Ground.phase }, { on := 2, ground := Ground.phase }, { on := 3, ground := Ground.phase }, { on := 4, ground := Ground.phase }, { on := 5, ground := Ground.phase }, { on := 6, ground := Ground.phase }, { on := 7, ground := Ground.phase }, { on := 8, ground := Ground.phase }, { on := 9, ground := Ground.phase }, { on := 10, ground := Ground.phase }, { on := 11, ground := Ground.phase }, { on := 12, ground := Ground.phase }, { on := 13, ground := Ground.phase }, { on := 14, ground := Ground.phase }, { on := 15, ground := Ground.phase }, { on := 16, ground := Ground.phase }, { on := 17, ground := Ground.phase }, { on := 18, ground := Ground.phase }], guard := none }) (v := ?_) rfl (by kernel_rfl) (by kernel_rfl) (by kernel_rfl) (fun _ _ _ h => h) (Or.inl ⟨by rfl, ?_⟩) hHeld ?_
          rotate_left
          · (intro W hSw; (try dsimp only at hSw); go_simp; first | done | with_reducible rfl)
          (try simp only [Act.put, List.setIfInBounds_toArray, List.set_cons_zero, List.set_cons_succ])
          refine wpAnyH_done (by kernel_rfl) ?_ _
          have HBW := hide (bel_on (unhide HV) (unhide HB6))
          have HWW := hide (bel_on (unhide HBX) (bel_on (unhide HBV) (unhide HB6)))
          clear hHeld KS RV
          by_cases ey : y = 0
          · subst ey
            have HQ2 : Hid (disGo T N S (nn - (k + 1)) M = (x, C')) := by have e := unhide HEQ; rw [if_neg (by decide)] at e; exact e
            have HR2 := hide (rv_right (unhide HRV))
            go_wp2
            go_roundw
            case rel => exact ⟨k + 1, am, nm6, cm, M, by omega, rfl, rfl, by go_num, (⟨unhide HM6, unhide SM6, unhide HR2⟩ : CoinsAt w6 am nm6 M ∧ SlOk am nm6 cm ∧ RightC M), HQ2, HBW⟩
            case measure => simp [intOf]; omega
          · have g : (y != 0) = true := by simp [ey]
            have HE2 : Hid ((x, C') = (y, ([] : List CoinD))) := by have e := unhide HEQ; rw [if_pos ey] at e; exact e.symm
            go_wp2
            go_ret2
            exact rv_err (unhide HE2) (unhide HWW)
        · have hkm2 : m = k := by omega
          subst hkm2
          have HE2 : Hid ((0, C) = (x, C')) := by have e := unhide HQ; rw [Nat.sub_self] at e; exact e
          have HWW := hide (bel_on (unhide HBX) (unhide HBV))
          clear HQ hlt
          go_wp2
          go_ret2
          obtain ⟨e1, e2⟩ := Prod.mk.inj (unhide HE2)
          subst e1 e2
          exact ⟨oa, oon, oc, rfl, (unhide HO).1, (unhide HO).2.1, unhide HWW⟩

end Go.Proofs.YtepmnpapdknocaaGreatDoor
