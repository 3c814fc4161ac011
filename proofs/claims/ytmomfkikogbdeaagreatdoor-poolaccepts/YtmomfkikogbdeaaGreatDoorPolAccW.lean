/- The law PoolAccepts answers true (written by a program of ours: mkpa.py). -/
import Derived.Test.YtmomfkikogbdeaaGreatDoorPolYesToBookEq
namespace Go.Proofs.YtmomfkikogbdeaaGreatDoor
open Go.RowKit

theorem accepts_law {K K2 : List ByteArray} {C : List CoinD} {l M : List TxD} {t : TxD} {h : Int} (e : acE K C l t h = (0, K2, M)) :
    swE K C l h = 0 ∧ M = (swGo h l (K, C)).1 ++ [t] ∧ swE K2 C M h = 0 ∧ (∃ C2, swGo h M (K2, C) = (M, K2, C2)) ∧ acE K2 C M t h = (6, [], []) := by
  unfold acE at e
  split at e
  · rename_i q; injection e with e _; exact absurd e q
  rename_i q1
  split at e
  · injection e with e _; exact absurd e (by decide)
  rename_i q2
  split at e
  · rename_i q; injection e with e _; exact absurd e q
  rename_i q3
  split at e
  · injection e with e _; exact absurd e (by decide)
  rename_i q4
  injection e with _ e
  injection e with e1 e2
  have h0 := Decidable.not_not.1 q1
  have ho := openE_zero (swE_zero h0).1
  have hd : doD h (swGo h l (K, C)).2 t = (0, K2, (doD h (swGo h l (K, C)).2 t).2.2) := Prod.ext (Decidable.not_not.1 q3) (Prod.ext e1 rfl)
  have hr := (sw_right (h := h) l K C ho.1).1
  have hf := do_facts (K := (swGo h l (K, C)).2.1) (C := (swGo h l (K, C)).2.2) hr hd
  have ha := accepts ho.1 hd
  have hl : (swGo h l (K, C)).1.length ≤ 8 := by
    rw [← swT_map, List.length_map]
    exact Nat.le_trans (swT_len h l (K, C)) (swE_zero h0).2
  have hs2 : swE K2 C M h = 0 := by
    unfold swE
    rw [if_neg (fun q => q (openE_mk hf.1 ho.2.1 ho.2.2.1 ho.2.2.2)), if_neg]
    rw [← e2, List.length_append]
    simp only [List.length_cons, List.length_nil]
    omega
  subst e2
  refine ⟨h0, rfl, hs2, ⟨_, ha⟩, ?_⟩
  unfold acE
  rw [if_neg (fun q => q hs2), ha, if_pos]
  rw [List.any_append]
  simp [sameT_eq]

set_option maxRecDepth 10000 in
set_option maxHeartbeats 12800000 in
theorem lawPAccepts_any (ka : Option Addr) (kn kc : Nat) (K : List ByteArray) (la : Option Addr) (ln lc : Nat) (C : List CoinD) (a : Option Addr) (m c : Nat) (L : List TxD) (th : Int) (ai ao : Option Addr) (ni ci no co : Nat) (I : List InD) (O : List OutD) (h : Int) (w : World)
    (hE : Env w) (hK : Bk.TextsAt w ka kn K) (hC : CoinsAt w la ln C) (sC : SlOk la ln lc) (hL : TxsAt w a m L) (hI : InsAt w ai ni I) (hO : OutsAt w ao no O) (sI : SlOk ai ni ci) (sO : SlOk ao no co) :
    Calls Tryz.prog 7 #[.agg #[.slice ka kn kc], .slice la ln lc, .slice a m c, .agg #[.int .i64 th, .slice ai ni ci, .slice ao no co], .int .i64 h] w fun e w' => e = .returned (.bool true) ∧ Below w.heap.size w w' := by
  obtain ⟨X, hX⟩ : ∃ X, X = allocs w [.cells #[.slice ka kn kc] 24, .cells #[.int .i64 th, .slice ai ni ci, .slice ao no co] 59] := ⟨_, rfl⟩
  have hbX : Below w.heap.size w X := by rw [hX]; exact allocs_bel _ _
  have x0 : X.heap[w.heap.size]? = some (.cells [.slice ka kn kc].toArray 24 (0, 0)) := by rw [hX]; exact allocs_at _ w 0 _ rfl
  have x1 : X.heap[w.heap.size + 1]? = some (.cells [.int .i64 th, .slice ai ni ci, .slice ao no co].toArray 59 (0, 0)) := by rw [hX]; exact allocs_at _ w 1 _ rfl
  have hX' : X = (w.alloc (.cells #[.slice ka kn kc] 24)).alloc (.cells #[.int .i64 th, .slice ai ni ci, .slice ao no co] 59) := hX
  obtain ⟨⟨x, K2, M⟩, hac⟩ : ∃ r, acE K C L (th, I, O) h = r := ⟨_, rfl⟩
  have C1 := hide (pAccept_is ka kn kc K la ln lc C a m c L th ai ao ni ci no co I O h x K2 M X (hE.later hbX) (hK.later hbX) (hC.later hbX) sC (hL.later hbX) (hI.later hbX) (hO.later hbX) sI sO hac)
  have HE := hide (hE.later hbX)
  have HK := hide (hK.later hbX)
  have HC := hide (hC.later hbX)
  have HSC := hide sC
  have HL := hide (hL.later hbX)
  have HI := hide (hI.later hbX)
  have HO := hide (hO.later hbX)
  have HSI := hide sI
  have HSO := hide sO
  have HX0 := hide x0
  have HX1 := hide x1
  have HBX := hide hbX
  have HAC := hide hac
  have t00 := cell_of x0 0 _ rfl
  have t0l := lt_of_block x0
  have t10 := cell_of x1 0 _ rfl
  have t11 := cell_of x1 1 _ rfl
  have t12 := cell_of x1 2 _ rfl
  have t1l := lt_of_block x1
  clear hE hK hC sC hL hI hO sI sO hac hbX x0 x1 hX
  go_enter Tryz.func7, Tryz.ntmps7
  go_wp2_with fail
  rw [← hX']
  clear hX'
  (try go_wp2_with fail)
  refine (unhide C1).mono ?_
  rintro e w1 ⟨k2, k2n, k2c, ma, mn, mc, rfl, hF1, sk2, sm, hb1⟩
  obtain ⟨Y, hY⟩ : ∃ Y, Y = w1.alloc (.cells #[.slice k2 k2n k2c] 24) := ⟨_, rfl⟩
  have hbY : Below w1.heap.size w1 Y := by rw [hY]; exact bel_new _ _
  have y0 : Y.heap[w1.heap.size]? = some (.cells [.slice k2 k2n k2c].toArray 24 (0, 0)) := by rw [hY]; exact one_heap _ _ _
  obtain ⟨hKm, hMm⟩ := hF1 Y (Gr.of hbY)
  have HBY := hide (bel_on hb1 hbY)
  have HY0 := hide y0
  have HK2 := hide hKm
  have HM := hide hMm
  have HSM := hide sm
  have HSK2 := hide sk2
  have P1 := hide (pooled_yes Y ((unhide HE).later (unhide HBY)))
  obtain ⟨bk, hbk⟩ : ∃ bk, w1.heap.size = bk := ⟨_, rfl⟩
  rw [hbk] at HY0
  clear hF1 sk2 sm hb1 hbY y0 hKm hMm C1 t00 t0l t10 t11 t12 t1l
  go_wp2_with fail
  rw [← hY]
  (try rw [hbk])
  clear hY hbk
  (try go_wp2_with fail)
  refine (unhide P1).mono ?_
  rintro e w2 ⟨rfl, hb2⟩
  have HB2 := hide (bel_on (unhide HBY) hb2)
  have HY2 := hide hb2
  have P2 := hide (pooled_yes w2 ((unhide HE).later (unhide HB2)))
  clear hb2 P1
  by_cases hx0 : x = 0
  · subst hx0
    obtain ⟨m1, m2, m3, ⟨C2, m4⟩, m5⟩ := accepts_law (unhide HAC)
    obtain ⟨⟨S1, K1, Cc⟩, hsw⟩ : ∃ r, swGo h L (K, C) = r := ⟨_, rfl⟩
    rw [hsw] at m2
    simp only at m2
    obtain ⟨n, hn⟩ : ∃ n, S1.length = n := ⟨_, rfl⟩
    have hmn : mn = n + 1 := by have := (unhide HM).1; rw [m2, List.length_append, hn] at this; exact this.symm
    subst hmn
    have D1 := hide (pSweep_is ka kn kc K la ln lc C a m c L h 0 K1 S1 Cc (sumC C - sumC Cc) w2 ((unhide HE).later (unhide HB2)) ((unhide HK).later (unhide HB2)) ((unhide HC).later (unhide HB2)) (unhide HSC) ((unhide HL).later (unhide HB2)) m1 (by unfold swF; rw [if_pos rfl, hsw]))
    have hn9 : n ≤ 8 := by have q1 := swT_len h L (K, C); have q2 := (swE_zero m1).2; have q3 := congrArg List.length (swT_map h L (K, C)); rw [List.length_map, hsw] at q3; simp only at q3; omega
    have b0 := ((unhide HB2).block _ (lt_of_block (unhide HX0))).trans (unhide HX0)
    have t00 := cell_of b0 0 _ rfl
    have t0l := lt_of_block b0
    have b1 := ((unhide HB2).block _ (lt_of_block (unhide HX1))).trans (unhide HX1)
    have t10 := cell_of b1 0 _ rfl
    have t11 := cell_of b1 1 _ rfl
    have t12 := cell_of b1 2 _ rfl
    have t1l := lt_of_block b1
    clear b0 b1
    have HM2 := hide m2
    have HM3 := hide m3
    have HM4 := hide m4
    have HM5 := hide m5
    have HN := hide hn
    clear m1 m2 m3 m4 m5 hsw hn P2 t10 t11 t12 t1l
    go_wp2_with fail
    refine (unhide D1).mono ?_
    rintro e w3 ⟨k3, k3n, k3c, sa, sn, sc, ca, cn, cc, rfl, hF3, _, ss, _, hb3⟩
    obtain ⟨_, hS3, _⟩ := hF3 w3 (Gr.refl _ _)
    have hsn : n = sn := by have := hS3.1; rw [unhide HN] at this; exact this
    subst hsn
    obtain ⟨Z, hZ⟩ : ∃ Z, Z = w3.alloc (.cells #[.slice k3 k3n k3c] 24) := ⟨_, rfl⟩
    have hbZ : Below w3.heap.size w3 Z := by rw [hZ]; exact bel_new _ _
    have hYZ := bel_on (unhide HY2) (bel_on hb3 hbZ)
    have hXZ := bel_on (unhide HB2) (bel_on hb3 hbZ)
    have hSZ := hS3.later hbZ
    have hMZ := (unhide HM).later hYZ
    have HYZ := hide hYZ
    have HXZ := hide hXZ
    have HSZ := hide hSZ
    have HSS := hide ss
    obtain ⟨mb, mo, rfl, mbl, mrow⟩ := hMZ.2 (by omega)
    have hlast : n < M.length := by rw [unhide HM2, List.length_append, unhide HN]; exact Nat.lt_succ_self _
    obtain ⟨l0, ⟨xi, xn, xc, l1, hXI, sXI⟩, xo, xm, xd, l2, hXO, sXO⟩ := mrow n hlast
    have hMn : M[n] = (th, I, O) := by have q := unhide HM2; subst q; rw [List.getElem_append_right (by rw [unhide HN]; exact Nat.le_refl _)]; simp
    rw [hMn] at l0 hXI hXO
    simp only at l0 hXI hXO
    have E1 := hide (fun V (hv : Below Z.heap.size Z V) => eqTx_any (some ⟨mb, mo, none⟩) sa n n mc sc (M.take n) S1 true V (by unfold maxLen; omega) ((hMZ.later hv).take n (by omega)) (hSZ.later hv) (sameTs_yes (by rw [unhide HM2, List.take_left' (unhide HN)])))
    have E2 := hide (fun V (hv : Below Z.heap.size Z V) => txSame_is th th xi xo ai ao xn xc xm xd ni ci no co I I O O true V sXI.len sXO.len (hXI.later hv) (hXO.later hv) ((unhide HI).later (bel_on hXZ hv)) ((unhide HO).later (bel_on hXZ hv)) ((sameT_eq _ _).2 rfl))
    have smc : n + 1 ≤ mc := (unhide HSM).1
    have smc2 : n ≤ mc := by omega
    have hlt1 : (n : Int) < (n : Int) + 1 := by omega
    have hwn : IntKind.i64.wrap ((n : Int) + 1) = (n : Int) + 1 := by rw [IntKind.wrap_i64]; omega
    have hne1 : ((((n + 1 : Nat) : Int)) != (n : Int) + 1) = false := by simp
    have hne2 : (((n : Int) + 1) != (n : Int) + 1) = false := by simp
    have b0 := (hXZ.block _ (lt_of_block (unhide HX0))).trans (unhide HX0)
    have t00 := cell_of b0 0 _ rfl
    have t0l := lt_of_block b0
    have b1 := (hXZ.block _ (lt_of_block (unhide HX1))).trans (unhide HX1)
    have t10 := cell_of b1 0 _ rfl
    have t11 := cell_of b1 1 _ rfl
    have t12 := cell_of b1 2 _ rfl
    have t1l := lt_of_block b1
    clear b0 b1
    have KS : Hid (∀ U : World, Below Z.heap.size Z U → ((U.cell? ⟨mb, mo + n * 3, none⟩ = some (.int .i64 th) ∧ U.cell? ⟨mb, mo + n * 3 + 1, none⟩ = some (.slice xi xn xc) ∧ U.cell? ⟨mb, mo + n * 3 + 2, none⟩ = some (.slice xo xm xd) ∧ mb < U.heap.size) ∧ U.cell? ⟨w.heap.size + 1, 0, none⟩ = some (.int .i64 th) ∧ U.cell? ⟨w.heap.size + 1, 1, none⟩ = some (.slice ai ni ci) ∧ U.cell? ⟨w.heap.size + 1, 2, none⟩ = some (.slice ao no co) ∧ w.heap.size + 1 < U.heap.size)) := fun U hu => ⟨⟨cell_later hu l0, cell_later hu l1, cell_later hu l2, Nat.lt_of_lt_of_le mbl hu.size⟩, cell_later hu t10, cell_later hu t11, cell_later hu t12, Nat.lt_of_lt_of_le t1l hu.size⟩
    clear hF3 ss hb3 hS3 hbZ hYZ hXZ hSZ hMZ mrow hXI sXI hXO sXO hMn l0 l1 l2 t00 t0l t10 t11 t12 t1l D1 mbl hlast
    go_upto_region 5 with fail
    rw [← hZ]
    clear hZ
    refine wp_region_held_drew (S := fun U => (U.cell? ⟨mb, mo + n * 3, none⟩ = some (.int .i64 th) ∧ U.cell? ⟨mb, mo + n * 3 + 1, none⟩ = some (.slice xi xn xc) ∧ U.cell? ⟨mb, mo + n * 3 + 2, none⟩ = some (.slice xo xm xd) ∧ mb < U.heap.size) ∧ U.cell? ⟨w.heap.size + 1, 0, none⟩ = some (.int .i64 th) ∧ U.cell? ⟨w.heap.size + 1, 1, none⟩ = some (.slice ai ni ci) ∧ U.cell? ⟨w.heap.size + 1, 2, none⟩ = some (.slice ao no co) ∧ w.heap.size + 1 < U.heap.size) (by kernel_rfl) ((unhide KS) _ (bel_draw1 _)) (fun hHeld => ?_)
    refine tk 0 { dst := some 50, op := Op.move (Operand.tmp 13), type := 30, pos := "more.go:189", after := #[], guard := none } ?_ rfl ?_ hHeld ?_
    rotate_left
    · (intro U hSw; obtain ⟨⟨s1, s2, s3, s4⟩, s5, s6, s7, s8⟩ := hSw; go_simp; first | done | with_reducible rfl)
    (try simp only [Act.put, List.setIfInBounds_toArray, List.set_cons_zero, List.set_cons_succ])
    refine tk 1 { dst := some 51, op := Op.binOp BinOp.neq 30 (Operand.tmp 50) (Operand.const (Value.int IntKind.i64 0)) 30, type := 4, pos := "more.go:189", after := #[{ on := 0, ground := Ground.data }], guard := none } ?_ rfl ?_ hHeld ?_
    rotate_left
    · (intro U hSw; obtain ⟨⟨s1, s2, s3, s4⟩, s5, s6, s7, s8⟩ := hSw; go_simp; first | done | with_reducible rfl)
    (try simp only [Act.put, List.setIfInBounds_toArray, List.set_cons_zero, List.set_cons_succ])
    refine tk 2 { dst := some 52, op := Op.move (Operand.tmp 51), type := 4, pos := "more.go:189", after := #[{ on := 1, ground := Ground.data }], guard := none } ?_ rfl ?_ hHeld ?_
    rotate_left
    · (intro U hSw; obtain ⟨⟨s1, s2, s3, s4⟩, s5, s6, s7, s8⟩ := hSw; go_simp; first | done | with_reducible rfl)
    (try simp only [Act.put, List.setIfInBounds_toArray, List.set_cons_zero, List.set_cons_succ])
    refine tk 3 { dst := some 53, op := Op.move (Operand.tmp 12), type := 37, pos := "more.go:189", after := #[{ on := 2, ground := Ground.guard }], guard := some (2, false) } ?_ rfl ?_ hHeld ?_
    rotate_left
    · (intro U hSw; obtain ⟨⟨s1, s2, s3, s4⟩, s5, s6, s7, s8⟩ := hSw; go_simp; first | done | with_reducible rfl)
    (try simp only [Act.put, List.setIfInBounds_toArray, List.set_cons_zero, List.set_cons_succ])
    refine tk 4 { dst := some 54, op := Op.call { callee := Callee.builtin Builtin.len, args := #[Operand.tmp 53], argTypes := #[37] }, type := 3, pos := "more.go:189", after := #[{ on := 3, ground := Ground.data }, { on := 2, ground := Ground.guard }], guard := some (2, false) } ?_ rfl ?_ hHeld ?_
    rotate_left
    · (intro U hSw; obtain ⟨⟨s1, s2, s3, s4⟩, s5, s6, s7, s8⟩ := hSw; go_simp; first | done | with_reducible rfl)
    (try simp only [Act.put, List.setIfInBounds_toArray, List.set_cons_zero, List.set_cons_succ])
    refine tk 5 { dst := some 55, op := Op.move (Operand.tmp 15), type := 37, pos := "more.go:189", after := #[{ on := 2, ground := Ground.guard }], guard := some (2, false) } ?_ rfl ?_ hHeld ?_
    rotate_left
    · (intro U hSw; obtain ⟨⟨s1, s2, s3, s4⟩, s5, s6, s7, s8⟩ := hSw; go_simp; first | done | with_reducible rfl)
    (try simp only [Act.put, List.setIfInBounds_toArray, List.set_cons_zero, List.set_cons_succ])
    refine tk 6 { dst := some 56, op := Op.call { callee := Callee.builtin Builtin.len, args := #[Operand.tmp 55], argTypes := #[37] }, type := 3, pos := "more.go:189", after := #[{ on := 5, ground := Ground.data }, { on := 2, ground := Ground.guard }], guard := some (2, false) } ?_ rfl ?_ hHeld ?_
    rotate_left
    · (intro U hSw; obtain ⟨⟨s1, s2, s3, s4⟩, s5, s6, s7, s8⟩ := hSw; go_simp; first | done | with_reducible rfl)
    (try simp only [Act.put, List.setIfInBounds_toArray, List.set_cons_zero, List.set_cons_succ])
    refine tk 7 { dst := some 57, op := Op.binOp BinOp.add 3 (Operand.tmp 56) (Operand.const (Value.int IntKind.i64 1)) 3, type := 3, pos := "more.go:189", after := #[{ on := 6, ground := Ground.data }, { on := 2, ground := Ground.guard }], guard := some (2, false) } (.int .i64 ((n : Int) + 1)) rfl ?_ hHeld ?_
    · (intro U hSw; obtain ⟨⟨s1, s2, s3, s4⟩, s5, s6, s7, s8⟩ := hSw; go_simp; first | done | with_reducible rfl)
    (try simp only [Act.put, List.setIfInBounds_toArray, List.set_cons_zero, List.set_cons_succ])
    refine tk 8 { dst := some 58, op := Op.binOp BinOp.neq 3 (Operand.tmp 54) (Operand.tmp 57) 3, type := 4, pos := "more.go:189", after := #[{ on := 4, ground := Ground.data }, { on := 7, ground := Ground.data }, { on := 2, ground := Ground.guard }], guard := some (2, false) } (.bool false) rfl ?_ hHeld ?_
    · (intro U hSw; obtain ⟨⟨s1, s2, s3, s4⟩, s5, s6, s7, s8⟩ := hSw; go_simp; first | done | with_reducible rfl)
    (try simp only [Act.put, List.setIfInBounds_toArray, List.set_cons_zero, List.set_cons_succ])
    refine tk 9 { dst := some 59, op := Op.pick (Operand.tmp 52) (Operand.const (Value.bool true)) (Operand.tmp 58), type := 4, pos := "more.go:189", after := #[{ on := 2, ground := Ground.data }, { on := 8, ground := Ground.data }], guard := none } (.bool false) rfl ?_ hHeld ?_
    · (intro U hSw; obtain ⟨⟨s1, s2, s3, s4⟩, s5, s6, s7, s8⟩ := hSw; go_simp; first | done | with_reducible rfl)
    (try simp only [Act.put, List.setIfInBounds_toArray, List.set_cons_zero, List.set_cons_succ])
    refine tk 10 { dst := some 60, op := Op.move (Operand.tmp 59), type := 4, pos := "more.go:189", after := #[{ on := 9, ground := Ground.data }, { on := 2, ground := Ground.chain }], guard := none } (.bool false) rfl ?_ hHeld ?_
    · (intro U hSw; obtain ⟨⟨s1, s2, s3, s4⟩, s5, s6, s7, s8⟩ := hSw; go_simp; first | done | with_reducible rfl)
    (try simp only [Act.put, List.setIfInBounds_toArray, List.set_cons_zero, List.set_cons_succ])
    refine tk 11 { dst := some 61, op := Op.move (Operand.tmp 12), type := 37, pos := "more.go:189", after := #[{ on := 10, ground := Ground.guard }], guard := some (10, false) } ?_ rfl ?_ hHeld ?_
    rotate_left
    · (intro U hSw; obtain ⟨⟨s1, s2, s3, s4⟩, s5, s6, s7, s8⟩ := hSw; go_simp; first | done | with_reducible rfl)
    (try simp only [Act.put, List.setIfInBounds_toArray, List.set_cons_zero, List.set_cons_succ])
    refine tk 12 { dst := some 62, op := Op.move (Operand.tmp 15), type := 37, pos := "more.go:189", after := #[{ on := 10, ground := Ground.guard }], guard := some (10, false) } ?_ rfl ?_ hHeld ?_
    rotate_left
    · (intro U hSw; obtain ⟨⟨s1, s2, s3, s4⟩, s5, s6, s7, s8⟩ := hSw; go_simp; first | done | with_reducible rfl)
    (try simp only [Act.put, List.setIfInBounds_toArray, List.set_cons_zero, List.set_cons_succ])
    refine tk 13 { dst := some 63, op := Op.call { callee := Callee.builtin Builtin.len, args := #[Operand.tmp 62], argTypes := #[37] }, type := 3, pos := "more.go:189", after := #[{ on := 12, ground := Ground.data }, { on := 10, ground := Ground.guard }], guard := some (10, false) } ?_ rfl ?_ hHeld ?_
    rotate_left
    · (intro U hSw; obtain ⟨⟨s1, s2, s3, s4⟩, s5, s6, s7, s8⟩ := hSw; go_simp; first | done | with_reducible rfl)
    (try simp only [Act.put, List.setIfInBounds_toArray, List.set_cons_zero, List.set_cons_succ])
    refine tk 14 { dst := some 64, op := Op.slice 37 (Operand.tmp 61) none (some (Operand.tmp 63)) none, type := 37, pos := "more.go:189", after := #[{ on := 11, ground := Ground.data }, { on := 13, ground := Ground.data }, { on := 10, ground := Ground.guard }], guard := some (10, false) } (.slice (some ⟨mb, mo, none⟩) n mc) rfl ?_ hHeld ?_
    · (intro U hSw; obtain ⟨⟨s1, s2, s3, s4⟩, s5, s6, s7, s8⟩ := hSw; go_simp; first | done | with_reducible rfl)
    (try simp only [Act.put, List.setIfInBounds_toArray, List.set_cons_zero, List.set_cons_succ])
    refine tk 15 { dst := some 65, op := Op.move (Operand.tmp 15), type := 37, pos := "more.go:189", after := #[{ on := 10, ground := Ground.guard }], guard := some (10, false) } ?_ rfl ?_ hHeld ?_
    rotate_left
    · (intro U hSw; obtain ⟨⟨s1, s2, s3, s4⟩, s5, s6, s7, s8⟩ := hSw; go_simp; first | done | with_reducible rfl)
    (try simp only [Act.put, List.setIfInBounds_toArray, List.set_cons_zero, List.set_cons_succ])
    refine wpAnyH_ready (rs := [16]) (by kernel_rfl) (by simp) ?_
    refine AllReadyH.cons (o := { dst := some 66, op := Op.call { callee := Callee.value (Operand.func 29), args := #[Operand.tmp 64, Operand.tmp 65, Operand.func 30], argTypes := #[37, 37, 63] }, type := 4, pos := "more.go:189", after := #[{ on := 14, ground := Ground.data }, { on := 15, ground := Ground.data }, { on := 10, ground := Ground.chain }, { on := 10, ground := Ground.guard }], guard := some (10, false) }) rfl (fun KQ hK => ?_) AllReadyH.nil
    refine step_call_w (by kernel_rfl) 29 #[.slice (some ⟨mb, mo, none⟩) n mc, .slice sa n sc, .func (.func 30) #[] #[]] (by kernel_rfl) ((unhide E1) Z.drew (bel_draw1 _)) ?_
    rintro e w4 ⟨rfl, hb4⟩
    refine ⟨_, rfl, ?_⟩
    have hbZ4 : Below Z.heap.size Z w4 := bel_on (bel_draw1 Z) hb4
    refine hK.out _ _ ((unhide KS) _ hbZ4) (fun hHeld2 => ?_)
    clear hK KQ hHeld
    have hHeld := hHeld2
    clear hHeld2
    (try simp only [Act.put, List.setIfInBounds_toArray, List.set_cons_zero, List.set_cons_succ])
    refine tk 17 { dst := some 67, op := Op.unOp UnOp.not 4 (Operand.tmp 66), type := 4, pos := "more.go:189", after := #[{ on := 16, ground := Ground.data }, { on := 10, ground := Ground.guard }], guard := some (10, false) } ?_ rfl ?_ hHeld ?_
    rotate_left
    · (intro U hSw; obtain ⟨⟨s1, s2, s3, s4⟩, s5, s6, s7, s8⟩ := hSw; go_simp; first | done | with_reducible rfl)
    (try simp only [Act.put, List.setIfInBounds_toArray, List.set_cons_zero, List.set_cons_succ])
    refine tk 18 { dst := some 68, op := Op.pick (Operand.tmp 60) (Operand.const (Value.bool true)) (Operand.tmp 67), type := 4, pos := "more.go:189", after := #[{ on := 10, ground := Ground.data }, { on := 17, ground := Ground.data }], guard := none } ?_ rfl ?_ hHeld ?_
    rotate_left
    · (intro U hSw; obtain ⟨⟨s1, s2, s3, s4⟩, s5, s6, s7, s8⟩ := hSw; go_simp; first | done | with_reducible rfl)
    (try simp only [Act.put, List.setIfInBounds_toArray, List.set_cons_zero, List.set_cons_succ])
    refine tk 19 { dst := some 69, op := Op.move (Operand.tmp 68), type := 4, pos := "more.go:189", after := #[{ on := 18, ground := Ground.data }, { on := 16, ground := Ground.chain }], guard := none } ?_ rfl ?_ hHeld ?_
    rotate_left
    · (intro U hSw; obtain ⟨⟨s1, s2, s3, s4⟩, s5, s6, s7, s8⟩ := hSw; go_simp; first | done | with_reducible rfl)
    (try simp only [Act.put, List.setIfInBounds_toArray, List.set_cons_zero, List.set_cons_succ])
    refine tk 20 { dst := some 70, op := Op.move (Operand.tmp 12), type := 37, pos := "more.go:189", after := #[{ on := 19, ground := Ground.guard }], guard := some (19, false) } ?_ rfl ?_ hHeld ?_
    rotate_left
    · (intro U hSw; obtain ⟨⟨s1, s2, s3, s4⟩, s5, s6, s7, s8⟩ := hSw; go_simp; first | done | with_reducible rfl)
    (try simp only [Act.put, List.setIfInBounds_toArray, List.set_cons_zero, List.set_cons_succ])
    refine tk 21 { dst := some 71, op := Op.move (Operand.tmp 15), type := 37, pos := "more.go:189", after := #[{ on := 19, ground := Ground.guard }], guard := some (19, false) } ?_ rfl ?_ hHeld ?_
    rotate_left
    · (intro U hSw; obtain ⟨⟨s1, s2, s3, s4⟩, s5, s6, s7, s8⟩ := hSw; go_simp; first | done | with_reducible rfl)
    (try simp only [Act.put, List.setIfInBounds_toArray, List.set_cons_zero, List.set_cons_succ])
    refine tk 22 { dst := some 72, op := Op.call { callee := Callee.builtin Builtin.len, args := #[Operand.tmp 71], argTypes := #[37] }, type := 3, pos := "more.go:189", after := #[{ on := 21, ground := Ground.data }, { on := 19, ground := Ground.guard }], guard := some (19, false) } ?_ rfl ?_ hHeld ?_
    rotate_left
    · (intro U hSw; obtain ⟨⟨s1, s2, s3, s4⟩, s5, s6, s7, s8⟩ := hSw; go_simp; first | done | with_reducible rfl)
    (try simp only [Act.put, List.setIfInBounds_toArray, List.set_cons_zero, List.set_cons_succ])
    refine tk 23 { dst := some 73, op := Op.indexAddr 37 (Operand.tmp 70) (Operand.tmp 72), type := 0, pos := "more.go:189", after := #[{ on := 20, ground := Ground.data }, { on := 22, ground := Ground.data }, { on := 19, ground := Ground.guard }], guard := some (19, false) } (.pointer (some ⟨mb, mo + n * 3, none⟩)) rfl ?_ hHeld ?_
    · (intro U hSw; obtain ⟨⟨s1, s2, s3, s4⟩, s5, s6, s7, s8⟩ := hSw; go_simp; first | done | with_reducible rfl)
    (try simp only [Act.put, List.setIfInBounds_toArray, List.set_cons_zero, List.set_cons_succ])
    refine tk 24 { dst := some 74, op := Op.load 59 (Operand.tmp 73), type := 59, pos := "more.go:189", after := #[{ on := 23, ground := Ground.data }, { on := 19, ground := Ground.guard }], guard := some (19, false) } (.agg #[.int .i64 th, .slice xi xn xc, .slice xo xm xd]) rfl ?_ hHeld ?_
    · (intro U hSw; obtain ⟨⟨s1, s2, s3, s4⟩, s5, s6, s7, s8⟩ := hSw; go_simp; first | done | with_reducible rfl)
    (try simp only [Act.put, List.setIfInBounds_toArray, List.set_cons_zero, List.set_cons_succ])
    refine tk 25 { dst := some 75, op := Op.load 59 (Operand.tmp 8), type := 59, pos := "more.go:189", after := #[{ on := 19, ground := Ground.guard }], guard := some (19, false) } ?_ rfl ?_ hHeld ?_
    rotate_left
    · (intro U hSw; obtain ⟨⟨s1, s2, s3, s4⟩, s5, s6, s7, s8⟩ := hSw; go_simp; first | done | with_reducible rfl)
    (try simp only [Act.put, List.setIfInBounds_toArray, List.set_cons_zero, List.set_cons_succ])
    refine wpAnyH_ready (rs := [26]) (by kernel_rfl) (by simp) ?_
    refine AllReadyH.cons (o := { dst := some 76, op := Op.call { callee := Callee.value (Operand.func 30), args := #[Operand.tmp 74, Operand.tmp 75], argTypes := #[59, 59] }, type := 4, pos := "more.go:189", after := #[{ on := 24, ground := Ground.data }, { on := 25, ground := Ground.data }, { on := 19, ground := Ground.chain }, { on := 19, ground := Ground.guard }], guard := some (19, false) }) rfl (fun KQ hK => ?_) AllReadyH.nil
    refine step_call_w (by kernel_rfl) 30 #[.agg #[.int .i64 th, .slice xi xn xc, .slice xo xm xd], .agg #[.int .i64 th, .slice ai ni ci, .slice ao no co]] (by kernel_rfl) ((unhide E2) w4 hbZ4) ?_
    rintro e w5 ⟨rfl, hb5⟩
    refine ⟨_, rfl, ?_⟩
    have hbZ5 : Below Z.heap.size Z w5 := bel_on hbZ4 hb5
    refine hK.out _ _ ((unhide KS) _ hbZ5) (fun hHeld2 => ?_)
    clear hK KQ hHeld
    have hHeld := hHeld2
    clear hHeld2
    (try simp only [Act.put, List.setIfInBounds_toArray, List.set_cons_zero, List.set_cons_succ])
    refine tk 27 { dst := some 77, op := Op.unOp UnOp.not 4 (Operand.tmp 76), type := 4, pos := "more.go:189", after := #[{ on := 26, ground := Ground.data }, { on := 19, ground := Ground.guard }], guard := some (19, false) } ?_ rfl ?_ hHeld ?_
    rotate_left
    · (intro U hSw; obtain ⟨⟨s1, s2, s3, s4⟩, s5, s6, s7, s8⟩ := hSw; go_simp; first | done | with_reducible rfl)
    (try simp only [Act.put, List.setIfInBounds_toArray, List.set_cons_zero, List.set_cons_succ])
    refine tk 28 { dst := some 78, op := Op.pick (Operand.tmp 69) (Operand.const (Value.bool true)) (Operand.tmp 77), type := 4, pos := "more.go:189", after := #[{ on := 19, ground := Ground.data }, { on := 27, ground := Ground.data }], guard := none } ?_ rfl ?_ hHeld ?_
    rotate_left
    · (intro U hSw; obtain ⟨⟨s1, s2, s3, s4⟩, s5, s6, s7, s8⟩ := hSw; go_simp; first | done | with_reducible rfl)
    (try simp only [Act.put, List.setIfInBounds_toArray, List.set_cons_zero, List.set_cons_succ])
    refine wpAnyH_done (by kernel_rfl) ?_ _
    clear hHeld
    have HB5 := hide (bel_on (unhide HXZ) hbZ5)
    have HY5 := hide (bel_on (unhide HYZ) hbZ5)
    clear hb4 hbZ4 hb5 hbZ5 KS E1 E2
    have D2 := hide (pSweep_is k2 k2n k2c K2 la ln lc C (some ⟨mb, mo, none⟩) (n + 1) mc M h 0 K2 M C2 (sumC C - sumC C2) w5 ((unhide HE).later (unhide HB5)) ((unhide HK2).later (unhide HY5)) ((unhide HC).later (unhide HB5)) (unhide HSC) ((unhide HM).later (unhide HY5)) (unhide HM3) (by unfold swF; rw [if_pos rfl, unhide HM4]))
    have b0 := ((unhide HB5).block _ (lt_of_block (unhide HX0))).trans (unhide HX0)
    have t00 := cell_of b0 0 _ rfl
    have t0l := lt_of_block b0
    have b1 := ((unhide HB5).block _ (lt_of_block (unhide HX1))).trans (unhide HX1)
    have t10 := cell_of b1 0 _ rfl
    have t11 := cell_of b1 1 _ rfl
    have t12 := cell_of b1 2 _ rfl
    have t1l := lt_of_block b1
    have b2 := ((unhide HY5).block _ (lt_of_block (unhide HY0))).trans (unhide HY0)
    have t20 := cell_of b2 0 _ rfl
    have t2l := lt_of_block b2
    clear b2
    clear b0 b1
    clear t00 t0l t10 t11 t12 t1l
    go_wp2_with fail
    refine (unhide D2).mono ?_
    rintro e w6 ⟨k6, k6n, k6c, qa, qn, qc, ca6, cn6, cc6, rfl, hF6, sk6, _, _, hb6⟩
    obtain ⟨hK6, hM6, _⟩ := hF6 w6 (Gr.refl _ _)
    have hqn : qn = n + 1 := hM6.1.symm.trans (unhide HM).1
    subst hqn
    obtain ⟨V, hV⟩ : ∃ V, V = w6.alloc (.cells #[.slice k6 k6n k6c] 24) := ⟨_, rfl⟩
    have hbV : Below w6.heap.size w6 V := by rw [hV]; exact bel_new _ _
    have v0 : V.heap[w6.heap.size]? = some (.cells [.slice k6 k6n k6c].toArray 24 (0, 0)) := by rw [hV]; exact one_heap _ _ _
    have hYV := bel_on (unhide HY5) (bel_on hb6 hbV)
    have hXV := bel_on (unhide HB5) (bel_on hb6 hbV)
    have E3 := hide (Bk.eqStr_is k2 k6 k2n k6n k2c k6c K2 K2 true V (unhide HSK2).len ((unhide HK2).later hYV) (hK6.later hbV) (by simp))
    have D3 := hide (fun U (hu : Below V.heap.size V U) => pAccept_is k2 k2n k2c K2 la ln lc C (some ⟨mb, mo, none⟩) (n + 1) mc M th ai ao ni ci no co I O h 6 [] [] U ((unhide HE).later (bel_on hXV hu)) ((unhide HK2).later (bel_on hYV hu)) ((unhide HC).later (bel_on hXV hu)) (unhide HSC) ((unhide HM).later (bel_on hYV hu)) ((unhide HI).later (bel_on hXV hu)) ((unhide HO).later (bel_on hXV hu)) (unhide HSI) (unhide HSO) (unhide HM5))
    have r0 := cell_of v0 0 _ rfl
    have rl := lt_of_block v0
    have b26 := (((bel_on (unhide HY5) hb6)).block _ (lt_of_block (unhide HY0))).trans (unhide HY0)
    have t20 := cell_of b26 0 _ rfl
    have t2l := lt_of_block b26
    have HXV := hide hXV
    have HYV := hide hYV
    clear hF6 sk6 hK6 hM6 hb6 hbV v0 hYV hXV b26 D2
    go_wp2_with fail
    rw [← hV]
    clear hV
    (try go_wp2_with fail)
    refine (unhide E3).mono ?_
    rintro e w7 ⟨rfl, hb7⟩
    have D4 := hide ((unhide D3) w7 hb7)
    have HX7 := hide (bel_on (unhide HXV) hb7)
    have HY7 := hide (bel_on (unhide HYV) hb7)
    clear hb7 E3 D3 r0 rl t20 t2l
    have b0 := ((unhide HX7).block _ (lt_of_block (unhide HX0))).trans (unhide HX0)
    have t00 := cell_of b0 0 _ rfl
    have t0l := lt_of_block b0
    have b1 := ((unhide HX7).block _ (lt_of_block (unhide HX1))).trans (unhide HX1)
    have t10 := cell_of b1 0 _ rfl
    have t11 := cell_of b1 1 _ rfl
    have t12 := cell_of b1 2 _ rfl
    have t1l := lt_of_block b1
    have b2 := ((unhide HY7).block _ (lt_of_block (unhide HY0))).trans (unhide HY0)
    have t20 := cell_of b2 0 _ rfl
    have t2l := lt_of_block b2
    clear b2
    clear b0 b1
    clear t00 t0l
    go_wp2_with fail
    refine (unhide D4).mono ?_
    rintro e w8 ⟨k8, k8n, k8c, qa8, qn8, qc8, rfl, _, _, _, hb8⟩
    have HF := hide (bel_on (unhide HBX) (bel_on (unhide HX7) hb8))
    clear hb8 D4
    go_wp2
    go_ret
    exact ⟨rfl, unhide HF⟩
  · have gx : (x != 0) = true := by simp [hx0]
    go_wp2_with fail
    refine (unhide P2).mono ?_
    rintro e w3 ⟨rfl, hb3⟩
    have HF := hide (bel_on (unhide HBX) (bel_on (unhide HB2) hb3))
    clear hb3 P2
    go_wp2
    go_ret
    exact ⟨rfl, unhide HF⟩

end Go.Proofs.YtmomfkikogbdeaaGreatDoor
