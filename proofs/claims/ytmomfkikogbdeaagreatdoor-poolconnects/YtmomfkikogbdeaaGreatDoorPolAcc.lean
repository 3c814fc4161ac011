/- The contract of Accept (written by a program of ours: mkacc.py). -/
import Derived.Test.YtmomfkikogbdeaaGreatDoorTxSameToPolCont
namespace Go.Proofs.YtmomfkikogbdeaaGreatDoor
open Go.RowKit

def AcI (b lo hi N0 : Nat) (p : Nat) (D : Nat → Prop) (w : World) (X : List (TxD × List CoinD)) : Prop :=
  ∃ va vc K, St b p w (.slice va (X.map (·.1)).length vc) K (X.map (·.1)) ∧ N0 ≤ p ∧ D = DV lo hi (.slice va (X.map (·.1)).length vc)

theorem keepAc (b lo hi : Nat) (w0 : World) (C0 : List CoinD) (hb : w0.heap[b]? = some (.cells #[.slice none 0 0] 37 (0, 0))) (h1 : lo ≤ b ∧ b < hi) (hhi : hi ≤ w0.heap.size) :
    Keep 88 #[.pointer (some ⟨b, 0, none⟩)] w0 C0 (D0 lo hi) (AcI b lo hi w0.heap.size) where
  enters := enters_of (fn := Tryz.f88) (by kernel_rfl) (by kernel_rfl) rfl
  start p w hw hp pl := ⟨none, 0, [], St.start ((hw.block b (by omega)).trans hb) (by omega) pl, hp, rfl⟩
  dirty p D w X := by
    rintro ⟨va, vc, K, h, hp, rfl⟩ q hq
    exact DV.dirty h hhi hp q hq
  on p D w w' X := by
    rintro ⟨va, vc, K, h, hp, hD⟩ g
    exact ⟨va, vc, K, h.on g (fun q e => by subst e; exact ⟨Nat.le_refl _, by omega⟩), hp, hD⟩
  call p D wA w X t C' u0 u1 u2 := by
    rintro ⟨va, vc, K, h, hp, rfl⟩ hbw hF r1 r2 r3 hl
    refine (accept1_is b p va vc K (X.map (·.1)) _ u0 u1 u2 t wA w h hbw hF (by rw [List.length_map]; exact hl)).mono ?_
    rintro e w' ⟨rfl, ⟨v', K', hS⟩, hg⟩
    obtain ⟨a, c, rfl, _, _⟩ := hS.txs
    have e1 : (X ++ [(t, C')]).map (·.1) = X.map (·.1) ++ [t] := by simp
    refine ⟨rfl, hg.mono (fun q _ e => ?_), DV lo hi (.slice a ((X ++ [(t, C')]).map (·.1)).length c), a, c, K', ?_, hp, rfl⟩
    · rcases e with e | e
      · subst e; exact .inl h1
      · exact .inr e
    · rw [e1]; exact hS

/-- What Accept answers. -/
def AccR (w w' : World) (x : Int) (K : List ByteArray) (L : List TxD) (e : Ending) : Prop :=
  ∃ ka kn kc sa sn sc, e = .returned (.tuple #[.agg #[.slice ka kn kc], .slice sa sn sc, .int .i64 x]) ∧ Fresh w.heap.size w' (fun w2 => Bk.TextsAt w2 ka kn K ∧ TxsAt w2 sa sn L) ∧ SlOk ka kn kc ∧ SlOk sa sn sc ∧ Below w.heap.size w w'
theorem AccR.err {w w' : World} {x y : Int} {K : List ByteArray} {L : List TxD} {b : Nat} {v : Value} (h : (x, K, L) = (y, [], [])) (hb : Below w.heap.size w w') (hB : w.heap.size ≤ b) : AccR w (w'.setCell ⟨b, 0, none⟩ v) x K L (.returned (.tuple #[.agg #[.slice none 0 0], .slice none 0 0, .int .i64 y])) := by
  simp only [Prod.mk.injEq] at h
  obtain ⟨rfl, rfl, rfl⟩ := h
  exact ⟨_, _, _, _, _, _, rfl, fun _ _ => ⟨Bk.TextsAt.nil _ _, RowsAt.nil _ _⟩, slok_nil, slok_nil, hb.setCell (p := ⟨b, 0, none⟩) hB _⟩
theorem Gr.unset (w : World) (b i : Nat) (u : Value) : Gr (w.setCell ⟨b, i, none⟩ u) w (fun q => q = b) :=
  ⟨rfl, rfl, rfl, by simp [World.setCell], fun k _ hn => (Below.heap_setCell w ⟨b, i, none⟩ u k (fun e => hn e)).symm⟩

set_option maxRecDepth 10000 in
set_option maxHeartbeats 12800000 in
theorem pAccept_is (ka : Option Addr) (kn kc : Nat) (K : List ByteArray) (la : Option Addr) (ln lc : Nat) (C : List CoinD) (a : Option Addr) (m c : Nat) (L : List TxD) (th : Int) (ai ao : Option Addr) (ni ci no co : Nat) (I : List InD) (O : List OutD) (h x : Int) (K' : List ByteArray) (L' : List TxD) (w : World)
    (hE : Env w) (hK : Bk.TextsAt w ka kn K) (hC : CoinsAt w la ln C) (sC : SlOk la ln lc) (hL : TxsAt w a m L) (hI : InsAt w ai ni I) (hO : OutsAt w ao no O) (sI : SlOk ai ni ci) (sO : SlOk ao no co) (hx : acE K C L (th, I, O) h = (x, K', L')) :
    Calls Tryz.prog 28 #[.agg #[.slice ka kn kc], .slice la ln lc, .slice a m c, .agg #[.int .i64 th, .slice ai ni ci, .slice ao no co], .int .i64 h] w fun e w' => AccR w w' x K' L' e := by
  obtain ⟨i0, hi, hz0, hz1, hz2⟩ := info_parts Tryz.infoTx9
  obtain ⟨X, hX⟩ : ∃ X, X = allocs w [.cells #[.slice ka kn kc] 24, .cells #[.int .i64 th, .slice ai ni ci, .slice ao no co] 59, .cells #[.slice none 0 0] 24, .cells #[.slice none 0 0] 37] := ⟨_, rfl⟩
  have hbX : Below w.heap.size w X := by rw [hX]; exact allocs_bel _ _
  have hXs : X.heap.size = w.heap.size + 4 := by rw [hX]; exact allocs_size _ _
  have x0 : X.heap[w.heap.size]? = some (.cells #[.slice ka kn kc] 24 (0, 0)) := by rw [hX]; exact allocs_at _ w 0 _ rfl
  have x1 : X.heap[w.heap.size + 1]? = some (.cells [.int .i64 th, .slice ai ni ci, .slice ao no co].toArray 59 (0, 0)) := by rw [hX]; exact allocs_at _ w 1 _ rfl
  have x2 : X.heap[w.heap.size + 2]? = some (.cells #[.slice none 0 0] 24 (0, 0)) := by rw [hX]; exact allocs_at _ w 2 _ rfl
  have x3 : X.heap[w.heap.size + 3]? = some (.cells #[.slice none 0 0] 37 (0, 0)) := by rw [hX]; exact allocs_at _ w 3 _ rfl
  have hX' : X = (((w.alloc (.cells #[.slice ka kn kc] 24)).alloc (.cells #[.int .i64 th, .slice ai ni ci, .slice ao no co] 59)).alloc (.cells #[.slice none 0 0] 24)).alloc (.cells #[.slice none 0 0] 37) := hX
  have hKp := keepAc (w.heap.size + 3) (w.heap.size + 3) (w.heap.size + 4) X C x3 (by omega) (by omega)
  have hin : ∀ V, Gr X V (D0 (w.heap.size + 3) (w.heap.size + 4)) → Below w.heap.size w V := fun V g => g.below hbX hbX.size (fun q e => by have := e.ge; omega)
  obtain ⟨x1e, hx1⟩ : ∃ x1e, swE K C L h = x1e := ⟨_, rfl⟩
  have C1 := hide (psweep_is _ _ _ _ ka kn kc K la ln lc C a m c L h x1e X hKp w hin hE hK hC sC hL hx1)
  obtain ⟨⟨S1, K1, Cc⟩, hsw⟩ : ∃ r, swGo h L (K, C) = r := ⟨_, rfl⟩
  have e1 : (swT h L (K, C)).map (·.1) = S1 := by rw [swT_map, hsw]
  obtain ⟨⟨y, K2, C2⟩, hdo⟩ : ∃ r, doD h (K1, Cc) (th, I, O) = r := ⟨_, rfl⟩
  obtain ⟨o, ho⟩ : ∃ o, (S1.any fun z => sameT z (th, I, O)) = o := ⟨_, rfl⟩
  obtain ⟨n, hn⟩ : ∃ n, S1.length = n := ⟨_, rfl⟩
  unfold acE at hx
  simp only [hx1, hsw, hdo, ho, hn] at hx
  have HX := hide hx
  have HBX := hide hbX
  have HXs := hide hXs
  have HIN := hide hin
  have HX1 := hide x1
  have HX2 := hide x2
  have HX1E := hide hx1
  have HSW := hide hsw
  have HE1 := hide e1
  have HDO := hide hdo
  have HO := hide ho
  have HN := hide hn
  have HE := hide hE
  have HI := hide hI
  have HOO := hide hO
  have HSI := hide sI
  have HSO := hide sO
  have t0 := cell_of (X := [.slice ka kn kc]) x0 0 _ rfl
  have tl := lt_of_block x0
  clear hE hK hC sC hL hx hx1 hbX hXs x0 x1 x2 x3 hX hKp hin hsw e1 hdo ho hn hI hO sI sO
  go_enter Tryz.func28, Tryz.ntmps28
  go_wp2_with fail
  rw [← hX']
  clear hX'
  (try go_wp2_with fail)
  refine (unhide C1).mono ?_
  rintro e w1 hres
  rcases hres with ⟨h0, rfl, hb1⟩ | ⟨h0, p, D, rfl, hp, hg1, hd, hI⟩
  · have y2 := (hb1.block _ (lt_of_block (unhide HX2))).trans (unhide HX2)
    have y20 := cell_of (X := [.slice none 0 0]) y2 0 _ rfl
    have y2f := frozen_of y2 0
    have y2l := lt_of_block y2
    have gx : (x1e == 0) = false := by simp [h0]
    have gx2 : ¬ x1e = 0 := h0
    have gx3 : (x1e != 0) = true := by simp [h0]
    have HXE : Hid ((x, K', L') = (x1e, [], [])) := by have := unhide HX; rw [if_pos h0] at this; exact this.symm
    have HB := hide (bel_on (unhide HBX) hb1)
    clear hb1 y2 C1 HX
    go_wp2
    (try simp only [Exit.inBlock, Exit.then])
    refine bodyPost_ret (v := .tuple #[.agg #[.slice none 0 0], .slice none 0 0, .int .i64 x1e]) ?_ rfl ?_
    · rw [Bk.results_cell_tmp2 rfl]
      go_simp
    · exact AccR.err (b := w.heap.size + 2) (unhide HXE) (unhide HB) (by omega)
  · subst h0
    obtain ⟨va, vc, Kl, hS, _, _⟩ := hI
    rw [unhide HE1, unhide HN] at hS
    have hsw := unhide HSW
    rw [hsw] at hd
    simp only at hd
    have hb1 := (unhide HIN) w1 hg1
    have HB1 := hide hb1
    have z1 := (hg1.block _ (lt_of_block (unhide HX1)) (fun e => by have := e.ge; omega)).trans (unhide HX1)
    have z2 := (hg1.block _ (lt_of_block (unhide HX2)) (fun e => by have := e.ge; omega)).trans (unhide HX2)
    have hop := openE_zero (swE_zero (unhide HX1E)).1
    have hsc := sw_coins (h := h) L K C hop.1 hop.2.1
    have hsr := (sw_right (h := h) L K C hop.1).1
    rw [hsw] at hsc hsr
    simp only at hsc hsr
    have hn8 : n ≤ 8 := by have q1 := swT_len h L (K, C); have q2 := (swE_zero (unhide HX1E)).2; have q3 := congrArg List.length (unhide HE1); rw [List.length_map] at q3; have q4 := unhide HN; omega
    have hS' : St (w.heap.size + 3) p w1 (.slice va S1.length vc) Kl S1 := by rw [unhide HN]; exact hS
    obtain ⟨htx, hsk⟩ := hS'.reads (Gr.refl w1 (fun _ => False)) (fun _ q => q.elim)
    rw [unhide HN] at htx hsk
    have TT := accept2_test (w.heap.size + 1) th ai ao ni ci no co I O w1 z1 ((unhide HI).later hb1) ((unhide HOO).later hb1)
    have C2c := hide (containsTx_is _ _ _ va n vc S1 o w1 TT htx hsk.len (unhide HO))
    have HS := hide hS
    have HD := hide hd
    have HRC := hide hsc.1
    have HRK := hide hsr
    have HZ1 := hide z1
    have HZ2 := hide z2
    have HP := hide hp
    have b0 := cell_of (X := [_]) hS.box 0 _ rfl
    have bl := lt_of_block hS.box
    have a1 := cell_of z1 0 _ rfl
    have al := lt_of_block z1
    clear hS hS' hd hb1 z1 z2 hop hsc hsr htx hsk TT hsw C1
    go_wp2_with fail
    refine (unhide C2c).mono ?_
    rintro e w2 ⟨rfl, hb2⟩
    have HB2 := hide (bel_on (unhide HB1) hb2)
    have H12 := hide hb2
    clear hb2 C2c b0 bl a1 al
    cases o
    · have z12 := ((unhide H12).block _ (lt_of_block (unhide HZ1))).trans (unhide HZ1)
      have z22 := ((unhide H12).block _ (lt_of_block (unhide HZ2))).trans (unhide HZ2)
      have CD := hide (pDo_is p K1 Cc h th ai ao ni ci no co I O y K2 C2 w2 ((unhide HE).later (unhide HB2)) ((unhide HD).later (unhide H12)).till (unhide HRC) ((unhide HI).later (unhide HB2)) ((unhide HOO).later (unhide HB2)) (unhide HSI) (unhide HDO))
      have a0 := cell_of z12 0 _ rfl
      have a1 := cell_of z12 1 _ rfl
      have a2 := cell_of z12 2 _ rfl
      have al := lt_of_block z12
      have HZ12 := hide z12
      have HZ22 := hide z22
      clear z12 z22
      go_wp2_with fail
      refine (unhide CD).mono ?_
      rintro e w3 hdo
      clear a0 a1 a2 al CD
      rcases hdo with ⟨n0, rfl, hb3⟩ | ⟨n0, rfl, hg3, hd3⟩
      · have y2 := (hb3.block _ (lt_of_block (unhide HZ22))).trans (unhide HZ22)
        have y20 := cell_of (X := [.slice none 0 0]) y2 0 _ rfl
        have y2f := frozen_of y2 0
        have y2l := lt_of_block y2
        have gx : (y == 0) = false := by simp [n0]
        have gx2 : ¬ y = 0 := n0
        have gx3 : (y != 0) = true := by simp [n0]
        have HXE : Hid ((x, K', L') = (y, [], [])) := by have := unhide HX; rw [if_neg (fun q => q rfl), if_neg (by decide), if_pos n0] at this; exact this.symm
        have HB := hide (bel_on (unhide HB2) hb3)
        clear hb3 y2 HX
        go_wp2
        (try simp only [Exit.inBlock, Exit.then])
        refine bodyPost_ret (v := .tuple #[.agg #[.slice none 0 0], .slice none 0 0, .int .i64 y]) ?_ rfl ?_
        · rw [Bk.results_cell_tmp2 rfl]
          go_simp
        · exact AccR.err (b := w.heap.size + 2) (unhide HXE) (unhide HB) (by omega)
      · subst n0
        have hpn : w.heap.size + 4 ≤ p := by have := unhide HXs; have := unhide HP; omega
        have hS3 := ((unhide HS).on (Gr.of (S := fun _ => False) (unhide H12)) (fun _ q => q.elim)).on hg3 (fun q e => by subst e; exact ⟨Nat.le_refl _, by omega⟩)
        have z13 := (hg3.block _ (lt_of_block (unhide HZ12)) (fun e => by have e : w.heap.size + 1 = p := e; omega)).trans (unhide HZ12)
        have z23 := (hg3.block _ (lt_of_block (unhide HZ22)) (fun e => by have e : w.heap.size + 2 = p := e; omega)).trans (unhide HZ22)
        have hb3 : Below w.heap.size w w3 := hg3.below (unhide HB2) (unhide HB2).size (fun q e => by have e : q = p := e; omega)
        have HB3 := hide hb3
        have HZ13 := hide z13
        have b0 := cell_of (X := [_]) hS3.box 0 _ rfl
        have bl := lt_of_block hS3.box
        have y2 := z23
        have y20 := cell_of (X := [.slice none 0 0]) y2 0 _ rfl
        have y2f := frozen_of y2 0
        have y2l := lt_of_block y2
        by_cases e8 : n = 8
        · subst e8
          have HXE : Hid ((x, K', L') = (12, [], [])) := by have := unhide HX; rw [if_neg (fun q => q rfl), if_neg (by decide), if_neg (fun q => q rfl), if_pos rfl] at this; exact this.symm
          clear HX hS3 z13 z23 y2 hb3 hg3 hd3
          go_wp2
          (try simp only [Exit.inBlock, Exit.then])
          refine bodyPost_ret (v := .tuple #[.agg #[.slice none 0 0], .slice none 0 0, .int .i64 12]) ?_ rfl ?_
          · rw [Bk.results_cell_tmp2 rfl]
            go_simp
          · exact AccR.err (b := w.heap.size + 2) (unhide HXE) (unhide HB3) (by omega)
        · have g8 : ((n : Int) == 8) = false := by simp; omega
          have g82 : ¬ ((n : Int) = 8) := by omega
          have HXE : Hid ((x, K', L') = (0, K2, S1 ++ [(th, I, O)])) := by have := unhide HX; rw [if_neg (fun q => q rfl), if_neg (by decide), if_neg (fun q => q rfl), if_neg e8] at this; exact this.symm
          obtain ⟨ka2, kn2, kc2, la2, ln2, lc2, hp3, hF3, sk3, sl3⟩ := hd3
          have sm := Tr.tx_small (do_parts (unhide HDO)).1
          have CT := hide (fun V (hv : Below w3.heap.size w3 V) => Tr.clTx_is th ai ao ni ci no co I O V ((unhide HI).later (bel_on hb3 hv)) ((unhide HOO).later (bel_on hb3 hv)) (unhide HSI) (unhide HSO) (by rw [← (unhide HI).1]; exact sm.1) (by rw [← (unhide HOO).1]; exact sm.2.1) sm.2.2.1 sm.2.2.2)
          have p0 := cell_of hp3 0 _ rfl
          have pl := lt_of_block hp3
          have a0 := cell_of z13 0 _ rfl
          have a1 := cell_of z13 1 _ rfl
          have a2 := cell_of z13 2 _ rfl
          have al := lt_of_block z13
          have KS : Hid (∀ U : World, Gr w3 U (fun q => p < q ∨ q = w.heap.size + 2) → ((U.cell? ⟨p, 0, none⟩ = some (.slice ka2 kn2 kc2) ∧ p < U.heap.size) ∧ (U.cell? ⟨w.heap.size + 1, 0, none⟩ = some (.int .i64 th) ∧ U.cell? ⟨w.heap.size + 1, 1, none⟩ = some (.slice ai ni ci) ∧ U.cell? ⟨w.heap.size + 1, 2, none⟩ = some (.slice ao no co) ∧ w.heap.size + 1 < U.heap.size) ∧ U.cell? ⟨w.heap.size + 3, 0, none⟩ = some (.slice va n vc) ∧ w.heap.size + 3 < U.heap.size)) := fun U hu => ⟨⟨hu.cell p0 (by simp; omega), Nat.lt_of_lt_of_le pl hu.size⟩, ⟨hu.cell a0 (by simp; omega), hu.cell a1 (by simp; omega), hu.cell a2 (by simp; omega), Nat.lt_of_lt_of_le al hu.size⟩, hu.cell b0 (by simp; omega), Nat.lt_of_lt_of_le bl hu.size⟩
          have HS3 := hide hS3
          have HF3 := hide hF3
          have HSK3 := hide sk3
          have HZ23 := hide z23
          have HN3 := hide (show ∀ q, (Value.slice va n vc).ownBlock = some q → p < q ∧ q < w2.heap.size from fun q hq => ⟨by have := (hS3.own.lt q hq).1; omega, Nat.lt_of_lt_of_le ((unhide HS).own.lt q hq).2 (unhide H12).size⟩)
          clear HX hS3 z13 z23 y2 hb3 hg3 hp3 hF3 sk3 sl3 sm a0 a1 a2 al p0 pl y20 y2f y2l
          go_upto_region 11 with fail
          clear b0 bl
          refine wp_region_held_drew (S := fun U => (U.cell? ⟨p, 0, none⟩ = some (.slice ka2 kn2 kc2) ∧ p < U.heap.size) ∧ (U.cell? ⟨w.heap.size + 1, 0, none⟩ = some (.int .i64 th) ∧ U.cell? ⟨w.heap.size + 1, 1, none⟩ = some (.slice ai ni ci) ∧ U.cell? ⟨w.heap.size + 1, 2, none⟩ = some (.slice ao no co) ∧ w.heap.size + 1 < U.heap.size) ∧ U.cell? ⟨w.heap.size + 3, 0, none⟩ = some (.slice va n vc) ∧ w.heap.size + 3 < U.heap.size) (by kernel_rfl) ((unhide KS) _ (Gr.of (bel_draw1 _))) (fun hHeld => ?_)
          refine tk 0 { dst := some 51, op := Op.move (Operand.tmp 14), type := 157, pos := "pool.go:42", after := #[], guard := none } ?_ rfl ?_ hHeld ?_
          rotate_left
          · (intro U hSw; obtain ⟨⟨s1, s2⟩, ⟨s3, s4, s5, s6⟩, s7, s8⟩ := hSw; go_simp; first | done | with_reducible rfl)
          (try simp only [Act.put, List.setIfInBounds_toArray, List.set_cons_zero, List.set_cons_succ])
          refine tk 1 { dst := some 52, op := Op.nilCheck (Operand.tmp 51), type := 0, pos := "pool.go:42", after := #[{ on := 0, ground := Ground.data }], guard := none } ?_ rfl ?_ hHeld ?_
          rotate_left
          · (intro U hSw; obtain ⟨⟨s1, s2⟩, ⟨s3, s4, s5, s6⟩, s7, s8⟩ := hSw; go_simp; first | done | with_reducible rfl)
          (try simp only [Act.put, List.setIfInBounds_toArray, List.set_cons_zero, List.set_cons_succ])
          refine tk 2 { dst := some 53, op := Op.fieldAddr 162 (Operand.tmp 52) 0, type := 0, pos := "pool.go:42", after := #[{ on := 1, ground := Ground.data }], guard := none } ?_ rfl ?_ hHeld ?_
          rotate_left
          · (intro U hSw; obtain ⟨⟨s1, s2⟩, ⟨s3, s4, s5, s6⟩, s7, s8⟩ := hSw; go_simp; first | done | with_reducible rfl)
          (try simp only [Act.put, List.setIfInBounds_toArray, List.set_cons_zero, List.set_cons_succ])
          refine tk 3 { dst := some 54, op := Op.load 24 (Operand.tmp 53), type := 24, pos := "pool.go:42", after := #[{ on := 2, ground := Ground.data }], guard := none } ?_ rfl ?_ hHeld ?_
          rotate_left
          · (intro U hSw; obtain ⟨⟨s1, s2⟩, ⟨s3, s4, s5, s6⟩, s7, s8⟩ := hSw; go_simp; first | done | with_reducible rfl)
          (try simp only [Act.put, List.setIfInBounds_toArray, List.set_cons_zero, List.set_cons_succ])
          refine tk 4 { dst := some 55, op := Op.load 37 (Operand.tmp 13), type := 37, pos := "pool.go:42", after := #[], guard := none } ?_ rfl ?_ hHeld ?_
          rotate_left
          · (intro U hSw; obtain ⟨⟨s1, s2⟩, ⟨s3, s4, s5, s6⟩, s7, s8⟩ := hSw; go_simp; first | done | with_reducible rfl)
          (try simp only [Act.put, List.setIfInBounds_toArray, List.set_cons_zero, List.set_cons_succ])
          refine tk 5 { dst := some 56, op := Op.load 59 (Operand.tmp 8), type := 59, pos := "pool.go:42", after := #[], guard := none } ?_ rfl ?_ hHeld ?_
          rotate_left
          · (intro U hSw; obtain ⟨⟨s1, s2⟩, ⟨s3, s4, s5, s6⟩, s7, s8⟩ := hSw; go_simp; first | done | with_reducible rfl)
          (try simp only [Act.put, List.setIfInBounds_toArray, List.set_cons_zero, List.set_cons_succ])
          refine wpAnyH_ready (rs := [6]) (by kernel_rfl) (by simp) ?_
          refine AllReadyH.cons (o := { dst := some 57, op := Op.call { callee := Callee.value (Operand.func 92), args := #[Operand.tmp 56], argTypes := #[59] }, type := 59, pos := "pool.go:42", after := #[{ on := 5, ground := Ground.data }], guard := none }) rfl (fun KQ hK => ?_) AllReadyH.nil
          refine step_call_w (by kernel_rfl) 92 #[.agg #[.int .i64 th, .slice ai ni ci, .slice ao no co]] (by kernel_rfl) ((unhide CT) w3.drew (bel_draw1 _)) ?_
          rintro e w4 ⟨a1, c1, a2, c2, rfl, hF4, hb4⟩
          refine ⟨_, rfl, ?_⟩
          have hb34 : Below w3.heap.size w3 w4 := bel_on (bel_draw1 w3) hb4
          refine hK.out _ _ ((unhide KS) _ (Gr.of hb34)) (fun hHeld2 => ?_)
          clear hK KQ hHeld
          have hHeld := hHeld2
          clear hHeld2
          (try simp only [Act.put, List.setIfInBounds_toArray, List.set_cons_zero, List.set_cons_succ])
          refine wpAnyH_ready (rs := [7]) (by kernel_rfl) (by simp) ?_
          refine AllReadyH.cons (o := { dst := some 58, op := Op.buildSlice 37 1 #[(0, Operand.tmp 57)], type := 37, pos := "pool.go:42", after := #[{ on := 6, ground := Ground.data }], guard := none }) rfl (fun KQ hK => ?_) AllReadyH.nil
          go_simp
          obtain ⟨w5, hw5⟩ : ∃ w5, w5 = w4.alloc (.cells #[.int .i64 th, .slice a1 ni c1, .slice a2 no c2] 59) := ⟨_, rfl⟩
          rw [← hw5]
          have hb45 : Below w4.heap.size w4 w5 := by rw [hw5]; exact bel_new _ _
          have h5 : w5.heap[w4.heap.size]? = some (.cells #[.int .i64 th, .slice a1 ni c1, .slice a2 no c2] 59 (0, 0)) := by rw [hw5]; exact three_heap _ _ _ _ _
          have hb35 := bel_on hb34 hb45
          have own5 : w5.ownsRow (p + 1) 59 3 (.slice va n vc) n Kl.flatten := by have := (Gr.of (S := fun _ => False) hb35).own (unhide HS3).own (fun _ _ q => q); rw [unhide HN] at this; exact this
          have hp5 : p + 1 ≤ w5.heap.size := by have := (unhide HS3).pl; have := hb35.size; omega
          refine hK.out _ _ ((unhide KS) _ (Gr.of hb35)) (fun hHeld2 => ?_)
          clear hK KQ hHeld
          have hHeld := hHeld2
          clear hHeld2
          (try simp only [Act.put, List.setIfInBounds_toArray, List.set_cons_zero, List.set_cons_succ])
          refine wpAnyH_ready (rs := [8]) (by kernel_rfl) (by simp) ?_
          refine AllReadyH.cons (o := { dst := some 59, op := Op.call { callee := Callee.builtin Builtin.append, args := #[Operand.tmp 55, Operand.tmp 58], argTypes := #[37, 37] }, type := 37, pos := "pool.go:42", after := #[{ on := 4, ground := Ground.data }, { on := 7, ground := Ground.data }, { on := 6, ground := Ground.chain }], guard := none }) rfl (fun KQ hK => ?_) AllReadyH.nil
          refine step_append_lies _ rfl _ _ 37 rfl (p + 1) 59 i0 (.agg #[.int .i64 0, .slice none 0 0, .slice none 0 0]) 3 56 Tryz.underlying37 hi hz0 hz1 hz2 rfl (by decide) (.slice va n vc) n Kl.flatten rfl own5 ⟨w4.heap.size, 0, none⟩ 1 1 [.int .i64 th, .slice a1 ni c1, .slice a2 no c2] rfl rfl (World.news_of_block h5) (fun u hu => by simp at hu; rcases hu with rfl | rfl | rfl <;> rfl) (by decide) (by unfold maxLen; omega) (by omega) hp5 _ rfl ?_
          intro g6 cap6 w6 hown6 hgrow6 hor6 _
          have hg36 : Gr w3 w6 (fun q => p < q ∧ q < w2.heap.size) := (Gr.of hb35).grown hgrow6 (fun q e => .inl ((unhide HN3) q e))
          have z26 := (hg36.block _ (lt_of_block (unhide HZ23)) (fun e => by omega)).trans (unhide HZ23)
          have y20 := cell_of (X := [.slice none 0 0]) z26 0 _ rfl
          have y2f := frozen_of z26 0
          have y2l := lt_of_block z26
          refine hK.out _ _ ((unhide KS) _ (hg36.mono (fun q _ e => .inl e.1))) (fun hHeld2 => ?_)
          clear hK KQ hHeld
          have hHeld := hHeld2
          clear hHeld2
          (try simp only [Act.put, List.setIfInBounds_toArray, List.set_cons_zero, List.set_cons_succ])
          refine wpAnyH_ready (rs := [9]) (by kernel_rfl) (by simp) ?_
          refine AllReadyH.cons (o := { dst := none, op := Op.store 24 (Operand.tmp 10) (Operand.tmp 54), type := 0, pos := "pool.go:42", after := #[{ on := 3, ground := Ground.data }, { on := 8, ground := Ground.chain }, { on := 0, ground := Ground.phase }, { on := 1, ground := Ground.phase }, { on := 2, ground := Ground.phase }, { on := 3, ground := Ground.phase }, { on := 4, ground := Ground.textOnly Departure.lateStores }, { on := 5, ground := Ground.textOnly Departure.lateStores }, { on := 6, ground := Ground.textOnly Departure.lateStoresUnsure }, { on := 7, ground := Ground.textOnly Departure.lateStores }, { on := 8, ground := Ground.textOnly Departure.lateStoresUnsure }], guard := none }) rfl (fun KQ hK => ?_) AllReadyH.nil
          go_simp
          refine hK.out _ _ ((unhide KS) _ ((hg36.mono (fun q _ e => .inl e.1)).one (w.heap.size + 2) 0 (.inl (.inr rfl)) _)) (fun hHeld2 => ?_)
          clear hK KQ hHeld
          have hHeld := hHeld2
          clear hHeld2
          (try simp only [Act.put])
          refine tk 10 { dst := some 11, op := Op.assign (Operand.tmp 59), type := 37, pos := "pool.go:42", after := #[{ on := 8, ground := Ground.data }, { on := 9, ground := Ground.chain }, { on := 0, ground := Ground.phase }, { on := 1, ground := Ground.phase }, { on := 2, ground := Ground.phase }, { on := 3, ground := Ground.phase }, { on := 4, ground := Ground.phase }, { on := 5, ground := Ground.phase }, { on := 6, ground := Ground.phase }, { on := 7, ground := Ground.phase }, { on := 8, ground := Ground.phase }, { on := 9, ground := Ground.phase }], guard := none } ?_ rfl ?_ hHeld ?_
          rotate_left
          · (intro U hSw; (try dsimp only at hSw); go_simp; first | done | with_reducible rfl)
          (try simp only [Act.put, List.setIfInBounds_toArray, List.set_cons_zero, List.set_cons_succ])
          refine tk 11 { dst := some 12, op := Op.assign (Operand.const (Value.int IntKind.i64 0)), type := 30, pos := "pool.go:42", after := #[{ on := 10, ground := Ground.chain }, { on := 0, ground := Ground.phase }, { on := 1, ground := Ground.phase }, { on := 2, ground := Ground.phase }, { on := 3, ground := Ground.phase }, { on := 4, ground := Ground.phase }, { on := 5, ground := Ground.phase }, { on := 6, ground := Ground.phase }, { on := 7, ground := Ground.phase }, { on := 8, ground := Ground.phase }, { on := 9, ground := Ground.phase }, { on := 10, ground := Ground.phase }], guard := none } ?_ rfl ?_ hHeld ?_
          rotate_left
          · (intro U hSw; (try dsimp only at hSw); go_simp; first | done | with_reducible rfl)
          (try simp only [Act.put, List.setIfInBounds_toArray, List.set_cons_zero, List.set_cons_succ])
          refine wpAnyH_done (by kernel_rfl) ?_ _
          clear hHeld
          have hS4 := (unhide HS3).on (Gr.of (S := fun _ => False) (bel_draw1 w3)) (fun _ q => q.elim)
          have PU := (St.push (v' := .slice (some ⟨g6, 0, none⟩) (n + 1) cap6) (t := (th, I, O)) hS4 hb4 hF4 hb45 hgrow6 (by rw [unhide HN]; exact hown6) (by
            rcases hor6 with q | q
            · exact .inl q
            · exact .inr ⟨g6, rfl, by omega⟩)).1
          have FIN : Hid (AccR w (w6.setCell ⟨w.heap.size + 2, 0, none⟩ (.slice ka2 kn2 kc2)) x K' L' (.returned (.tuple #[.agg #[.slice ka2 kn2 kc2], .slice (some ⟨g6, 0, none⟩) (n + 1) cap6, .int .i64 0]))) := by
            have hxe := unhide HXE
            simp only [Prod.mk.injEq] at hxe
            obtain ⟨rfl, rfl, rfl⟩ := hxe
            have el : (S1 ++ [(th, I, O)]).length = n + 1 := by rw [List.length_append, unhide HN]; rfl
            rw [← el] at PU ⊢
            have s12 := (unhide H12).size
            have sB2 := (unhide HB2).size
            have z2l := lt_of_block (unhide HZ22)
            refine ⟨ka2, kn2, kc2, _, _, cap6, rfl, fun W2 g2 => ⟨((unhide HF3) W2 ?_).1, (PU.reads (S := fun q => q ≤ p) ?_ (fun _ q => q)).1⟩, unhide HSK3, (PU.reads (Gr.refl _ (fun _ => False)) (fun _ q => q.elim)).2, ?_⟩
            · exact ((hg36.mono (T := fun q => q < w2.heap.size) (fun q _ e => e.2)).one (w.heap.size + 2) 0 (.inl z2l) _).trans (g2.mono (fun q _ e => by omega))
            · exact (((Gr.unset w6 (w.heap.size + 3) 0 _).mono (fun q _ e => by have e : q = w.heap.size + 3 := e; omega)).one (w.heap.size + 2) 0 (.inl (by omega)) _).trans (g2.mono (fun q _ e => by omega))
            · exact ((hg36.mono (T := fun q => p < q ∨ q = w.heap.size + 2) (fun q _ e => .inl e.1)).one (w.heap.size + 2) 0 (.inl (.inr rfl)) _).below (unhide HB3) (unhide HB3).size (fun q e => by omega)
          clear PU hS4 hg36 hown6 hgrow6 hor6 own5 h5 hb35 hb45 hb34 hb4 hF4
          go_wp2_with fail
          (try simp only [Exit.inBlock, Exit.then])
          refine bodyPost_ret (v := .tuple #[.agg #[.slice ka2 kn2 kc2], .slice (some ⟨g6, 0, none⟩) (n + 1) cap6, .int .i64 0]) ?_ rfl ?_
          · rw [Bk.results_cell_tmp2 rfl]
            go_simp
          · exact unhide FIN
    · have y2 := ((unhide H12).block _ (lt_of_block (unhide HZ2))).trans (unhide HZ2)
      have y20 := cell_of (X := [.slice none 0 0]) y2 0 _ rfl
      have y2f := frozen_of y2 0
      have y2l := lt_of_block y2
      have HXE : Hid ((x, K', L') = (6, [], [])) := by have := unhide HX; rw [if_neg (fun q => q rfl), if_pos rfl] at this; exact this.symm
      clear HX y2
      go_wp2
      (try simp only [Exit.inBlock, Exit.then])
      refine bodyPost_ret (v := .tuple #[.agg #[.slice none 0 0], .slice none 0 0, .int .i64 6]) ?_ rfl ?_
      · rw [Bk.results_cell_tmp2 rfl]
        go_simp
      · exact AccR.err (b := w.heap.size + 2) (unhide HXE) (unhide HB2) (by omega)

end Go.Proofs.YtmomfkikogbdeaaGreatDoor
