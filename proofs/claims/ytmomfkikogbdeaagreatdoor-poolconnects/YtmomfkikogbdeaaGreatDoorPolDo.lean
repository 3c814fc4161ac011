/- The contract of the till's do. -/
import Derived.Test.YtmomfkikogbdeaaGreatDoorPolNToTrMem
import Derived.Test.YtmomfkikogbdeaaGreatDoorBlkDisLToPolOpen
import Derived.Test.YtmomfkikogbdeaaGreatDoorTxPrintBToBlkPrint
import Derived.Test.YtmomfkikogbdeaaGreatDoorTrCl
namespace Go.Proofs.YtmomfkikogbdeaaGreatDoor
open Go.RowKit

def DoR (w w' : World) (p : Nat) (x : Int) (K : List ByteArray) (C : List CoinD) (h f : Int) (e : Ending) : Prop :=
  (x ≠ 0 ∧ e = .returned (.tuple #[.int .i64 0, .int .i64 x]) ∧ Below w.heap.size w w') ∨
  (x = 0 ∧ e = .returned (.tuple #[.int .i64 f, .int .i64 0]) ∧ Gr w w' (fun q => q = p) ∧ DoT w' w.heap.size p K C h)
theorem DoR.err {w w' : World} {p : Nat} {x y : Int} {K : List ByteArray} {C : List CoinD} {h f : Int} (h0 : y ≠ 0) (hx : x = y) (hb : Below w.heap.size w w') : DoR w w' p x K C h f (.returned (.tuple #[.int .i64 0, .int .i64 y])) := by
  subst hx; exact .inl ⟨h0, rfl, hb⟩
/-- Behind the call of Apply. -/
def CutDo (V wx : World) (M : List CoinD) (s9 : Value) : Prop :=
  ∃ am nm cm, s9 = .slice am nm cm ∧ Fresh V.heap.size wx (fun w2 => CoinsAt w2 am nm M) ∧ SlOk am nm cm ∧ Below V.heap.size V wx
theorem cutDo_of {V W wx : World} {M : List CoinD} {Z : Nat} {am : Option Addr} {nm cm : Nat} (hF : Fresh Z W (fun w2 => CoinsAt w2 am nm M)) (hZ : V.heap.size ≤ Z) (hs : SlOk am nm cm) (hb : Below V.heap.size V W) (hg : Gr W wx (fun q => q < Z ∧ V.heap.size ≤ q)) : CutDo V wx M (.slice am nm cm) :=
  ⟨am, nm, cm, rfl, fun w2 g2 => hF w2 ((hg.mono (fun _ _ q => q.1)).trans (g2.mono (fun _ _ q => Nat.lt_of_lt_of_le q hZ))), hs, hg.below hb hb.size (fun _ q => q.2)⟩

set_option maxRecDepth 10000 in
set_option maxHeartbeats 12800000 in
theorem pDo_is (p : Nat) (K : List ByteArray) (C : List CoinD) (h th : Int) (ai ao : Option Addr) (ni ci no co : Nat) (I : List InD) (O : List OutD) (x : Int) (K' : List ByteArray) (C' : List CoinD) (w : World) (hE : Env w) (hT : TillAt w p K C h) (hRC : RightC C) (hI : InsAt w ai ni I) (hO : OutsAt w ao no O) (sI : SlOk ai ni ci) (hx : doD h (K, C) (th, I, O) = (x, K', C')) :
    Calls Tryz.prog 91 #[.pointer (some ⟨p, 0, none⟩), .agg #[.int .i64 th, .slice ai ni ci, .slice ao no co]] w fun e w' => DoR w w' p x K' C' h (sumC C - sumC C') e := by
  obtain ⟨ka, kn, kc, la, ln, lc, hp, hK, sK, hC, sC⟩ := hT
  obtain ⟨X, hX⟩ : ∃ X, X = w.alloc (.cells #[.int .i64 th, .slice ai ni ci, .slice ao no co] 59) := ⟨_, rfl⟩
  have hbX : Below w.heap.size w X := by rw [hX]; exact bel_new _ _
  have hX0 : X.heap[w.heap.size]? = some (.cells [.int .i64 th, .slice ai ni ci, .slice ao no co].toArray 59 (0, 0)) := by rw [hX]; exact three_heap _ _ _ _ _
  have hni : I.length = ni := hI.1
  obtain ⟨x1, hx1⟩ : ∃ x1, chkTx (th, I, O) = x1 := ⟨_, rfl⟩
  obtain ⟨T, hTx⟩ : ∃ T, txT (th, I, O) = T := ⟨_, rfl⟩
  obtain ⟨⟨K1, nm, x2⟩, hx2⟩ : ∃ r, Bk.nameR K T = r := ⟨_, rfl⟩
  obtain ⟨⟨x3, M, S⟩, hx3⟩ : ∃ r, apD C (th, I, O) nm h = r := ⟨_, rfl⟩
  unfold doD at hx
  simp only [hx1, hTx, hx2, hx3, hni] at hx
  have HBR := hide (fun V (hv : Below X.heap.size X V) => (show V.heap[w.heap.size]? = some (.cells [.int .i64 th, .slice ai ni ci, .slice ao no co].toArray 59 (0, 0)) from (hv.block _ (lt_of_block hX0)).trans hX0))
  have HPP := hide (fun V (hv : Below w.heap.size w V) => (show V.heap[p]? = some (.cells [.slice ka kn kc, .slice la ln lc, .int .i64 h].toArray 162 (0, 0)) from (hv.block _ (lt_of_block hp)).trans hp))
  have hpl : p < w.heap.size := lt_of_block hp
  have C1 := hide (txPrint_is th ai ao ni ci no co I O T x1 X (hE.later hbX) (hI.later hbX) (hO.later hbX) sI hx1 hTx)
  have C2 := hide (fun V (hv : Below w.heap.size w V) => Bk.name_fresh ka kn kc K K1 T nm x2 V (hK.later hv) hx2)
  have C3 := hide (fun V (hv : Below w.heap.size w V) => apply_fresh la ln lc C th ai ao ni ci no co I O nm h x3 M S V (hC.later hv) sC (hI.later hv) (hO.later hv) sI hx3)
  have hRM : Hid (x3 = 0 → RightC M ∧ sumC M ≤ 1000000000 ∧ 0 ≤ sumC M) := fun q => by
    subst q
    have r := (ap_right hx3).2.1
    exact ⟨r, r.sum, sumC_nonneg M (fun c hc => by have := ck1_zero (r.one c hc); omega)⟩
  obtain ⟨s1, hs1⟩ : ∃ s, sumC C = s := ⟨_, rfl⟩
  have b1 : s1 ≤ 1000000000 := by rw [← hs1]; exact hRC.sum
  have b2 : 0 ≤ s1 := by rw [← hs1]; exact sumC_nonneg C (fun c hc => by have := ck1_zero (hRC.one c hc); omega)
  have C4 := hide (fun V (hv : Below w.heap.size w V) => pWorth_is la ln lc C s1 V (hC.later hv) hRC hs1)
  have HX := hide hx
  have HBX := hide hbX
  have HS1 := hide hs1
  have t0 := cell_of hX0 0 _ rfl
  have t1 := cell_of hX0 1 _ rfl
  have t2 := cell_of hX0 2 _ rfl
  have tl := lt_of_block hX0
  clear hE hK sK hC sC hI hO sI hx hx1 hTx hx2 hx3 hbX hX0 hp hRC hs1 hni
  go_enter Tryz.func91, Tryz.ntmps91
  go_wp2_with fail
  rw [← hX]
  clear hX
  (try go_wp2_with fail)
  refine (unhide C1).mono ?_
  rintro e w1 ⟨rfl, hb1⟩
  have h10 := (unhide HBR) _ hb1
  have t0 := cell_of h10 0 _ rfl
  have t1 := cell_of h10 1 _ rfl
  have t2 := cell_of h10 2 _ rfl
  have tl := lt_of_block h10
  have HB1 := hide (bel_on (unhide HBX) hb1)
  have HB1X := hide hb1
  clear hb1 h10 C1
  by_cases e1 : x1 = 0
  · subst e1
    by_cases e2 : ni = 0
    · subst e2
      have HXE : Hid (x = 4) := by have := unhide HX; rw [if_neg (fun q => q rfl), if_pos rfl] at this; injection this with this _; exact this.symm
      clear HX
      go_wp2
      go_ret2
      exact DoR.err (by decide) (unhide HXE) (unhide HB1)
    have gn : ((ni : Int) == 0) = false := by simp; omega
    have gn2 : ¬ ((ni : Int) = 0) := by omega
    have p1 := (unhide HPP) _ (unhide HB1)
    have q0 := cell_of p1 0 _ rfl
    have q1 := cell_of p1 1 _ rfl
    have q2 := cell_of p1 2 _ rfl
    have ql := lt_of_block p1
    clear p1
    go_wp2_with fail
    refine ((unhide C2) _ (unhide HB1)).mono ?_
    rintro e w2 ⟨⟨ka', kn', kc', rfl, hF2, sK2⟩, hb2⟩
    have HB2 := hide (bel_on (unhide HB1) hb2)
    have HF2 := hide hF2
    have HSK2 := hide sK2
    have hsz : w1.heap.size ≤ w2.heap.size := hb2.size
    obtain ⟨V, hV⟩ : ∃ V, V = w2.alloc (.cells #[.slice ka' kn' kc'] 24) := ⟨_, rfl⟩
    have hbV : Below w2.heap.size w2 V := by rw [hV]; exact bel_new _ _
    have hV0 : V.heap[w2.heap.size]? = some (.cells [.slice ka' kn' kc'].toArray 24 (0, 0)) := by rw [hV]; exact one_heap _ _ _
    have HBV := hide (bel_on (unhide HB2) hbV)
    have HB2V := hide hbV
    have HV0 := hide hV0
    have H1V := hide (bel_on (unhide HB1X) (bel_on hb2 hbV))
    clear hb2 hF2 sK2 hbV hV0 q0 q1 q2 ql t0 t1 t2 tl
    have t20 := cell_of ((unhide HBR) _ (unhide H1V)) 0 _ rfl
    have t21 := cell_of ((unhide HBR) _ (unhide H1V)) 1 _ rfl
    have t22 := cell_of ((unhide HBR) _ (unhide H1V)) 2 _ rfl
    have t2l := lt_of_block ((unhide HBR) _ (unhide H1V))
    have q20 := cell_of ((unhide HPP) _ (unhide HBV)) 0 _ rfl
    have q21 := cell_of ((unhide HPP) _ (unhide HBV)) 1 _ rfl
    have q22 := cell_of ((unhide HPP) _ (unhide HBV)) 2 _ rfl
    have q2l := lt_of_block ((unhide HPP) _ (unhide HBV))
    by_cases e3 : x2 = 0
    · subst e3
      go_upto_region 9 with fail
      rw [← hV]
      clear hV
      have HVD := hide (bel_on (unhide HBV) (bel_draw1 V))
      have HVA := hide (bel_on (bel_on (unhide HBV) (bel_new V (.cells #[.slice none 0 0] 153))) (bel_draw1 _))
      have v0 : (V.alloc (.cells #[.slice none 0 0] 153)).drew.heap[V.heap.size]? = some (.cells #[.slice none 0 0] 153 (0, 0)) := one_heap V (.slice none 0 0) 153
      have HV1 := hide v0
      clear v0
      have KS : Hid (∀ U : World, Below V.heap.size V U → ((U.cell? ⟨p, 1, none⟩ = some (.slice la ln lc) ∧ U.cell? ⟨p, 2, none⟩ = some (.int .i64 h) ∧ p < U.heap.size) ∧ U.cell? ⟨w.heap.size, 0, none⟩ = some (.int .i64 th) ∧ U.cell? ⟨w.heap.size, 1, none⟩ = some (.slice ai ni ci) ∧ U.cell? ⟨w.heap.size, 2, none⟩ = some (.slice ao no co) ∧ w.heap.size < U.heap.size)) := fun U hu => ⟨⟨cell_later hu q21, cell_later hu q22, Nat.lt_of_lt_of_le q2l hu.size⟩, cell_later hu t20, cell_later hu t21, cell_later hu t22, Nat.lt_of_lt_of_le t2l hu.size⟩
      go_cut [5, 9, 10] from 36 to 50 (fun s5 s9 s10 wx => s5 = .int .i64 x3 ∧ Hid (CutDo V wx M s9))
      case first =>
        refine wp_region_held_drew (S := fun U => (U.cell? ⟨p, 1, none⟩ = some (.slice la ln lc) ∧ U.cell? ⟨p, 2, none⟩ = some (.int .i64 h) ∧ p < U.heap.size) ∧ U.cell? ⟨w.heap.size, 0, none⟩ = some (.int .i64 th) ∧ U.cell? ⟨w.heap.size, 1, none⟩ = some (.slice ai ni ci) ∧ U.cell? ⟨w.heap.size, 2, none⟩ = some (.slice ao no co) ∧ w.heap.size < U.heap.size) (by kernel_rfl) ((unhide KS) _ (bel_draw1 _)) (fun hHeld => ?_)
        refine tk 0 { dst := some 37, op := Op.move (Operand.tmp 0), type := 157, pos := "till.go:47", after := #[], guard := none } ?_ rfl ?_ hHeld ?_
        rotate_left
        · (intro U hSw; obtain ⟨⟨s1, s2, s3⟩, s4, s5, s6, s7⟩ := hSw; go_simp; first | done | with_reducible rfl)
        (try simp only [Act.put, List.setIfInBounds_toArray, List.set_cons_zero, List.set_cons_succ])
        refine tk 1 { dst := some 38, op := Op.nilCheck (Operand.tmp 37), type := 0, pos := "till.go:47", after := #[{ on := 0, ground := Ground.data }], guard := none } ?_ rfl ?_ hHeld ?_
        rotate_left
        · (intro U hSw; obtain ⟨⟨s1, s2, s3⟩, s4, s5, s6, s7⟩ := hSw; go_simp; first | done | with_reducible rfl)
        (try simp only [Act.put, List.setIfInBounds_toArray, List.set_cons_zero, List.set_cons_succ])
        refine tk 2 { dst := some 39, op := Op.fieldAddr 162 (Operand.tmp 38) 1, type := 0, pos := "till.go:47", after := #[{ on := 1, ground := Ground.data }], guard := none } ?_ rfl ?_ hHeld ?_
        rotate_left
        · (intro U hSw; obtain ⟨⟨s1, s2, s3⟩, s4, s5, s6, s7⟩ := hSw; go_simp; first | done | with_reducible rfl)
        (try simp only [Act.put, List.setIfInBounds_toArray, List.set_cons_zero, List.set_cons_succ])
        refine tk 3 { dst := some 40, op := Op.load 29 (Operand.tmp 39), type := 29, pos := "till.go:47", after := #[{ on := 2, ground := Ground.data }], guard := none } ?_ rfl ?_ hHeld ?_
        rotate_left
        · (intro U hSw; obtain ⟨⟨s1, s2, s3⟩, s4, s5, s6, s7⟩ := hSw; go_simp; first | done | with_reducible rfl)
        (try simp only [Act.put, List.setIfInBounds_toArray, List.set_cons_zero, List.set_cons_succ])
        refine tk 4 { dst := some 41, op := Op.load 59 (Operand.tmp 3), type := 59, pos := "till.go:47", after := #[], guard := none } ?_ rfl ?_ hHeld ?_
        rotate_left
        · (intro U hSw; obtain ⟨⟨s1, s2, s3⟩, s4, s5, s6, s7⟩ := hSw; go_simp; first | done | with_reducible rfl)
        (try simp only [Act.put, List.setIfInBounds_toArray, List.set_cons_zero, List.set_cons_succ])
        refine tk 5 { dst := some 42, op := Op.move (Operand.tmp 8), type := 3, pos := "till.go:47", after := #[], guard := none } ?_ rfl ?_ hHeld ?_
        rotate_left
        · (intro U hSw; obtain ⟨⟨s1, s2, s3⟩, s4, s5, s6, s7⟩ := hSw; go_simp; first | done | with_reducible rfl)
        (try simp only [Act.put, List.setIfInBounds_toArray, List.set_cons_zero, List.set_cons_succ])
        refine tk 6 { dst := some 43, op := Op.move (Operand.tmp 0), type := 157, pos := "till.go:47", after := #[], guard := none } ?_ rfl ?_ hHeld ?_
        rotate_left
        · (intro U hSw; obtain ⟨⟨s1, s2, s3⟩, s4, s5, s6, s7⟩ := hSw; go_simp; first | done | with_reducible rfl)
        (try simp only [Act.put, List.setIfInBounds_toArray, List.set_cons_zero, List.set_cons_succ])
        refine tk 7 { dst := some 44, op := Op.nilCheck (Operand.tmp 43), type := 0, pos := "till.go:47", after := #[{ on := 6, ground := Ground.data }], guard := none } ?_ rfl ?_ hHeld ?_
        rotate_left
        · (intro U hSw; obtain ⟨⟨s1, s2, s3⟩, s4, s5, s6, s7⟩ := hSw; go_simp; first | done | with_reducible rfl)
        (try simp only [Act.put, List.setIfInBounds_toArray, List.set_cons_zero, List.set_cons_succ])
        refine tk 8 { dst := some 45, op := Op.fieldAddr 162 (Operand.tmp 44) 2, type := 0, pos := "till.go:47", after := #[{ on := 7, ground := Ground.data }], guard := none } ?_ rfl ?_ hHeld ?_
        rotate_left
        · (intro U hSw; obtain ⟨⟨s1, s2, s3⟩, s4, s5, s6, s7⟩ := hSw; go_simp; first | done | with_reducible rfl)
        (try simp only [Act.put, List.setIfInBounds_toArray, List.set_cons_zero, List.set_cons_succ])
        refine tk 9 { dst := some 46, op := Op.load 3 (Operand.tmp 45), type := 3, pos := "till.go:47", after := #[{ on := 8, ground := Ground.data }], guard := none } ?_ rfl ?_ hHeld ?_
        rotate_left
        · (intro U hSw; obtain ⟨⟨s1, s2, s3⟩, s4, s5, s6, s7⟩ := hSw; go_simp; first | done | with_reducible rfl)
        (try simp only [Act.put, List.setIfInBounds_toArray, List.set_cons_zero, List.set_cons_succ])
        refine wpAnyH_ready (rs := [10, 15]) (by kernel_rfl) (by simp) ?_
        refine AllReadyH.cons (o := { dst := some 47, op := Op.call { callee := Callee.value (Operand.func 76), args := #[Operand.tmp 40, Operand.tmp 41, Operand.tmp 42, Operand.tmp 46], argTypes := #[29, 59, 3, 3] }, type := 154, pos := "till.go:47", after := #[{ on := 3, ground := Ground.data }, { on := 4, ground := Ground.data }, { on := 5, ground := Ground.data }, { on := 9, ground := Ground.data }], guard := none }) rfl (fun KQ hK => ?_) (AllReadyH.cons (o := { dst := some 10, op := Op.alloc 153, type := 0, pos := "till.go:47", after := #[], guard := none }) rfl (fun KQ hK => ?_) AllReadyH.nil)
        · refine step_call_w (by kernel_rfl) 76 #[.slice la ln lc, .agg #[.int .i64 th, .slice ai ni ci, .slice ao no co], .int .i64 nm, .int .i64 h] (by kernel_rfl) ((unhide C3) V.drew (unhide HVD)) ?_
          rintro e w5 ⟨am, nm5, cm, sa, ns, cs, rfl, hF5, sM5, -, -, hb5⟩
          refine ⟨_, rfl, ?_⟩
          have hb : Below V.heap.size V w5 := bel_on (bel_draw1 V) hb5
          refine hK.out _ _ ((unhide KS) _ hb) (fun hHeld2 => ?_)
          clear hK KQ hHeld
          have hHeld := hHeld2
          clear hHeld2
          (try simp only [Act.put, List.setIfInBounds_toArray, List.set_cons_zero, List.set_cons_succ])
          refine tk 11 { dst := some 36, op := Op.move (Operand.tmp 47), type := 154, pos := "till.go:47", after := #[{ on := 10, ground := Ground.data }], guard := none } ?_ rfl ?_ hHeld ?_
          rotate_left
          · (intro U hSw; (try dsimp only at hSw); go_simp; first | done | with_reducible rfl)
          (try simp only [Act.put, List.setIfInBounds_toArray, List.set_cons_zero, List.set_cons_succ])
          refine tk 12 { dst := some 48, op := Op.extract (Operand.tmp 36) 0, type := 29, pos := "till.go:47", after := #[{ on := 11, ground := Ground.data }], guard := none } ?_ rfl ?_ hHeld ?_
          rotate_left
          · (intro U hSw; (try dsimp only at hSw); go_simp; first | done | with_reducible rfl)
          (try simp only [Act.put, List.setIfInBounds_toArray, List.set_cons_zero, List.set_cons_succ])
          refine tk 13 { dst := some 49, op := Op.extract (Operand.tmp 36) 1, type := 153, pos := "till.go:47", after := #[{ on := 11, ground := Ground.data }, { on := 16, ground := Ground.gcOnly Departure.lateStores }], guard := none } ?_ rfl ?_ hHeld ?_
          rotate_left
          · (intro U hSw; (try dsimp only at hSw); go_simp; first | done | with_reducible rfl)
          (try simp only [Act.put, List.setIfInBounds_toArray, List.set_cons_zero, List.set_cons_succ])
          refine tk 14 { dst := some 50, op := Op.extract (Operand.tmp 36) 2, type := 30, pos := "till.go:47", after := #[{ on := 11, ground := Ground.data }, { on := 17, ground := Ground.gcOnly Departure.lateStores }], guard := none } ?_ rfl ?_ hHeld ?_
          rotate_left
          · (intro U hSw; (try dsimp only at hSw); go_simp; first | done | with_reducible rfl)
          (try simp only [Act.put, List.setIfInBounds_toArray, List.set_cons_zero, List.set_cons_succ])
          refine wpAnyH_ready (rs := [15]) (by kernel_rfl) (by simp) ?_
          refine AllReadyH.cons (o := { dst := some 10, op := Op.alloc 153, type := 0, pos := "till.go:47", after := #[], guard := none }) rfl (fun KQ hK => ?_) AllReadyH.nil
          go_simp
          refine hK.out _ _ ((unhide KS) _ (bel_on hb (bel_new _ _))) (fun hHeld2 => ?_)
          clear hK KQ hHeld
          have hHeld := hHeld2
          clear hHeld2
          (try simp only [Act.put, List.setIfInBounds_toArray, List.set_cons_zero, List.set_cons_succ])
          refine tk 16 { dst := some 9, op := Op.assign (Operand.tmp 48), type := 29, pos := "till.go:47", after := #[{ on := 12, ground := Ground.data }, { on := 10, ground := Ground.chain }, { on := 0, ground := Ground.phase }, { on := 1, ground := Ground.phase }, { on := 2, ground := Ground.phase }, { on := 3, ground := Ground.phase }, { on := 4, ground := Ground.phase }, { on := 5, ground := Ground.phase }, { on := 6, ground := Ground.phase }, { on := 7, ground := Ground.phase }, { on := 8, ground := Ground.phase }, { on := 9, ground := Ground.phase }, { on := 10, ground := Ground.phase }, { on := 11, ground := Ground.phase }, { on := 12, ground := Ground.phase }, { on := 13, ground := Ground.textOnly Departure.lateStores }, { on := 14, ground := Ground.textOnly Departure.lateStores }, { on := 15, ground := Ground.phase }], guard := none } ?_ rfl ?_ hHeld ?_
          rotate_left
          · (intro U hSw; (try dsimp only at hSw); go_simp; first | done | with_reducible rfl)
          (try simp only [Act.put, List.setIfInBounds_toArray, List.set_cons_zero, List.set_cons_succ])
          refine wpAnyH_ready (rs := [17]) (by kernel_rfl) (by simp) ?_
          refine AllReadyH.cons (o := { dst := none, op := Op.store 153 (Operand.tmp 10) (Operand.tmp 49), type := 0, pos := "till.go:47", after := #[{ on := 15, ground := Ground.data }, { on := 13, ground := Ground.data }, { on := 16, ground := Ground.chain }, { on := 0, ground := Ground.phase }, { on := 1, ground := Ground.phase }, { on := 2, ground := Ground.phase }, { on := 3, ground := Ground.phase }, { on := 4, ground := Ground.phase }, { on := 5, ground := Ground.phase }, { on := 6, ground := Ground.phase }, { on := 7, ground := Ground.phase }, { on := 8, ground := Ground.phase }, { on := 9, ground := Ground.phase }, { on := 10, ground := Ground.phase }, { on := 11, ground := Ground.phase }, { on := 12, ground := Ground.phase }, { on := 13, ground := Ground.phase }, { on := 14, ground := Ground.textOnly Departure.lateStores }, { on := 15, ground := Ground.phase }, { on := 16, ground := Ground.phase }], guard := none }) rfl (fun KQ hK => ?_) AllReadyH.nil
          go_simp
          refine hK.out _ _ ((unhide KS) _ (bel_on hb (bel_new _ _))) (fun hHeld2 => ?_)
          clear hK KQ hHeld
          have hHeld := hHeld2
          clear hHeld2
          (try simp only [Act.put])
          refine tk 18 { dst := some 5, op := Op.assign (Operand.tmp 50), type := 30, pos := "till.go:47", after := #[{ on := 14, ground := Ground.data }, { on := 17, ground := Ground.chain }, { on := 0, ground := Ground.phase }, { on := 1, ground := Ground.phase }, { on := 2, ground := Ground.phase }, { on := 3, ground := Ground.phase }, { on := 4, ground := Ground.phase }, { on := 5, ground := Ground.phase }, { on := 6, ground := Ground.phase }, { on := 7, ground := Ground.phase }, { on := 8, ground := Ground.phase }, { on := 9, ground := Ground.phase }, { on := 10, ground := Ground.phase }, { on := 11, ground := Ground.phase }, { on := 12, ground := Ground.phase }, { on := 13, ground := Ground.phase }, { on := 14, ground := Ground.phase }, { on := 15, ground := Ground.phase }, { on := 16, ground := Ground.phase }, { on := 17, ground := Ground.phase }], guard := none } ?_ rfl ?_ hHeld ?_
          rotate_left
          · (intro U hSw; (try dsimp only at hSw); go_simp; first | done | with_reducible rfl)
          (try simp only [Act.put, List.setIfInBounds_toArray, List.set_cons_zero, List.set_cons_succ])
          refine wpAnyH_done (by kernel_rfl) ?_ _
          clear hHeld
          go_wp2_with fail
          go_meet
          case rel => exact ⟨rfl, cutDo_of hF5 (Nat.le_refl _) sM5 hb (Gr.of (bel_new _ _))⟩
        · go_simp
          obtain ⟨v6, hv6⟩ : ∃ v6, v6 = (V.alloc (.cells #[.slice none 0 0] 153)).drew := ⟨_, rfl⟩
          have h6 := unhide HV1
          have hbA := unhide HVA
          rw [← hv6] at h6 hbA
          rw [← hv6]
          have hb6 : Below V.heap.size V v6 := by rw [hv6]; exact bel_on (bel_new _ _) (bel_draw1 _)
          have hv6s : v6.heap.size = V.heap.size + 1 := by rw [hv6]; simp
          refine hK.out _ _ ((unhide KS) _ hb6) (fun hHeld2 => ?_)
          clear hK KQ hHeld
          have hHeld := hHeld2
          clear hHeld2
          (try simp only [Act.put, List.setIfInBounds_toArray, List.set_cons_zero, List.set_cons_succ])
          refine wpAnyH_ready (rs := [10]) (by kernel_rfl) (by simp) ?_
          refine AllReadyH.cons (o := { dst := some 47, op := Op.call { callee := Callee.value (Operand.func 76), args := #[Operand.tmp 40, Operand.tmp 41, Operand.tmp 42, Operand.tmp 46], argTypes := #[29, 59, 3, 3] }, type := 154, pos := "till.go:47", after := #[{ on := 3, ground := Ground.data }, { on := 4, ground := Ground.data }, { on := 5, ground := Ground.data }, { on := 9, ground := Ground.data }], guard := none }) rfl (fun KQ hK => ?_) AllReadyH.nil
          refine step_call_w (by kernel_rfl) 76 #[.slice la ln lc, .agg #[.int .i64 th, .slice ai ni ci, .slice ao no co], .int .i64 nm, .int .i64 h] (by kernel_rfl) ((unhide C3) v6 hbA) ?_
          rintro e w5 ⟨am, nm5, cm, sa, ns, cs, rfl, hF5, sM5, -, -, hb5⟩
          refine ⟨_, rfl, ?_⟩
          have hb : Below V.heap.size V w5 := bel_on hb6 hb5
          have h5 := (hb5.block _ (lt_of_block h6)).trans h6
          have u50 := cell_of (X := [.slice none 0 0]) h5 0 _ rfl
          have u5f := frozen_of h5 0
          have u5l := lt_of_block h5
          refine hK.out _ _ ((unhide KS) _ hb) (fun hHeld2 => ?_)
          clear hK KQ hHeld
          have hHeld := hHeld2
          clear hHeld2
          (try simp only [Act.put, List.setIfInBounds_toArray, List.set_cons_zero, List.set_cons_succ])
          refine tk 11 { dst := some 36, op := Op.move (Operand.tmp 47), type := 154, pos := "till.go:47", after := #[{ on := 10, ground := Ground.data }], guard := none } ?_ rfl ?_ hHeld ?_
          rotate_left
          · (intro U hSw; (try dsimp only at hSw); go_simp; first | done | with_reducible rfl)
          (try simp only [Act.put, List.setIfInBounds_toArray, List.set_cons_zero, List.set_cons_succ])
          refine tk 12 { dst := some 48, op := Op.extract (Operand.tmp 36) 0, type := 29, pos := "till.go:47", after := #[{ on := 11, ground := Ground.data }], guard := none } ?_ rfl ?_ hHeld ?_
          rotate_left
          · (intro U hSw; (try dsimp only at hSw); go_simp; first | done | with_reducible rfl)
          (try simp only [Act.put, List.setIfInBounds_toArray, List.set_cons_zero, List.set_cons_succ])
          refine tk 13 { dst := some 49, op := Op.extract (Operand.tmp 36) 1, type := 153, pos := "till.go:47", after := #[{ on := 11, ground := Ground.data }, { on := 16, ground := Ground.gcOnly Departure.lateStores }], guard := none } ?_ rfl ?_ hHeld ?_
          rotate_left
          · (intro U hSw; (try dsimp only at hSw); go_simp; first | done | with_reducible rfl)
          (try simp only [Act.put, List.setIfInBounds_toArray, List.set_cons_zero, List.set_cons_succ])
          refine tk 14 { dst := some 50, op := Op.extract (Operand.tmp 36) 2, type := 30, pos := "till.go:47", after := #[{ on := 11, ground := Ground.data }, { on := 17, ground := Ground.gcOnly Departure.lateStores }], guard := none } ?_ rfl ?_ hHeld ?_
          rotate_left
          · (intro U hSw; (try dsimp only at hSw); go_simp; first | done | with_reducible rfl)
          (try simp only [Act.put, List.setIfInBounds_toArray, List.set_cons_zero, List.set_cons_succ])
          refine tk 16 { dst := some 9, op := Op.assign (Operand.tmp 48), type := 29, pos := "till.go:47", after := #[{ on := 12, ground := Ground.data }, { on := 10, ground := Ground.chain }, { on := 0, ground := Ground.phase }, { on := 1, ground := Ground.phase }, { on := 2, ground := Ground.phase }, { on := 3, ground := Ground.phase }, { on := 4, ground := Ground.phase }, { on := 5, ground := Ground.phase }, { on := 6, ground := Ground.phase }, { on := 7, ground := Ground.phase }, { on := 8, ground := Ground.phase }, { on := 9, ground := Ground.phase }, { on := 10, ground := Ground.phase }, { on := 11, ground := Ground.phase }, { on := 12, ground := Ground.phase }, { on := 13, ground := Ground.textOnly Departure.lateStores }, { on := 14, ground := Ground.textOnly Departure.lateStores }, { on := 15, ground := Ground.phase }], guard := none } ?_ rfl ?_ hHeld ?_
          rotate_left
          · (intro U hSw; (try dsimp only at hSw); go_simp; first | done | with_reducible rfl)
          (try simp only [Act.put, List.setIfInBounds_toArray, List.set_cons_zero, List.set_cons_succ])
          refine wpAnyH_ready (rs := [17]) (by kernel_rfl) (by simp) ?_
          refine AllReadyH.cons (o := { dst := none, op := Op.store 153 (Operand.tmp 10) (Operand.tmp 49), type := 0, pos := "till.go:47", after := #[{ on := 15, ground := Ground.data }, { on := 13, ground := Ground.data }, { on := 16, ground := Ground.chain }, { on := 0, ground := Ground.phase }, { on := 1, ground := Ground.phase }, { on := 2, ground := Ground.phase }, { on := 3, ground := Ground.phase }, { on := 4, ground := Ground.phase }, { on := 5, ground := Ground.phase }, { on := 6, ground := Ground.phase }, { on := 7, ground := Ground.phase }, { on := 8, ground := Ground.phase }, { on := 9, ground := Ground.phase }, { on := 10, ground := Ground.phase }, { on := 11, ground := Ground.phase }, { on := 12, ground := Ground.phase }, { on := 13, ground := Ground.phase }, { on := 14, ground := Ground.textOnly Departure.lateStores }, { on := 15, ground := Ground.phase }, { on := 16, ground := Ground.phase }], guard := none }) rfl (fun KQ hK => ?_) AllReadyH.nil
          go_simp
          refine hK.out _ _ ((unhide KS) _ (hb.setCell (p := ⟨V.heap.size, 0, none⟩) (Nat.le_refl _) _)) (fun hHeld2 => ?_)
          clear hK KQ hHeld
          have hHeld := hHeld2
          clear hHeld2
          (try simp only [Act.put])
          refine tk 18 { dst := some 5, op := Op.assign (Operand.tmp 50), type := 30, pos := "till.go:47", after := #[{ on := 14, ground := Ground.data }, { on := 17, ground := Ground.chain }, { on := 0, ground := Ground.phase }, { on := 1, ground := Ground.phase }, { on := 2, ground := Ground.phase }, { on := 3, ground := Ground.phase }, { on := 4, ground := Ground.phase }, { on := 5, ground := Ground.phase }, { on := 6, ground := Ground.phase }, { on := 7, ground := Ground.phase }, { on := 8, ground := Ground.phase }, { on := 9, ground := Ground.phase }, { on := 10, ground := Ground.phase }, { on := 11, ground := Ground.phase }, { on := 12, ground := Ground.phase }, { on := 13, ground := Ground.phase }, { on := 14, ground := Ground.phase }, { on := 15, ground := Ground.phase }, { on := 16, ground := Ground.phase }, { on := 17, ground := Ground.phase }], guard := none } ?_ rfl ?_ hHeld ?_
          rotate_left
          · (intro U hSw; (try dsimp only at hSw); go_simp; first | done | with_reducible rfl)
          (try simp only [Act.put, List.setIfInBounds_toArray, List.set_cons_zero, List.set_cons_succ])
          refine wpAnyH_done (by kernel_rfl) ?_ _
          clear hHeld
          go_wp2_with fail
          go_meet
          case rel => exact ⟨rfl, cutDo_of hF5 (by omega) sM5 hb ((Gr.refl w5 _).one V.heap.size 0 (.inl ⟨by omega, Nat.le_refl _⟩) _)⟩
      case rest =>
        obtain ⟨rfl, hc⟩ := hcut
        obtain ⟨am, nm5, cm, rfl, hF5, sM5, hb5⟩ := unhide hc
        have hbw := bel_on (unhide HBV) hb5
        have HBC := hide hbw
        have HB5 := hide hb5
        have HF5 := hide hF5
        have HSM5 := hide sM5
        have p5 := (unhide HPP) _ hbw
        have q50 := cell_of p5 0 _ rfl
        have q51 := cell_of p5 1 _ rfl
        have q52 := cell_of p5 2 _ rfl
        have q5l := lt_of_block p5
        have CM := hide (fun U (hu : Below wc.heap.size wc U) (h0 : x3 = 0) s2 (hs : sumC M = s2) => pWorth_is am nm5 cm M s2 U ((hF5 wc (Gr.refl _ _)).later hu) ((unhide hRM) h0).1 hs)
        clear hc hF5 sM5 hb5 hbw p5 t20 t21 t22 t2l q20 q21 q22 q2l KS HVD HVA HV1 C3
        by_cases e4 : x3 = 0
        · obtain ⟨hRM1, hRM2, hRM3⟩ := (unhide hRM) e4
          obtain ⟨s2, hs2⟩ : ∃ s2, sumC M = s2 := ⟨_, rfl⟩
          rw [hs2] at hRM2 hRM3
          have CM2 := hide (fun U hu => (unhide CM) U hu e4 s2 hs2)
          have HS2 := hide hs2
          have HXE : Hid (x = 0 ∧ K' = K1 ∧ C' = M) := by have := unhide HX; rw [if_neg (fun q => q rfl), if_neg e2, if_neg (fun q => q rfl), if_neg (fun q => q e4)] at this; injection this with h1 h2; injection h2 with h2 h3; exact ⟨h1.symm, h2.symm, h3.symm⟩
          subst e4
          clear hs2 CM HX hRM hRM1
          have C5 := hide ((unhide C4) wc (unhide HBC))
          go_wp2_with fail
          refine (unhide C5).mono ?_
          rintro e w6 ⟨rfl, hb6⟩
          have C6 := hide ((unhide CM2) w6 hb6)
          have HB6 := hide hb6
          clear hb6 C5 C4
          go_wp2_with fail
          refine (unhide C6).mono ?_
          rintro e w7 ⟨rfl, hb7⟩
          have hb57 := bel_on (unhide HB6) hb7
          have hbw7 := bel_on (unhide HBC) hb57
          have p7 := (unhide HPP) _ hbw7
          have q70 := cell_of p7 0 _ rfl
          have q71 := cell_of p7 1 _ rfl
          have q7f0 := frozen_of p7 0
          have q7f1 := frozen_of p7 1
          have q7l := lt_of_block p7
          have k7 := ((bel_on (unhide HB5) hb57).block _ (lt_of_block (unhide HV0))).trans (unhide HV0)
          have k70 := cell_of k7 0 _ rfl
          have k7l := lt_of_block k7
          have hpk : p ≠ w2.heap.size := by have := (unhide HB2).size; omega
          have hpk2 : w2.heap.size ≠ p := fun q => hpk q.symm
          have G7 : Gr w7 ((w7.setCell ⟨p, 0, none⟩ (.slice ka' kn' kc')).setCell ⟨p, 1, none⟩ (.slice am nm5 cm)) (fun q => q = p) := ((Gr.refl w7 (fun q => q = p)).one p 0 (.inl rfl) _).one p 1 (.inl rfl) _
          have HFIN : Hid (DoR w ((w7.setCell ⟨p, 0, none⟩ (.slice ka' kn' kc')).setCell ⟨p, 1, none⟩ (.slice am nm5 cm)) p x K' C' h (sumC C - sumC C') (.returned (.tuple #[.int .i64 (s1 - s2), .int .i64 0]))) := by
            obtain ⟨rfl, rfl, rfl⟩ := unhide HXE
            rw [unhide HS1, unhide HS2]
            refine .inr ⟨rfl, rfl, (Gr.of hbw7).trans G7, ka', kn', kc', am, nm5, cm, Tr.set_cells (Tr.set_cells p7 0 _) 1 _, fun W g2 => ⟨(unhide HF2) W ?_, (unhide HF5) W ?_⟩, unhide HSK2, unhide HSM5⟩
            · exact ((Gr.of (bel_on (unhide HB2V) (bel_on (unhide HB5) hb57))).trans (G7.mono (fun q _ e => by rw [e]; exact Nat.lt_of_lt_of_le hpl (unhide HB1).size))).trans (g2.mono (fun q _ e => Nat.lt_of_lt_of_le e (unhide HB1).size))
            · exact ((Gr.of hb57).trans (G7.mono (fun q _ e => by rw [e]; exact Nat.lt_of_lt_of_le hpl (unhide HBV).size))).trans (g2.mono (fun q _ e => Nat.lt_of_lt_of_le e (unhide HBV).size))
          clear G7 hb57 hbw7 p7 k7 hb7 C6 CM2
          go_wp2
          go_ret2
          exact unhide HFIN
        · have gx3 : (x3 != 0) = true := by simp [e4]
          have HXE : Hid (x = x3) := by have := unhide HX; rw [if_neg (fun q => q rfl), if_neg e2, if_neg (fun q => q rfl), if_pos e4] at this; injection this with this _; exact this.symm
          clear HX CM
          go_wp2
          go_ret2
          exact DoR.err e4 (unhide HXE) (unhide HBC)
    · have gx2 : (x2 != 0) = true := by simp [e3]
      have HXE : Hid (x = x2) := by have := unhide HX; rw [if_neg (fun q => q rfl), if_neg e2, if_pos e3] at this; injection this with this _; exact this.symm
      clear HX
      go_wp2
      rw [← hV]
      go_ret2
      exact DoR.err e3 (unhide HXE) (unhide HBV)
  · have gx1 : (x1 != 0) = true := by simp [e1]
    have HXE : Hid (x = x1) := by have := unhide HX; rw [if_pos e1] at this; injection this with this _; exact this.symm
    clear HX
    go_wp2
    go_ret2
    exact DoR.err e1 (unhide HXE) (unhide HB1)

end Go.Proofs.YtmomfkikogbdeaaGreatDoor
