/- The contract of Parse of blocks (written by a program of ours: mkparse.py). -/
import Derived.Test.YtepmnpapdknocaaGreatDoorTxLinesCToBlkParseM
import Derived.Deep.RegionHeld3
namespace Go.Proofs.YtepmnpapdknocaaGreatDoor
open Go.RowKit

theorem cut_le (s : ByteArray) : (cutN s).size ≤ s.size ∧ (resN s).size ≤ s.size := by
  have h : (Lib.cut s.data.toList [10]).1.length ≤ s.data.toList.length ∧ (Lib.cut s.data.toList [10]).2.1.length ≤ s.data.toList.length := by
    unfold Lib.cut
    split <;> simp <;> omega
  have e : s.data.toList.length = s.size := by rw [Array.length_toList]; rfl
  rw [e] at h
  exact ⟨h.1, h.2⟩
theorem Tryz.infoTxP : (Tryz.prog.info? 74).map (fun i => (i.zero, i.size, i.bytes)) = some (some (.agg #[.int .i64 0, .slice none 0 0, .slice none 0 0]), 3, 56) := by kernel_rfl
theorem TxOwn.gr {B : Nat} {w w' : World} {S : Nat → Prop} {v1 v2 : Value} {I : List InD} {O : List OutD} (h : TxOwn B w v1 v2 I O) (g : Gr w w' S) (hs : ∀ q, S q → q < B) : TxOwn B w' v1 v2 I O := by
  obtain ⟨L1, L2, e1, e2, o1, o2, k1, k2⟩ := h
  have q : ∀ {e : TypeId} {size : Nat} {v : Value} {n : Nat} {xs : List Value}, w.ownsRow B e size v n xs → w'.ownsRow B e size v n xs := fun ho => g.own ho (fun q hq hS => by have := hs q hS; have := (ho.lt q hq).1; omega)
  exact ⟨L1, L2, e1, e2, q o1, q o2, fun x hx => q (k1 x hx), fun x hx => q (k2 x hx)⟩
theorem results_ct {fn : Func} {p u : Tmp} {ty : TypeId} (h : fn.results = #[.cell p ty, .tmp u]) (tmps : Array Value) (P : Program) (w : World) :
    (results fn tmps).run P w = ((asAddr (tmps.getD p undef)).run P w).andThen fun a w₁ => ((loadVar ty a).run P w₁).andThen fun v w₂ => .ok (.tuple #[v, tmps.getD u undef]) w₂ := by
  simp only [results, h]
  simp [Sem.run_bind, Result.andThen]
theorem blk_zero {w w' : World} {x y : Int} {b : BlkD} (h : ((y : Int), zeroBk) = (x, b)) (hb : Below w.heap.size w w') : BlkIs w w' (.returned (.tuple #[.agg #[.int .i64 0, .int .i64 0, .int .i64 0, .int .i64 0, .slice none 0 0], .int .i64 y])) x b := by
  injection h with h1 h2
  subst h1 h2
  exact ⟨none, 0, 0, rfl, ⟨rfl, fun h => absurd h (by simp)⟩, slok_nil, hb⟩

set_option maxRecDepth 10000 in
set_option maxHeartbeats 3200000 in
theorem blkParse_long (s : ByteArray) (hs : 4000 < s.size) (w : World) (x : Int) (b : BlkD) (hx : prB s = (x, b)) :
    Calls Tryz.prog 20 #[.string s] w fun e w' => BlkIs w w' e x b := by
  have R : Hid (((2 : Int), zeroBk) = (x, b)) := by show _ = _; rw [← hx]; unfold prB; rw [if_pos hs]
  have g : (4000 : Int) < (s.size : Int) := by omega
  have HB := hide (bel_new w (.cells #[.int .i64 0, .int .i64 0, .int .i64 0, .int .i64 0, .slice none 0 0] 28))
  clear hx hs
  go_enter Tryz.func20, Tryz.ntmps20
  go_wp2
  (try simp only [Exit.inBlock, Exit.then])
  refine bodyPost_ret (v := .tuple #[.agg #[.int .i64 0, .int .i64 0, .int .i64 0, .int .i64 0, .slice none 0 0], .int .i64 2]) ?_ rfl (blk_zero (unhide R) ?_)
  · rw [results_ct rfl]
    go_simp
  · first
      | exact unhide HB
      | exact bel_new w _

set_option maxRecDepth 10000 in
set_option maxHeartbeats 12800000 in
theorem blkParse_short (s : ByteArray) (hs : s.size ≤ 4000) (w : World) (hE : EnvP w) (x : Int) (b : BlkD) (hx : prB s = (x, b)) :
    Calls Tryz.prog 20 #[.string s] w fun e w' => BlkIs w w' e x b := by
  obtain ⟨X, hX⟩ : ∃ X, X = w.alloc (.cells #[.int .i64 0, .int .i64 0, .int .i64 0, .int .i64 0, .slice none 0 0] 28) := ⟨_, rfl⟩
  have hbX : Below w.heap.size w X := by rw [hX]; exact bel_new _ _
  have hX0 : X.heap[w.heap.size]? = some (.cells [.int .i64 0, .int .i64 0, .int .i64 0, .int .i64 0, .slice none 0 0].toArray 28 (0, 0)) := by rw [hX]; exact five_heap _ _ _ _ _ _ _
  have hcl := cut_le s
  have C1 := hide (Tryz.strings_Cut_shaped s ⟨#[10]⟩ X (hE.later hbX).shp (by omega))
  obtain ⟨r, hr⟩ : ∃ r, rowOf (cutN s) blockB 4 = r := ⟨_, rfl⟩
  have C2 := hide (fun W (hb : Below X.heap.size X W) => parseRow_any (cutN s) blockB 4 4 rfl (by omega) (by omega) (by omega) W (hE.later (bel_on hbX hb)) r hr)
  have C3 := hide (fun W (hb : Below X.heap.size X W) => pieces_is (resN s) (by omega) W (hE.later (bel_on hbX hb)))
  have C4 := hide (fun p W (hb : Below X.heap.size X W) => txParse_any p W (hE.later (bel_on hbX hb)))
  have g : ¬ (4000 : Int) < (s.size : Int) := by omega
  unfold prB at hx
  rw [if_neg (by omega), hr] at hx
  have HB0 := hide hbX
  have BR0 := hide hX0
  clear hE hcl hbX hX0
  go_enter Tryz.func20, Tryz.ntmps20
  go_wp2_with fail
  rw [← hX]
  clear hX
  refine (unhide C1).mono ?_
  rintro e w1 ⟨rfl, q1, rfl⟩
  have hb1 : Below X.heap.size X (X.drewN q1) := ⟨rfl, rfl, rfl, Nat.le_refl _, fun _ _ => rfl⟩
  obtain ⟨w1, hw1⟩ : ∃ w1, w1 = X.drewN q1 := ⟨_, rfl⟩
  rw [← hw1] at hb1 ⊢
  clear hw1
  have CC := hide ((unhide C2) w1 hb1)
  have HB1 := hide hb1
  have BR1 := hide ((hb1.block _ (lt_of_block (unhide BR0))).trans (unhide BR0))
  clear hb1 C1 C2
  have ecut : (⟨(Lib.cut s.data.toList [10]).1.toArray⟩ : ByteArray) = cutN s := rfl
  have eres : (⟨(Lib.cut s.data.toList [10]).2.1.toArray⟩ : ByteArray) = resN s := rfl
  simp only [ecut, eres]
  clear ecut eres
  go_wp2_with fail
  refine (unhide CC).mono ?_
  rintro e w2 ⟨ra, rc, rfl, hr2, hb2, _⟩
  have HB2 := hide (bel_on (unhide HB1) hb2)
  have BR2 := hide ((hb2.block _ (lt_of_block (unhide BR1))).trans (unhide BR1))
  clear hb2 CC HB1 BR1
  cases r with
  | none =>
    have R : Hid (((1 : Int), zeroBk) = (x, b)) := hx
    have HBF := hide (bel_on (unhide HB0) (unhide HB2))
    have zz0 := cell_of (unhide BR2) 0 _ rfl
    have zz1 := cell_of (unhide BR2) 1 _ rfl
    have zz2 := cell_of (unhide BR2) 2 _ rfl
    have zz3 := cell_of (unhide BR2) 3 _ rfl
    have zz4 := cell_of (unhide BR2) 4 _ rfl
    have zf0 := frozen_of (unhide BR2) 0
    have zf1 := frozen_of (unhide BR2) 1
    have zf2 := frozen_of (unhide BR2) 2
    have zf3 := frozen_of (unhide BR2) 3
    have zf4 := frozen_of (unhide BR2) 4
    have zzl := lt_of_block (unhide BR2)
    clear hx hr2 hr
    go_wp2
    (try simp only [Exit.inBlock, Exit.then])
    have hG := ((((((Gr.refl w2 (fun q => q = w.heap.size)).one w.heap.size 0 (.inl rfl) (.int .i64 0)).one w.heap.size 1 (.inl rfl) (.int .i64 0)).one w.heap.size 2 (.inl rfl) (.int .i64 0)).one w.heap.size 3 (.inl rfl) (.int .i64 0)).one w.heap.size 4 (.inl rfl) (.slice none 0 0))
    refine bodyPost_ret (v := .tuple #[.agg #[.int .i64 0, .int .i64 0, .int .i64 0, .int .i64 0, .slice none 0 0], .int .i64 1]) ?_ rfl (blk_zero (unhide R) ?_)
    · rw [results_ct rfl]
      go_simp
    · exact hG.below (unhide HBF) (unhide HBF).size (fun q e => by rw [e]; exact Nat.le_refl _)
  | some Z =>
    have hz4 : Z.length = 4 := rowOf_len hr
    obtain ⟨z0, z1, z2, z3, rfl⟩ : ∃ z0 z1 z2 z3, Z = [z0, z1, z2, z3] := by
      match Z, hz4 with
      | [z0, z1, z2, z3], _ => exact ⟨z0, z1, z2, z3, rfl⟩
    obtain ⟨rb, ro, rfl, hrc⟩ := hr2.2.2 (by simp)
    have rr0 : w2.cell? ⟨rb, ro, none⟩ = some (.int .i64 z0) := hrc 0 (by simp)
    have rr1 : w2.cell? ⟨rb, ro + 1, none⟩ = some (.int .i64 z1) := hrc 1 (by simp)
    have rr2 : w2.cell? ⟨rb, ro + 2, none⟩ = some (.int .i64 z2) := hrc 2 (by simp)
    have rr3 : w2.cell? ⟨rb, ro + 3, none⟩ = some (.int .i64 z3) := hrc 3 (by simp)
    have KS : Hid (∀ W, Below w2.heap.size w2 W → Below w2.heap.size w2 W ∧ W.cell? ⟨rb, ro, none⟩ = some (.int .i64 z0) ∧ W.cell? ⟨rb, ro + 1, none⟩ = some (.int .i64 z1) ∧ W.cell? ⟨rb, ro + 2, none⟩ = some (.int .i64 z2) ∧ W.cell? ⟨rb, ro + 3, none⟩ = some (.int .i64 z3)) := fun W hb => ⟨hb, cell_later hb rr0, cell_later hb rr1, cell_later hb rr2, cell_later hb rr3⟩
    have hx : (if (prsGo [] (pcs (resN s))).1 ≠ 0 then ((prsGo [] (pcs (resN s))).1, zeroBk) else if chkB (z0, z1, z2, z3, (prsGo [] (pcs (resN s))).2) ≠ 0 then (chkB (z0, z1, z2, z3, (prsGo [] (pcs (resN s))).2), zeroBk) else (0, (z0, z1, z2, z3, (prsGo [] (pcs (resN s))).2))) = (x, b) := hx
    have HX := hide hx
    clear hx hr hr2 hrc hz4 rr0 rr1 rr2 rr3
    go_wp2_with fail
    refine wp_region_held_drew (S := fun W => Below w2.heap.size w2 W ∧ W.cell? ⟨rb, ro, none⟩ = some (.int .i64 z0) ∧ W.cell? ⟨rb, ro + 1, none⟩ = some (.int .i64 z1) ∧ W.cell? ⟨rb, ro + 2, none⟩ = some (.int .i64 z2) ∧ W.cell? ⟨rb, ro + 3, none⟩ = some (.int .i64 z3)) (by kernel_rfl) ((unhide KS) _ (bel_draw1 _)) (fun hHeld => ?_)
    refine wpAnyH_take (i := 0) (oi := { dst := some 33, op := Op.move (Operand.tmp 7), type := 30, pos := "text.go:39", after := #[], guard := none }) (v := ?_) rfl (by kernel_rfl) (by kernel_rfl) (by kernel_rfl) (fun _ _ _ h => h) (Or.inl ⟨by rfl, ?_⟩) hHeld ?_
    rotate_left
    · (intro W hSw; (try dsimp only at hSw); go_simp; first | done | with_reducible rfl)
    (try simp only [Act.put, List.setIfInBounds_toArray, List.set_cons_zero, List.set_cons_succ])
    refine wpAnyH_take (i := 1) (oi := { dst := some 34, op := Op.indexAddr 30 (Operand.tmp 33) (Operand.const (Value.int IntKind.i64 0)), type := 0, pos := "text.go:39", after := #[{ on := 0, ground := Ground.data }], guard := none }) (v := ?_) rfl (by kernel_rfl) (by kernel_rfl) (by kernel_rfl) (fun _ _ _ h => h) (Or.inl ⟨by rfl, ?_⟩) hHeld ?_
    rotate_left
    · (intro W hSw; (try dsimp only at hSw); go_simp; first | done | with_reducible rfl)
    (try simp only [Act.put, List.setIfInBounds_toArray, List.set_cons_zero, List.set_cons_succ])
    refine wpAnyH_take (i := 2) (oi := { dst := some 35, op := Op.load 3 (Operand.tmp 34), type := 3, pos := "text.go:39", after := #[{ on := 1, ground := Ground.data }], guard := none }) (v := ?_) rfl (by kernel_rfl) (by kernel_rfl) (by kernel_rfl) (fun _ _ _ h => h) (Or.inl ⟨by rfl, ?_⟩) hHeld ?_
    rotate_left
    · (intro W hSw; (try dsimp only at hSw); go_simp; first | done | with_reducible rfl)
    (try simp only [Act.put, List.setIfInBounds_toArray, List.set_cons_zero, List.set_cons_succ])
    refine wpAnyH_take (i := 3) (oi := { dst := some 36, op := Op.move (Operand.tmp 7), type := 30, pos := "text.go:39", after := #[], guard := none }) (v := ?_) rfl (by kernel_rfl) (by kernel_rfl) (by kernel_rfl) (fun _ _ _ h => h) (Or.inl ⟨by rfl, ?_⟩) hHeld ?_
    rotate_left
    · (intro W hSw; (try dsimp only at hSw); go_simp; first | done | with_reducible rfl)
    (try simp only [Act.put, List.setIfInBounds_toArray, List.set_cons_zero, List.set_cons_succ])
    refine wpAnyH_take (i := 4) (oi := { dst := some 37, op := Op.indexAddr 30 (Operand.tmp 36) (Operand.const (Value.int IntKind.i64 1)), type := 0, pos := "text.go:39", after := #[{ on := 3, ground := Ground.data }], guard := none }) (v := ?_) rfl (by kernel_rfl) (by kernel_rfl) (by kernel_rfl) (fun _ _ _ h => h) (Or.inl ⟨by rfl, ?_⟩) hHeld ?_
    rotate_left
    · (intro W hSw; (try dsimp only at hSw); go_simp; first | done | with_reducible rfl)
    (try simp only [Act.put, List.setIfInBounds_toArray, List.set_cons_zero, List.set_cons_succ])
    refine wpAnyH_take (i := 5) (oi := { dst := some 38, op := Op.load 3 (Operand.tmp 37), type := 3, pos := "text.go:39", after := #[{ on := 4, ground := Ground.data }], guard := none }) (v := ?_) rfl (by kernel_rfl) (by kernel_rfl) (by kernel_rfl) (fun _ _ _ h => h) (Or.inl ⟨by rfl, ?_⟩) hHeld ?_
    rotate_left
    · (intro W hSw; (try dsimp only at hSw); go_simp; first | done | with_reducible rfl)
    (try simp only [Act.put, List.setIfInBounds_toArray, List.set_cons_zero, List.set_cons_succ])
    refine wpAnyH_take (i := 6) (oi := { dst := some 39, op := Op.move (Operand.tmp 7), type := 30, pos := "text.go:39", after := #[], guard := none }) (v := ?_) rfl (by kernel_rfl) (by kernel_rfl) (by kernel_rfl) (fun _ _ _ h => h) (Or.inl ⟨by rfl, ?_⟩) hHeld ?_
    rotate_left
    · (intro W hSw; (try dsimp only at hSw); go_simp; first | done | with_reducible rfl)
    (try simp only [Act.put, List.setIfInBounds_toArray, List.set_cons_zero, List.set_cons_succ])
    refine wpAnyH_take (i := 7) (oi := { dst := some 40, op := Op.indexAddr 30 (Operand.tmp 39) (Operand.const (Value.int IntKind.i64 2)), type := 0, pos := "text.go:39", after := #[{ on := 6, ground := Ground.data }], guard := none }) (v := ?_) rfl (by kernel_rfl) (by kernel_rfl) (by kernel_rfl) (fun _ _ _ h => h) (Or.inl ⟨by rfl, ?_⟩) hHeld ?_
    rotate_left
    · (intro W hSw; (try dsimp only at hSw); go_simp; first | done | with_reducible rfl)
    (try simp only [Act.put, List.setIfInBounds_toArray, List.set_cons_zero, List.set_cons_succ])
    refine wpAnyH_take (i := 8) (oi := { dst := some 41, op := Op.load 3 (Operand.tmp 40), type := 3, pos := "text.go:39", after := #[{ on := 7, ground := Ground.data }], guard := none }) (v := ?_) rfl (by kernel_rfl) (by kernel_rfl) (by kernel_rfl) (fun _ _ _ h => h) (Or.inl ⟨by rfl, ?_⟩) hHeld ?_
    rotate_left
    · (intro W hSw; (try dsimp only at hSw); go_simp; first | done | with_reducible rfl)
    (try simp only [Act.put, List.setIfInBounds_toArray, List.set_cons_zero, List.set_cons_succ])
    refine wpAnyH_take (i := 9) (oi := { dst := some 42, op := Op.move (Operand.tmp 7), type := 30, pos := "text.go:39", after := #[], guard := none }) (v := ?_) rfl (by kernel_rfl) (by kernel_rfl) (by kernel_rfl) (fun _ _ _ h => h) (Or.inl ⟨by rfl, ?_⟩) hHeld ?_
    rotate_left
    · (intro W hSw; (try dsimp only at hSw); go_simp; first | done | with_reducible rfl)
    (try simp only [Act.put, List.setIfInBounds_toArray, List.set_cons_zero, List.set_cons_succ])
    refine wpAnyH_take (i := 10) (oi := { dst := some 43, op := Op.indexAddr 30 (Operand.tmp 42) (Operand.const (Value.int IntKind.i64 3)), type := 0, pos := "text.go:39", after := #[{ on := 9, ground := Ground.data }], guard := none }) (v := ?_) rfl (by kernel_rfl) (by kernel_rfl) (by kernel_rfl) (fun _ _ _ h => h) (Or.inl ⟨by rfl, ?_⟩) hHeld ?_
    rotate_left
    · (intro W hSw; (try dsimp only at hSw); go_simp; first | done | with_reducible rfl)
    (try simp only [Act.put, List.setIfInBounds_toArray, List.set_cons_zero, List.set_cons_succ])
    refine wpAnyH_take (i := 11) (oi := { dst := some 44, op := Op.load 3 (Operand.tmp 43), type := 3, pos := "text.go:39", after := #[{ on := 10, ground := Ground.data }], guard := none }) (v := ?_) rfl (by kernel_rfl) (by kernel_rfl) (by kernel_rfl) (fun _ _ _ h => h) (Or.inl ⟨by rfl, ?_⟩) hHeld ?_
    rotate_left
    · (intro W hSw; (try dsimp only at hSw); go_simp; first | done | with_reducible rfl)
    (try simp only [Act.put, List.setIfInBounds_toArray, List.set_cons_zero, List.set_cons_succ])
    refine wpAnyH_take (i := 12) (oi := { dst := some 45, op := Op.build 28 #[(0, Operand.tmp 35), (1, Operand.tmp 38), (2, Operand.tmp 41), (3, Operand.tmp 44)], type := 28, pos := "text.go:39", after := #[{ on := 2, ground := Ground.data }, { on := 5, ground := Ground.data }, { on := 8, ground := Ground.data }, { on := 11, ground := Ground.data }], guard := none }) (v := ?_) rfl (by kernel_rfl) (by kernel_rfl) (by kernel_rfl) (fun _ _ _ h => h) (Or.inl ⟨by rfl, ?_⟩) hHeld ?_
    rotate_left
    · (intro W hSw; (try dsimp only at hSw); go_simp; first | done | with_reducible rfl)
    (try simp only [Act.put, List.setIfInBounds_toArray, List.set_cons_zero, List.set_cons_succ])
    refine wpAnyH_ready (rs := [13]) (by kernel_rfl) (by simp) ?_
    refine AllReadyH.cons (o := { dst := some 9, op := Op.alloc 28, type := 0, pos := "text.go:39", after := #[], guard := none }) rfl (fun K hK => ?_) AllReadyH.nil
    go_simp
    refine hK.out _ _ ((unhide KS) _ (bel_on (bel_draw1 _) (bel_new _ _))) (fun hHeld2 => ?_)
    clear hK K hHeld
    have hHeld := hHeld2
    clear hHeld2
    (try simp only [Act.put, List.setIfInBounds_toArray, List.set_cons_zero, List.set_cons_succ])
    refine wpAnyH_ready (rs := [14]) (by kernel_rfl) (by simp) ?_
    refine AllReadyH.cons (o := { dst := none, op := Op.store 28 (Operand.tmp 9) (Operand.tmp 45), type := 0, pos := "text.go:39", after := #[{ on := 13, ground := Ground.data }, { on := 12, ground := Ground.data }, { on := 0, ground := Ground.phase }, { on := 1, ground := Ground.phase }, { on := 2, ground := Ground.phase }, { on := 3, ground := Ground.phase }, { on := 4, ground := Ground.phase }, { on := 5, ground := Ground.phase }, { on := 6, ground := Ground.phase }, { on := 7, ground := Ground.phase }, { on := 8, ground := Ground.phase }, { on := 9, ground := Ground.phase }, { on := 10, ground := Ground.phase }, { on := 11, ground := Ground.phase }, { on := 12, ground := Ground.phase }, { on := 13, ground := Ground.phase }], guard := none }) rfl (fun K hK => ?_) AllReadyH.nil
    go_simp
    refine hK.out _ _ ((unhide KS) _ (bel_on (bel_new w2 _) (bel_draw1 _))) (fun hHeld2 => ?_)
    clear hK K hHeld
    have hHeld := hHeld2
    clear hHeld2
    (try simp only [Act.put, List.setIfInBounds_toArray, List.set_cons_zero, List.set_cons_succ])
    refine wpAnyH_done (by kernel_rfl) ?_ _
    clear hHeld KS
    obtain ⟨Y, hY⟩ : ∃ Y, Y = (w2.alloc (.cells #[.int .i64 z0, .int .i64 z1, .int .i64 z2, .int .i64 z3, .slice none 0 0] 28)).drew := ⟨_, rfl⟩
    have hbY : Below w2.heap.size w2 Y := by rw [hY]; exact bel_on (bel_new _ _) (bel_draw1 _)
    have hY9 : Y.heap[w2.heap.size]? = some (.cells [.int .i64 z0, .int .i64 z1, .int .i64 z2, .int .i64 z3, .slice none 0 0].toArray 28 (0, 0)) := by rw [hY]; exact five_heap _ _ _ _ _ _ _
    rw [← hY]
    clear hY
    have CC := hide ((unhide C3) Y (bel_on (unhide HB2) hbY))
    have hXs : X.heap.size ≤ w2.heap.size := (unhide HB2).size
    have hwX : w.heap.size < X.heap.size := lt_of_block (unhide BR0)
    have hY2 : w2.heap.size < Y.heap.size := lt_of_block hY9
    have HB3 := hide (bel_on (unhide HB2) hbY)
    have BR3 := hide ((hbY.block _ (lt_of_block (unhide BR2))).trans (unhide BR2))
    have BX3 := hide hY9
    clear hbY hY9 HB2 BR2 C3
    go_wp2_with fail
    refine (unhide CC).mono ?_
    rintro e w3 ⟨pv, rfl, hp3, hb3⟩
    obtain ⟨ps, hps⟩ : ∃ ps, pcs (resN s) = ps := ⟨_, rfl⟩
    rw [hps] at hp3 HX
    obtain ⟨pn, hpn⟩ : ∃ pn, ps.length = pn := ⟨_, rfl⟩
    have hpn4 : pn ≤ 4000 := by rw [← hpn, ← hps]; exact Nat.le_trans (pcsF_len _ _) (Nat.le_trans (cut_le s).2 hs)
    have KLX : Hid (∀ (k : Nat) (K : List TxV), k ≤ pn → K.length ≤ k → K.length ≤ 4096) := fun k K h1 h2 => by omega
    rw [hpn] at hp3
    obtain ⟨pa, pc, rfl, _, hpg⟩ := own_head hp3
    have HTX := hide (Bk.texts_own hp3)
    have HPG := hide hpg
    have HPN := hide hpn
    have hY3 : Y.heap.size ≤ w3.heap.size := hb3.size
    have HB4 := hide (bel_on (unhide HB3) hb3)
    have BR4 := hide ((hb3.block _ (lt_of_block (unhide BR3))).trans (unhide BR3))
    have BX4 := hide ((hb3.block _ (lt_of_block (unhide BX3))).trans (unhide BX3))
    have ST : Hid (TxsOwn w3.heap.size w3 (.slice none 0 0) []) := ⟨⟨rfl, .inl ⟨rfl, rfl⟩⟩, fun x hx => by cases hx⟩
    have GB : Hid (∀ W, Gr w3 W (fun q => q = w2.heap.size) → Below X.heap.size X W) := fun W g => g.below (unhide HB4) (unhide HB4).size (fun q e => by omega)
    obtain ⟨i0, hi, hz0, hz1, hz2⟩ := info_parts Tryz.infoTxP
    clear hp3 hpg hps hpn hb3 HB3 BR3 BX3 CC
    go_wp2
    go_loopw [49] (fun i wr => ∃ (k : Nat) (K : List TxV) (v : Value), k ≤ pn ∧ i = .int .i64 k ∧ Hid (K.length ≤ k) ∧ Hid (wr.heap[w2.heap.size]? = some (.cells [.int .i64 z0, .int .i64 z1, .int .i64 z2, .int .i64 z3, v].toArray 28 (0, 0))) ∧ Hid (TxsOwn w3.heap.size wr v K) ∧ Hid (prsGo (K.map (·.1)) (ps.drop k) = prsGo [] ps) ∧ Hid (Gr w3 wr (fun q => q = w2.heap.size))) (fun i _ => pn - (intOf i).toNat)
    case atStart => exact ⟨0, [], .slice none 0 0, Nat.zero_le _, rfl, (Nat.le_refl _ : ([] : List TxV).length ≤ 0), BX4, ST, (rfl : prsGo [] (ps.drop 0) = prsGo [] ps), (Gr.refl _ _ : Gr w3 w3 (fun q => q = w2.heap.size))⟩
    case round =>
      obtain ⟨k, K, v, hk, rfl, HKL, BX, HK, HA, HG⟩ := hrel
      clear ST BX4
      have hbr := (unhide GB) wr (unhide HG)
      have hwr3 : w3.heap.size ≤ wr.heap.size := (unhide HG).size
      have BR := hide ((unhide HG).heap (unhide BR4) (by omega))
      obtain ⟨va, vc, rfl, _⟩ := own_head (unhide HK).1
      by_cases hlt : k < pn
      · have hkl : k < ps.length := by rw [unhide HPN]; exact hlt
        obtain ⟨pb, po, rfl, hpc⟩ := (unhide HTX).2 (by omega)
        obtain ⟨pg, e, hpb, hpl⟩ := (unhide HPG) (by omega)
        cases e
        have ppp := (World.cell?_of_block (a := ⟨pb, 0 + k, none⟩) ((unhide HG).block pb hpl (by omega))).trans (hpc k hkl)
        rw [Nat.zero_add] at ppp
        have ppl : pb < wr.heap.size := Nat.lt_of_lt_of_le hpl hwr3
        have AT := hide (prsGo_at (K.map (·.1)) ps k hkl)
        obtain ⟨pt, hpt⟩ : ∃ pt, ps[k] = pt := ⟨_, rfl⟩
        rw [hpt] at ppp AT
        have CC := hide ((unhide C4) pt wr hbr)
        have hkI : (k : Int) < (pn : Int) := by omega
        clear hpt hpc
        go_wp2_with fail
        refine (unhide CC).mono ?_
        rintro e w5 ⟨⟨v1, v2, rfl, ho5⟩, hb5⟩
        obtain ⟨th, tI, tO, htp⟩ : ∃ th tI tO, pT pt = (th, tI, tO) := ⟨_, _, _, rfl⟩
        rw [htp] at ho5 AT ⊢
        simp only at ho5 ⊢
        obtain ⟨pe, hpe⟩ : ∃ pe, pE pt = pe := ⟨_, rfl⟩
        rw [hpe] at AT ⊢
        obtain ⟨g1, g2⟩ := ho5.one
        obtain ⟨ai, ci, ao, co, e1, e2, _⟩ := ho5.at
        have HTO := hide (ho5.base hwr3)
        have HG5 := hide (Gr.on (unhide HG) hb5)
        have BX5 := hide ((hb5.block _ (lt_of_block (unhide BX))).trans (unhide BX))
        have BR5 := hide ((hb5.block _ (lt_of_block (unhide BR))).trans (unhide BR))
        have HK5 : Hid (TxsOwn w3.heap.size w5 (.slice va K.length vc) K) := ⟨(Gr.of (S := fun _ => False) hb5).own (unhide HK).1 (fun _ _ q => q), fun x hx => ((unhide HK).2 x hx).later hb5⟩
        have h35 : w3.heap.size ≤ w5.heap.size := (unhide HG5).size
        clear ho5 hb5 CC htp hpe
        subst e1 e2
        by_cases h0 : pe = 0
        · subst h0
          obtain ⟨U, hU⟩ : ∃ U, U = (w5.alloc (.cells #[.int .i64 th, .slice ai tI.length ci, .slice ao tO.length co] 74)).alloc (.cells #[.int .i64 th, .slice ai tI.length ci, .slice ao tO.length co] 74) := ⟨_, rfl⟩
          have hbU : Below w5.heap.size w5 U := by rw [hU]; exact bel_on (bel_new _ _) (bel_new _ _)
          have hUs : U.heap.size = w5.heap.size + 2 := by rw [hU]; simp
          have NEWS := hide (World.news_of_block (heap_alloc_new (w5.alloc (.cells #[.int .i64 th, .slice ai tI.length ci, .slice ao tO.length co] 74)) (.cells #[.int .i64 th, .slice ai tI.length ci, .slice ao tO.length co] 74)))
          rw [show (w5.alloc (.cells #[.int .i64 th, .slice ai tI.length ci, .slice ao tO.length co] 74)).heap.size = w5.heap.size + 1 by simp, ← hU] at NEWS
          have OWNU := hide ((Gr.of (S := fun _ => False) hbU).own (unhide HK5).1 (fun _ _ q => q))
          have HTU := hide ((unhide HTO).later hbU)
          have HKU : Hid (∀ x ∈ K, TxOwn w3.heap.size U x.2.1 x.2.2 x.1.2.1 x.1.2.2) := fun x hx => ((unhide HK5).2 x hx).later hbU
          have BXU := hide ((hbU.block _ (lt_of_block (unhide BX5))).trans (unhide BX5))
          have HGU := hide (Gr.on (unhide HG5) hbU)
          have xx4 := cell_of (unhide BX5) 4 _ rfl
          have xxl := lt_of_block (unhide BX5)
          have xxf := frozen_of (unhide BX5) 4
          have R : Hid (prsGo ((K ++ [(((th, tI, tO), Value.slice ai tI.length ci, Value.slice ao tO.length co) : TxV)]).map (·.1)) (ps.drop (k + 1)) = prsGo [] ps) := by
            have e := unhide AT
            rw [if_neg (by simp)] at e
            show _ = _
            rw [← unhide HA, e, List.map_append]
            rfl
          have KL : Hid (K.length ≤ 4096) := by
            have h1 := unhide HKL
            have h2 := unhide HPN
            have h3 := pcsF_len (resN s).size (resN s)
            show _ ≤ _
            exact unhide KLX k K hk h1
          clear hbU AT HA
          have OWNR : Hid (World.ownsRow ((w5.alloc (.cells #[.int .i64 th, .slice ai tI.length ci, .slice ao tO.length co] 74)).alloc (.cells #[.int .i64 th, .slice ai tI.length ci, .slice ao tO.length co] 74)) w3.heap.size 74 3 (.slice va K.length vc) K.length (txCells K)) := by rw [← hU]; exact OWNU
          have NEWR : Hid (∀ j u, [Value.int .i64 th, .slice ai tI.length ci, .slice ao tO.length co][j]? = some u → World.cell? ((w5.alloc (.cells #[.int .i64 th, .slice ai tI.length ci, .slice ao tO.length co] 74)).alloc (.cells #[.int .i64 th, .slice ai tI.length ci, .slice ao tO.length co] 74)) ((⟨w5.heap.size + 1, 0, none⟩ : Addr).add j) = some u) := by rw [← hU]; exact NEWS
          have SZR : w3.heap.size ≤ ((w5.alloc (.cells #[.int .i64 th, .slice ai tI.length ci, .slice ao tO.length co] 74)).alloc (.cells #[.int .i64 th, .slice ai tI.length ci, .slice ao tO.length co] 74)).heap.size := by rw [← hU]; omega
          go_wp2_with (at_builtin; refine wpList_append_lies _ rfl _ _ 26 rfl w3.heap.size 74 i0 (.agg #[.int .i64 0, .slice none 0 0, .slice none 0 0]) 3 56 Tryz.underlying26 hi hz0 hz1 hz2 rfl (by decide) _ _ _ rfl (unhide OWNR) ⟨w5.heap.size + 1, 0, none⟩ 1 1 [.int .i64 th, .slice ai tI.length ci, .slice ao tO.length co] rfl rfl (unhide NEWR) (fun u hu => by simp at hu; rcases hu with rfl | rfl | rfl <;> rfl) (by decide) (by have := unhide KL; unfold maxLen; omega) (by have := unhide KL; omega) SZR _ rfl ?_; intro g7 cap7 w7 hown7 hgrow7 hor7 _; rw [← hU] at hgrow7; have hx7 := (hgrow7.block w2.heap.size (lt_of_block (unhide BXU)) (fun e => own_other (unhide OWNU) (unhide BXU) (by decide) e.symm)).trans (unhide BXU); have HX7 := hide hx7; have HO7 := hide hown7; have HG7 := hide hgrow7; have yy4 := cell_of hx7 4 _ rfl; have yyl := lt_of_block hx7; have yyf := frozen_of hx7 4; clear hx7 hown7 hgrow7 hor7)
          have hx7 := unhide HX7
          have hown7 := unhide HO7
          have hgrow7 := unhide HG7
          have FIN : Hid (∀ w8, w8 = w7.setCell ⟨w2.heap.size, 4, none⟩ (.slice (some ⟨g7, 0, none⟩) (K.length + 1) cap7) → Hid (w8.heap[w2.heap.size]? = some (.cells [.int .i64 z0, .int .i64 z1, .int .i64 z2, .int .i64 z3, .slice (some ⟨g7, 0, none⟩) (K.length + 1) cap7].toArray 28 (0, 0))) ∧ Hid (TxsOwn w3.heap.size w8 (.slice (some ⟨g7, 0, none⟩) (K.length + 1) cap7) (K ++ [(((th, tI, tO), Value.slice ai tI.length ci, Value.slice ao tO.length co) : TxV)])) ∧ Hid (Gr w3 w8 (fun q => q = w2.heap.size))) := by
            rintro w8 rfl
            have hg8 := (Gr.refl w7 (fun q => q = w2.heap.size)).one w2.heap.size 4 (.inl rfl) (.slice (some ⟨g7, 0, none⟩) (K.length + 1) cap7)
            have far : ∀ (k : Nat) (cs : Array Value) (t : TypeId), U.heap[k]? = some (.cells cs t (0, 0)) → t ≠ 74 → t ≠ 28 → (w7.setCell ⟨w2.heap.size, 4, none⟩ (.slice (some ⟨g7, 0, none⟩) (K.length + 1) cap7)).heap[k]? = U.heap[k]? := fun q cs t hq h1 h2 => by
              have e7 := hgrow7.block q (lt_of_block hq) (fun e => own_other (unhide OWNU) hq h1 e.symm)
              have ne : q ≠ w2.heap.size := fun e => by
                subst e
                rw [unhide BXU] at hq
                injection hq with hq
                injection hq with _ hq
                exact h2 hq.symm
              exact (hg8.block q (lt_of_block (e7.trans hq)) ne).trans e7
            refine ⟨us_set hx7 4 _, ⟨?_, fun x hx => ?_⟩, ?_⟩
            · rw [List.length_append, txCells_snoc]
              exact hg8.own hown7 (fun q hq e => own_other hown7 hx7 (by decide) (by rw [hq, e]))
            · rcases List.mem_append.1 hx with hx | hx
              · exact ((unhide HKU) x hx).far2 far
              · rw [List.mem_singleton.1 hx]
                exact (unhide HTU).far2 far
            · exact ((unhide HGU).grown hgrow7 (fun q e => .inr (((unhide OWNU).lt q e).1))).trans hg8
          clear hown7 hgrow7 hx7
          go_wp2
          go_roundw
          case rel =>
            obtain ⟨f1, f2, f3⟩ := (unhide FIN) _ rfl
            exact ⟨k + 1, _, _, by omega, by go_num, (by show _ ≤ _; have := unhide HKL; simp; omega : Hid (_ ≤ k + 1)), f1, f2, R, f3⟩
          case measure => simp [intOf]; omega
        · have gpe : (pe != 0) = true := by simp [h0]
          have R : Hid ((pe, zeroBk) = (x, b)) := by
            have e := unhide AT
            rw [if_pos h0] at e
            have e2 : prsGo [] ps = (pe, []) := by rw [← unhide HA, e]
            have e3 := unhide HX
            rw [e2, if_pos h0] at e3
            exact e3
          have hbw5 : Below w.heap.size w w5 := (unhide HB0).trans (((unhide GB) w5 (unhide HG5)).mono (unhide HB0).size)
          have HBU := hide hbw5
          have zz0 := cell_of (unhide BR5) 0 _ rfl
          have zz1 := cell_of (unhide BR5) 1 _ rfl
          have zz2 := cell_of (unhide BR5) 2 _ rfl
          have zz3 := cell_of (unhide BR5) 3 _ rfl
          have zz4 := cell_of (unhide BR5) 4 _ rfl
          have zf0 := frozen_of (unhide BR5) 0
          have zf1 := frozen_of (unhide BR5) 1
          have zf2 := frozen_of (unhide BR5) 2
          have zf3 := frozen_of (unhide BR5) 3
          have zf4 := frozen_of (unhide BR5) 4
          have zzl := lt_of_block (unhide BR5)
          clear hbw5 AT HA h0
          go_wp2
          (try simp only [Exit.inBlock, Exit.then])
          have hG := ((((((Gr.refl w5 (fun q => q = w.heap.size)).one w.heap.size 0 (.inl rfl) (.int .i64 0)).one w.heap.size 1 (.inl rfl) (.int .i64 0)).one w.heap.size 2 (.inl rfl) (.int .i64 0)).one w.heap.size 3 (.inl rfl) (.int .i64 0)).one w.heap.size 4 (.inl rfl) (.slice none 0 0)).new (.cells #[.int .i64 th, .slice ai tI.length ci, .slice ao tO.length co] 74)
          refine bodyPost_ret (v := .tuple #[.agg #[.int .i64 0, .int .i64 0, .int .i64 0, .int .i64 0, .slice none 0 0], .int .i64 pe]) ?_ rfl (blk_zero (unhide R) ?_)
          · rw [results_ct rfl]
            go_simp
          · exact hG.below (unhide HBU) (unhide HBU).size (fun q e => by rw [e]; exact Nat.le_refl _)
      · have R : Hid (prsGo [] ps = (0, K.map (·.1))) := by show _ = _; rw [← unhide HA, prsGo_end _ ps k (by rw [unhide HPN]; omega)]
        have HX2 := unhide HX
        rw [unhide R, if_neg (by simp)] at HX2
        simp only at HX2
        obtain ⟨ca, cc, e1, hT, sT⟩ := (unhide HK).txs
        cases e1
        obtain ⟨y, hy⟩ : ∃ y, chkB (z0, z1, z2, z3, K.map (·.1)) = y := ⟨_, rfl⟩
        rw [hy] at HX2
        have CC := hide (blkCheck_any z0 z1 z2 z3 va K.length vc (K.map (·.1)) y wr hT hy)
        have xx0 := cell_of (unhide BX) 0 _ rfl
        have xx1 := cell_of (unhide BX) 1 _ rfl
        have xx2 := cell_of (unhide BX) 2 _ rfl
        have xx3 := cell_of (unhide BX) 3 _ rfl
        have xx4 := cell_of (unhide BX) 4 _ rfl
        have xxl := lt_of_block (unhide BX)
        have HXX := hide HX2
        have ST2 := hide sT
        have hbw : Below w.heap.size w wr := (unhide HB0).trans (hbr.mono (unhide HB0).size)
        have HBW := hide hbw
        clear HX2 hT sT hy hbw HA
        go_wp2_with fail
        refine (unhide CC).mono ?_
        rintro e w6 ⟨rfl, hb6⟩
        have BR6 := hide ((hb6.block _ (lt_of_block (unhide BR))).trans (unhide BR))
        have BX6 := hide ((hb6.block _ (lt_of_block (unhide BX))).trans (unhide BX))
        have HB6 := hide (bel_on (unhide HBW) hb6)
        have HK6 : Hid (TxsOwn w3.heap.size w6 (.slice va K.length vc) K) := ⟨(Gr.of (S := fun _ => False) hb6).own (unhide HK).1 (fun _ _ q => q), fun x hx => ((unhide HK).2 x hx).later hb6⟩
        clear hb6 CC xx0 xx1 xx2 xx3 xx4 xxl
        have zz0 := cell_of (unhide BR6) 0 _ rfl
        have zz1 := cell_of (unhide BR6) 1 _ rfl
        have zz2 := cell_of (unhide BR6) 2 _ rfl
        have zz3 := cell_of (unhide BR6) 3 _ rfl
        have zz4 := cell_of (unhide BR6) 4 _ rfl
        have zf0 := frozen_of (unhide BR6) 0
        have zf1 := frozen_of (unhide BR6) 1
        have zf2 := frozen_of (unhide BR6) 2
        have zf3 := frozen_of (unhide BR6) 3
        have zf4 := frozen_of (unhide BR6) 4
        have zzl := lt_of_block (unhide BR6)
        by_cases h0 : y = 0
        · subst h0
          have R2 : Hid (((0 : Int), ((z0, z1, z2, z3, K.map (·.1)) : BlkD)) = (x, b)) := by have e := unhide HXX; rw [if_neg (by simp)] at e; exact e
          have xx0 := cell_of (unhide BX6) 0 _ rfl
          have xx1 := cell_of (unhide BX6) 1 _ rfl
          have xx2 := cell_of (unhide BX6) 2 _ rfl
          have xx3 := cell_of (unhide BX6) 3 _ rfl
          have xx4 := cell_of (unhide BX6) 4 _ rfl
          have xxl := lt_of_block (unhide BX6)
          have hne : w.heap.size ≠ w2.heap.size := by omega
          clear HXX
          go_wp2
          (try simp only [Exit.inBlock, Exit.then])
          have hG := ((((((Gr.refl w6 (fun q => q = w.heap.size)).one w.heap.size 0 (.inl rfl) (.int .i64 z0)).one w.heap.size 1 (.inl rfl) (.int .i64 z1)).one w.heap.size 2 (.inl rfl) (.int .i64 z2)).one w.heap.size 3 (.inl rfl) (.int .i64 z3)).one w.heap.size 4 (.inl rfl) (.slice va K.length vc))
          refine bodyPost_ret (v := .tuple #[.agg #[.int .i64 z0, .int .i64 z1, .int .i64 z2, .int .i64 z3, .slice va K.length vc], .int .i64 0]) ?_ rfl ?_
          · rw [results_ct rfl]
            go_simp
          · have hK7 : TxsOwn w3.heap.size _ (.slice va K.length vc) K := ⟨hG.own (unhide HK6).1 (fun q hq e => by have := ((unhide HK6).1.lt q hq).1; omega), fun x hx => ((unhide HK6).2 x hx).gr hG (fun q e => by omega)⟩
            obtain ⟨ca, cc, e1, hT, sT⟩ := hK7.txs
            cases e1
            obtain ⟨r1, r2⟩ := Prod.mk.inj (unhide R2)
            subst r1 r2
            exact ⟨va, K.length, vc, rfl, hT, sT, hG.below (unhide HB6) (unhide HB6).size (fun q e => by rw [e]; exact Nat.le_refl _)⟩
        · have gy : (y != 0) = true := by simp [h0]
          have R2 : Hid ((y, zeroBk) = (x, b)) := by have e := unhide HXX; rw [if_pos h0] at e; exact e
          clear HXX h0
          go_wp2
          (try simp only [Exit.inBlock, Exit.then])
          have hG := ((((((Gr.refl w6 (fun q => q = w.heap.size)).one w.heap.size 0 (.inl rfl) (.int .i64 0)).one w.heap.size 1 (.inl rfl) (.int .i64 0)).one w.heap.size 2 (.inl rfl) (.int .i64 0)).one w.heap.size 3 (.inl rfl) (.int .i64 0)).one w.heap.size 4 (.inl rfl) (.slice none 0 0))
          refine bodyPost_ret (v := .tuple #[.agg #[.int .i64 0, .int .i64 0, .int .i64 0, .int .i64 0, .slice none 0 0], .int .i64 y]) ?_ rfl (blk_zero (unhide R2) ?_)
          · rw [results_ct rfl]
            go_simp
          · exact hG.below (unhide HB6) (unhide HB6).size (fun q e => by rw [e]; exact Nat.le_refl _)

theorem blkParse_any (s : ByteArray) (w : World) (hE : EnvP w) (x : Int) (b : BlkD) (hx : prB s = (x, b)) :
    Calls Tryz.prog 20 #[.string s] w fun e w' => BlkIs w w' e x b := by
  by_cases hs : 4000 < s.size
  · exact blkParse_long s hs w x b hx
  · exact blkParse_short s (by omega) w hE x b hx


end Go.Proofs.YtepmnpapdknocaaGreatDoor
