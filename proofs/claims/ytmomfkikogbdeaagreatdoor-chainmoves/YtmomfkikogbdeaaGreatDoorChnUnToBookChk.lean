/- The contract of climb: a row of blocks connected, one after the other. -/
import Derived.Test.YtmomfkikogbdeaaGreatDoorChnMToChnRow
import Derived.Test.YtmomfkikogbdeaaGreatDoorBlkConW
import Derived.Test.YtmomfkikogbdeaaGreatDoorCoinCopyBToChnKit
import Derived.Deep.RegionHeld3
import Derived.WalkKit
import Derived.Test.YtmomfkikogbdeaaGreatDoorTrBlockToTrPathsM
import Derived.Test.YtmomfkikogbdeaaGreatDoorCoinApplyBToLockFlat
import Derived.Test.YtmomfkikogbdeaaGreatDoorBookOpenToBookName
namespace Go.Proofs.YtmomfkikogbdeaaGreatDoor
open Go.RowKit

/-! What undoes each block, in a row of 24 slices. -/
def UnV (B : Nat) (w : World) (v : Value) (S : List (List CoinD)) : Prop := ∃ a n c, v = .slice a n c ∧ UndosAt w a n S ∧ ∀ ad, a = some ad → B ≤ ad.block
def UnC (B : Nat) (w : World) (cs : List Value) (U : List (List (List CoinD))) : Prop := cs.length = 24 ∧ ∀ i, i < 24 → ∃ v, cs[i]? = some v ∧ UnV B w v (U.getD i [])
def UnAt (B g : Nat) (w : World) (U : List (List (List CoinD))) : Prop := ∃ cs : List Value, w.heap[g]? = some (.cells cs.toArray 133 (0, 0)) ∧ UnC B w cs U
theorem UnV.later {B : Nat} {w w' : World} {v : Value} {S : List (List CoinD)} (h : UnV B w v S) (hb : Below w.heap.size w w') : UnV B w' v S := by
  obtain ⟨a, n, c, e, h, h2⟩ := h
  exact ⟨a, n, c, e, h.later hb, h2⟩
theorem UnC.later {B : Nat} {w w' : World} {cs : List Value} {U : List (List (List CoinD))} (h : UnC B w cs U) (hb : Below w.heap.size w w') : UnC B w' cs U :=
  ⟨h.1, fun i hi => by obtain ⟨v, e, hv⟩ := h.2 i hi; exact ⟨v, e, hv.later hb⟩⟩
theorem UnAt.later {B g : Nat} {w w' : World} {U : List (List (List CoinD))} (h : UnAt B g w U) (hb : Below w.heap.size w w') : UnAt B g w' U := by
  obtain ⟨cs, h1, h2⟩ := h
  exact ⟨cs, (hb.block _ (lt_of_block h1)).trans h1, h2.later hb⟩
theorem UnC.nil (B : Nat) (w : World) : UnC B w (List.replicate 24 (.slice none 0 0)) [] :=
  ⟨by simp, fun i hi => ⟨.slice none 0 0, by rw [List.getElem?_replicate, if_pos hi], none, 0, 0, rfl, ⟨by simp [List.getD], fun h => absurd h (by omega)⟩, fun ad e => by cases e⟩⟩
theorem UnC.slices {B : Nat} {w : World} {cs : List Value} {U : List (List (List CoinD))} (h : UnC B w cs U) : ∀ v ∈ cs, ∃ a n c, v = .slice a n c := by
  intro v hv
  obtain ⟨i, hi, rfl⟩ := List.getElem_of_mem hv
  obtain ⟨v, e, a, n, c, e2, _⟩ := h.2 i (by rw [← h.1]; exact hi)
  rw [List.getElem?_eq_getElem hi] at e
  injection e with e
  exact ⟨a, n, c, e.trans e2⟩
theorem UnC.usok {B g : Nat} {w : World} {cs : List Value} {U : List (List (List CoinD))} (h : UnC B w cs U) (hg : w.heap[g]? = some (.cells cs.toArray 133 (0, 0))) : UsOk 133 g 24 w := ⟨cs, hg, h.1, h.slices⟩
theorem undos_gr {ty : TypeId} {g m : Nat} {w w' : World} {a : Option Addr} {n : Nat} {S : List (List CoinD)} (h : UndosAt w a n S) (ho : UsOk ty g m w) (hn : ∀ ad, a = some ad → ad.block ≠ g) (hg : Gr w w' (fun q => q = g)) : UndosAt w' a n S := by
  refine ⟨h.1, fun h0 => ?_⟩
  obtain ⟨b, off, rfl, hb, hc⟩ := h.2 h0
  refine ⟨b, off, rfl, Nat.lt_of_lt_of_le hb hg.size, fun i hi => ?_⟩
  have hne : b ≠ g := hn _ rfl
  obtain ⟨ca, cn, cc, h1, h2, h3⟩ := hc i hi
  exact ⟨ca, cn, cc, hg.cell h1 hne, coins_gr h2 ho hg, h3⟩
theorem UnC.gr {ty : TypeId} {B g m : Nat} {w w' : World} {cs : List Value} {U : List (List (List CoinD))} (h : UnC B w cs U) (ho : UsOk ty g m w) (hB : g < B) (hg : Gr w w' (fun q => q = g)) : UnC B w' cs U :=
  ⟨h.1, fun i hi => by
    obtain ⟨v, e, a, n, c, e2, h1, h2⟩ := h.2 i hi
    exact ⟨v, e, a, n, c, e2, undos_gr h1 ho (fun ad q => by have := h2 ad q; omega) hg, h2⟩⟩
/-- One more is stored at its place. -/
theorem UnAt.put {B g : Nat} {w : World} {U : List (List (List CoinD))} (h : UnAt B g w U) (hB : g < B) {a : Option Addr} {n c : Nat} {S : List (List CoinD)} (hS : UndosAt w a n S) (ha : ∀ ad, a = some ad → B ≤ ad.block) :
    UnAt B g (w.setCell ⟨g, U.length, none⟩ (.slice a n c)) (U ++ [S]) := by
  obtain ⟨cs, h1, h2⟩ := h
  have hg := (Gr.refl w (fun q => q = g)).one g U.length (.inl rfl) (.slice a n c)
  have ho := h2.usok h1
  refine ⟨cs.set U.length (.slice a n c), us_set h1 _ _, by rw [List.length_set]; exact h2.1, fun i hi => ?_⟩
  by_cases e : i = U.length
  · subst e
    refine ⟨_, by rw [List.getElem?_set_self (by rw [h2.1]; exact hi)], a, n, c, rfl, ?_, ha⟩
    have e0 : (U ++ [S]).getD U.length [] = S := by simp
    rw [e0]
    exact undos_gr hS ho (fun ad q => by have := ha ad q; omega) hg
  · obtain ⟨v, e1, a', n', c', e2, h3, h4⟩ := h2.2 i hi
    refine ⟨v, by rw [List.getElem?_set_ne (fun q => e q.symm)]; exact e1, a', n', c', e2, ?_, h4⟩
    have e3 : (U ++ [S]).getD i [] = U.getD i [] := by
      rcases Nat.lt_or_ge i U.length with q | q
      · exact getD_app_l _ _ _ _ q
      · simp only [List.getD_eq_getElem?_getD]
        rw [List.getElem?_eq_none (by simp; omega), List.getElem?_eq_none q]
    rw [e3]
    exact undos_gr h3 ho (fun ad q => by have := h4 ad q; omega) hg
theorem UnAt.skip {B g : Nat} {w : World} {U : List (List (List CoinD))} (h : UnAt B g w U) : UnAt B g w (U ++ [[]]) := by
  obtain ⟨cs, h1, h2⟩ := h
  refine ⟨cs, h1, h2.1, fun i hi => ?_⟩
  have e3 : (U ++ [[]]).getD i [] = U.getD i [] := by
    rcases Nat.lt_or_ge i U.length with q | q
    · exact getD_app_l _ _ _ _ q
    · simp only [List.getD_eq_getElem?_getD]
      rw [List.getElem?_eq_none (i := i) (l := U) q]
      rcases Nat.eq_or_lt_of_le q with r | r
      · subst r; simp
      · rw [List.getElem?_eq_none (by simp; omega)]
  rw [e3]
  exact h2.2 i hi
theorem UnC.less {B B' : Nat} {w : World} {cs : List Value} {U : List (List (List CoinD))} (h : UnC B' w cs U) (hb : B ≤ B') : UnC B w cs U :=
  ⟨h.1, fun i hi => by obtain ⟨v, e, a, n, c, e2, h1, h2⟩ := h.2 i hi; exact ⟨v, e, a, n, c, e2, h1, fun ad q => Nat.le_trans hb (h2 ad q)⟩⟩
theorem UnC.one {B : Nat} {w : World} {cs : List Value} {U : List (List (List CoinD))} (h : UnC B w cs U) : cs.toArray.all (·.oneCell') = true := by
  rw [Array.all_eq_true_iff_forall_mem]
  intro v hv
  obtain ⟨a, n, c, rfl⟩ := h.slices v (by simpa using hv)
  rfl
theorem Tryz.infoUndone : (Tryz.prog.info? 133).map (·.size) = some 24 := by kernel_rfl
theorem un_info {cs : List Value} (h : cs.length = 24) : (Tryz.prog.info? 133).map (·.size) = some cs.toArray.size := by rw [Tryz.infoUndone]; simp [h]
theorem zeroU24 : (#[.slice none 0 0, .slice none 0 0, .slice none 0 0, .slice none 0 0, .slice none 0 0, .slice none 0 0, .slice none 0 0, .slice none 0 0, .slice none 0 0, .slice none 0 0, .slice none 0 0, .slice none 0 0, .slice none 0 0, .slice none 0 0, .slice none 0 0, .slice none 0 0, .slice none 0 0, .slice none 0 0, .slice none 0 0, .slice none 0 0, .slice none 0 0, .slice none 0 0, .slice none 0 0, .slice none 0 0] : Array Value) = (List.replicate 24 (.slice none 0 0)).toArray := by kernel_rfl
end Go.Proofs.YtmomfkikogbdeaaGreatDoor

/- Steps of regions that draw: taking an operation first; rows by value; a store. Nothing of the program. -/
namespace Go.Proofs.YtmomfkikogbdeaaGreatDoor
open Go.RowKit

theorem tk {P : Program} {ops : Array Oper} {Q : Exit → Act → World → Prop} {md : Region.Mode} {S : World → Prop} (i : Nat) (oi : Oper) (v : Value) {fuel : Nat} {listed : Array Bool} {a : Act} {w : World} (hi : ops[i]? = some oi)
    (hy : ∀ w, S w → (execOp a.eval oi).run P w = .ok (.value v) w) (hS : S w) (h : wpAnyH P md ops Q S fuel (listed.setIfInBounds i true) (a.put oi.dst v) w)
    (hQ : ∀ c a w, Q (.panic c) (a.put oi.dst v) w → Q (.panic c) a w := by exact fun _ _ _ h => h) (hw : Region.wanted oi (yielded ops a.tmps) = true := by rfl)
    (hs : Region.noSelect ops = true := by kernel_rfl) (hf : Region.free md ops listed i = true := by kernel_rfl) (hr : (Region.ready md ops listed).contains i = true := by kernel_rfl) :
    wpAnyH P md ops Q S (fuel + 1) listed a w := wpAnyH_take hi hs hf hr hQ (Or.inl ⟨hw, hy⟩) hS h
theorem load_yields {P : Program} {o : Oper} {a : Act} {w : World} (ty : TypeId) (x : Operand) (ho : o.op = .load ty x)
    (g : Nat) (hx : a.eval x = .pointer (some ⟨g, 0, none⟩)) (c : Array Value) (t : TypeId) (hg : w.heap[g]? = some (.cells c t (0, 0))) (n : Nat) (e : TypeId) (hu : P.underlying ty = some (.array n e)) (hi : (P.info? ty).map (·.size) = some c.size) :
    (execOp a.eval o).run P w = .ok (.value (.agg c)) w := by
  unfold execOp
  simp only [ho, hx, Instr.loadAt, Instr.sureAddr, Sem.run_bind, Sem.run_pure, Result.andThen_ok, run_loadVar_row w g t ty c (0, 0) _ hg hu rfl hi]
theorem step_store_row {P : Program} {ops : Array Oper} {o : Oper} {a : Act} {w : World} {K : Act → World → Prop} {Q : Exit → Act → World → Prop} {E : Prop} (hw : Region.wanted o (yielded ops a.tmps) = true) (ty : TypeId) (x y : Operand) (ho : o.op = .store ty x y)
    (g : Nat) (hx : a.eval x = .pointer (some ⟨g, 0, none⟩)) (c c' : Array Value) (hy : a.eval y = .agg c') (t : TypeId) (hg : w.heap[g]? = some (.cells c t (0, 0))) (hi : (P.info? ty).map (·.size) = some c'.size) (hs : c.size = c'.size) (h1 : c'.all (·.oneCell') = true)
    (h : K (a.put o.dst undef) (w.setRow g c')) : if Region.wanted o (yielded ops a.tmps) = true then Oper.wp P o a w K Q else E := by
  rw [if_pos hw]
  unfold Oper.wp execOp
  simp only [ho, hx, hy, Instr.storeAt, Instr.sureAddr, Sem.run_bind, Sem.run_pure, Result.andThen_ok, run_storeVar_row w g t ty c c' hg hi hs h1]
  exact h
end Go.Proofs.YtmomfkikogbdeaaGreatDoor

/- The contract of climb: a row of blocks connected, one after the other (written by a program of ours: mkclimb2.py). -/
namespace Go.Proofs.YtmomfkikogbdeaaGreatDoor
open Go.RowKit

/-- What climb answers. -/
def ClR (w w' : World) (x : Int) (C : List CoinD) (U : List (List (List CoinD))) (e : Ending) : Prop :=
  ∃ oa oon oc cs, e = .returned (.tuple #[.slice oa oon oc, .agg cs.toArray, .int .i64 x]) ∧ CoinsAt w' oa oon C ∧ SlOk oa oon oc ∧ UnC w.heap.size w' cs U ∧ Below w.heap.size w w'
theorem cl_err {w w' : World} {x y : Int} {C : List CoinD} {U : List (List (List CoinD))} (h : ((y : Int), ([] : List CoinD), ([] : List (List (List CoinD)))) = (x, C, U)) (hb : Below w.heap.size w w') : ClR w w' x C U (.returned (.tuple #[.slice none 0 0, .agg (List.replicate 24 (Value.slice none 0 0)).toArray, .int .i64 y])) := by
  injection h with h1 h2
  injection h2 with h2 h3
  subst h1 h2 h3
  exact ⟨none, 0, 0, _, rfl, ⟨rfl, fun h => absurd h (by omega)⟩, slok_nil, UnC.nil _ _, hb⟩
theorem cl_at {K : List ByteArray} {N : List Int} {T : List BlkD} {R : List Int} {j : Nat} (hj : j < R.length) (C : List CoinD) (U : List (List (List CoinD))) :
    clGo K N T (R.drop j) C U = if R[j] = 0 then clGo K N T (R.drop (j + 1)) C (U ++ [[]]) else
      if (Tr.blockE N T R[j]).2 ≠ 0 then ((Tr.blockE N T R[j]).2, [], []) else
      if (conD K C (Tr.blockE N T R[j]).1).1 ≠ 0 then ((conD K C (Tr.blockE N T R[j]).1).1, [], []) else
      clGo K N T (R.drop (j + 1)) (conD K C (Tr.blockE N T R[j]).1).2.1 (U ++ [(conD K C (Tr.blockE N T R[j]).1).2.2]) := by
  rw [List.drop_eq_getElem_cons hj]; rfl
/-- Five boxes, one behind the other. -/
theorem five_boxes (w : World) (o1 o2 o3 o4 o5 : Obj) (X : World) (hX : X = ((((w.alloc o1).alloc o2).alloc o3).alloc o4).alloc o5) :
    Below w.heap.size w X ∧ X.heap.size = w.heap.size + 5 ∧ X.heap[w.heap.size]? = some o1 ∧ X.heap[w.heap.size + 1]? = some o2 ∧ X.heap[w.heap.size + 2]? = some o3 ∧ X.heap[w.heap.size + 3]? = some o4 ∧ X.heap[w.heap.size + 4]? = some o5 := by
  have b1 := bel_new w o1
  have b2 := bel_new (w.alloc o1) o2
  have b3 := bel_new ((w.alloc o1).alloc o2) o3
  have b4 := bel_new (((w.alloc o1).alloc o2).alloc o3) o4
  have b5 := bel_new ((((w.alloc o1).alloc o2).alloc o3).alloc o4) o5
  have h1 := heap_alloc_new w o1
  have h2 := heap_alloc_new (w.alloc o1) o2
  have h3 := heap_alloc_new ((w.alloc o1).alloc o2) o3
  have h4 := heap_alloc_new (((w.alloc o1).alloc o2).alloc o3) o4
  have h5 := heap_alloc_new ((((w.alloc o1).alloc o2).alloc o3).alloc o4) o5
  have k3 := bel_on b4 b5
  have k2 := bel_on b3 k3
  have k1 := bel_on b2 k2
  have g1 := (k1.block _ (lt_of_block h1)).trans h1
  have g2 := (k2.block _ (lt_of_block h2)).trans h2
  have g3 := (k3.block _ (lt_of_block h3)).trans h3
  have g4 := (b5.block _ (lt_of_block h4)).trans h4
  simp only [World.size_alloc] at g2 g3 g4 h5
  subst hX
  exact ⟨bel_on b1 k1, by simp [World.size_alloc], g1, g2, g3, g4, h5⟩
theorem run_index_row (R : List Int) (h : R.length = 24) (j : Nat) (hj : j < R.length) (w : World) : (Instr.index 129 (.agg (rowV R).toArray) (.int .i64 j)).run Tryz.prog w = .ok (.int .i64 R[j]) w := by
  have e : (rowV R)[j]? = some (.int .i64 R[j]) := by simp [rowV, hj]
  simp [Instr.index, run_underlying Tryz.underlying129, asIntOf, go_sem]
  rw [if_pos (by omega), e]
  rfl
theorem UnAt.old {B g : Nat} {w : World} {U : List (List (List CoinD))} (h : UnAt B g w U) {j : Nat} (hj : j < 24) : (∃ v, w.cell? ⟨g, j, none⟩ = some v) ∧ w.frozen? ⟨g, j, none⟩ = false ∧ g < w.heap.size := by
  obtain ⟨cs, h1, h2⟩ := h
  obtain ⟨v, e, _⟩ := h2.2 j hj
  exact ⟨⟨v, cell_of h1 j v e⟩, frozen_of h1 j, lt_of_block h1⟩
theorem UnAt.coins {B g : Nat} {w w' : World} {U : List (List (List CoinD))} (h : UnAt B g w U) {a : Option Addr} {n : Nat} {C : List CoinD} (hC : CoinsAt w a n C) (hg : Gr w w' (fun q => q = g)) : CoinsAt w' a n C := by
  obtain ⟨cs, h1, h2⟩ := h
  exact coins_gr hC (h2.usok h1) hg

set_option maxRecDepth 10000 in
set_option maxHeartbeats 6400000 in
theorem climb_is (ka : Option Addr) (kn kc : Nat) (K : List ByteArray) (a b : Option Addr) (n c m d : Nat) (N : List Int) (T : List BlkD) (la : Option Addr) (ln lc : Nat) (C0 : List CoinD) (R : List Int) (x : Int) (C' : List CoinD) (U' : List (List (List CoinD))) (w : World) (hE : Env w) (hK : Bk.TextsAt w ka kn K) (hN : Tr.IntsAt w a n N) (hT : Tr.BlksAt w b m T) (sN : SlOk a n c) (sT : SlOk b m d) (hC : CoinsAt w la ln C0) (sC : SlOk la ln lc) (hR : R.length = 24) (hx : clGo K N T R C0 [] = (x, C', U')) :
    Calls Tryz.prog 61 #[.agg #[.slice ka kn kc], .agg #[.slice a n c, .slice b m d], .slice la ln lc, .agg (rowV R).toArray] w fun e w' => ClR w w' x C' U' e := by
  obtain ⟨X, hX⟩ : ∃ X, X = ((((w.alloc (.cells #[.slice ka kn kc] 24)).alloc (.cells #[.slice a n c, .slice b m d] 28)).alloc (.cells (rowV R).toArray 129)).alloc (.cells #[.slice none 0 0, .slice none 0 0, .slice none 0 0, .slice none 0 0, .slice none 0 0, .slice none 0 0, .slice none 0 0, .slice none 0 0, .slice none 0 0, .slice none 0 0, .slice none 0 0, .slice none 0 0, .slice none 0 0, .slice none 0 0, .slice none 0 0, .slice none 0 0, .slice none 0 0, .slice none 0 0, .slice none 0 0, .slice none 0 0, .slice none 0 0, .slice none 0 0, .slice none 0 0, .slice none 0 0] 133)).alloc (.cells #[.slice none 0 0, .slice none 0 0, .slice none 0 0, .slice none 0 0, .slice none 0 0, .slice none 0 0, .slice none 0 0, .slice none 0 0, .slice none 0 0, .slice none 0 0, .slice none 0 0, .slice none 0 0, .slice none 0 0, .slice none 0 0, .slice none 0 0, .slice none 0 0, .slice none 0 0, .slice none 0 0, .slice none 0 0, .slice none 0 0, .slice none 0 0, .slice none 0 0, .slice none 0 0, .slice none 0 0] 133) := ⟨_, rfl⟩
  obtain ⟨hbX, hXs, hX0, hX1, hX2, hX3, hX4⟩ := five_boxes _ _ _ _ _ _ X hX
  rw [zeroU24] at hX3 hX4
  have HBX := hide hbX
  have HX0 := hide hX0
  have HX1 := hide hX1
  have HX3 := hide hX3
  have HXs := hide hXs
  have HE := hide hE
  have HK := hide hK
  have HN := hide hN
  have HT := hide hT
  have HC0 := hide (hC.later hbX)
  have HSC := hide sC
  have HSN := hide sN
  have HST := hide sT
  have HR := hide hR
  have HX := hide hx
  have HU0 : Hid (UnAt (w.heap.size + 5) (w.heap.size + 4) X []) := ⟨_, hX4, UnC.nil _ _⟩
  have hRI := row_info hR
  have HRX : Hid ((((((w.alloc (.cells #[.slice ka kn kc] 24)).alloc (.cells #[.slice a n c, .slice b m d] 28)).alloc (.cells (rowV R).toArray 129)).alloc (.cells #[.slice none 0 0, .slice none 0 0, .slice none 0 0, .slice none 0 0, .slice none 0 0, .slice none 0 0, .slice none 0 0, .slice none 0 0, .slice none 0 0, .slice none 0 0, .slice none 0 0, .slice none 0 0, .slice none 0 0, .slice none 0 0, .slice none 0 0, .slice none 0 0, .slice none 0 0, .slice none 0 0, .slice none 0 0, .slice none 0 0, .slice none 0 0, .slice none 0 0, .slice none 0 0, .slice none 0 0] 133)).alloc (.cells #[.slice none 0 0, .slice none 0 0, .slice none 0 0, .slice none 0 0, .slice none 0 0, .slice none 0 0, .slice none 0 0, .slice none 0 0, .slice none 0 0, .slice none 0 0, .slice none 0 0, .slice none 0 0, .slice none 0 0, .slice none 0 0, .slice none 0 0, .slice none 0 0, .slice none 0 0, .slice none 0 0, .slice none 0 0, .slice none 0 0, .slice none 0 0, .slice none 0 0, .slice none 0 0, .slice none 0 0] 133)).heap[w.heap.size + 2]? = some (.cells (rowV R).toArray 129 (0, 0))) := by rw [← hX]; exact hX2
  clear hE hK hN hT sN sT hC sC hbX hX0 hX1 hX2 hX3 hX4 hXs hx
  go_enter Tryz.func61, Tryz.ntmps61
  go_wp2_with (refine wpList_load_row rfl 129 _ rfl _ rfl _ _ (unhide HRX) _ _ Tryz.underlying129 hRI ?_)
  rw [← hX]
  clear hX HRX
  go_loopw [2, 17] (fun cv i wr => ∃ (j : Nat) (ca : Option Addr) (cn cc : Nat) (C : List CoinD) (U : List (List (List CoinD))), j ≤ 24 ∧ i = .int .i64 j ∧ cv = .slice ca cn cc ∧ Hid (U.length = j) ∧ Hid (CoinsAt wr ca cn C ∧ SlOk ca cn cc) ∧ Hid (UnAt (w.heap.size + 5) (w.heap.size + 4) wr U) ∧ Hid (clGo K N T (R.drop j) C U = (x, C', U')) ∧ Hid (Gr X wr (fun q => q = w.heap.size + 4))) (fun _ i _ => 24 - (intOf i).toNat)
  case atStart => exact ⟨0, la, ln, lc, C0, [], Nat.zero_le _, rfl, rfl, rfl, ⟨unhide HC0, unhide HSC⟩, HU0, by show _ = _; rw [List.drop_zero]; exact unhide HX, Gr.refl _ _⟩
  case round =>
    clear HX HC0 HSC HU0
    obtain ⟨j, ca, cn, cc, C, U, hj, rfl, rfl, HUL, HCC, HU, HQ, HG⟩ := hrel
    by_cases hlt : j < 24
    · have hjR : j < R.length := by rw [unhide HR]; exact hlt
      have hq := (cl_at hjR C U).symm.trans (unhide HQ)
      have hcell := fun W => run_index_row R (unhide HR) j hjR W
      obtain ⟨s, hs⟩ : ∃ s, R[j] = s := ⟨_, rfl⟩
      rw [hs] at hq hcell
      have HQ2 := hide hq
      have hjI : (j : Int) < 24 := by omega
      clear HQ hq hs
      by_cases h0 : s = 0
      · subst h0
        have HQ3 : Hid (clGo K N T (R.drop (j + 1)) C (U ++ [[]]) = (x, C', U')) := by have := unhide HQ2; rw [if_pos rfl] at this; exact this
        clear HQ2
        go_wp2
        go_roundw
        case rel => exact ⟨j + 1, ca, cn, cc, C, U ++ [[]], by omega, by go_num, rfl, by show _ = _; rw [List.length_append, unhide HUL]; rfl, HCC, (unhide HU).skip, HQ3, HG⟩
        case measure => simp [intOf]; omega
      · have h0b : (s == 0) = false := by simp [h0]
        obtain ⟨⟨bx, y⟩, hbl⟩ : ∃ r, Tr.blockE N T s = r := ⟨_, rfl⟩
        obtain ⟨bp, bh, bk, bn, L⟩ := bx
        have hq := unhide HQ2
        rw [if_neg h0, hbl] at hq
        simp only at hq
        obtain ⟨⟨x3, C3, S3⟩, hcon⟩ : ∃ r, conD K C (bp, bh, bk, bn, L) = r := ⟨_, rfl⟩
        rw [hcon] at hq
        simp only at hq
        have hbw : Below w.heap.size w wr := (unhide HG).below (unhide HBX) (by have := unhide HXs; omega) (fun q e => by omega)
        have C1 := hide (Tr.block_is a b n c m d N T s (bp, bh, bk, bn, L) y wr ((unhide HN).later hbw) ((unhide HT).later hbw) (unhide HSN) (unhide HST) hbl)
        have H0 := hide ((unhide HG).heap (unhide HX0) (by omega))
        have H1 := hide ((unhide HG).heap (unhide HX1) (by omega))
        have H3 := hide ((unhide HG).heap (unhide HX3) (by omega))
        have q10 := cell_of (unhide H1) 0 _ rfl
        have q11 := cell_of (unhide H1) 1 _ rfl
        have q1l := lt_of_block (unhide H1)
        have HQ3 := hide hq
        have HBW := hide hbw
        have HCON := hide hcon
        clear HQ2 hq hbl hbw hcon
        go_wp2_with fail
        refine (unhide C1).mono ?_
        rintro e w1 ⟨ta, tn, tc, rfl, hTx, sTx, hb1⟩
        simp only at hTx
        obtain ⟨Y, hY⟩ : ∃ Y, Y = w1.alloc (.cells #[.int .i64 bp, .int .i64 bh, .int .i64 bk, .int .i64 bn, .slice ta tn tc] 39) := ⟨_, rfl⟩
        have hbY : Below w1.heap.size w1 Y := by rw [hY]; exact bel_new _ _
        have hYb : Y.heap[w1.heap.size]? = some (.cells [.int .i64 bp, .int .i64 bh, .int .i64 bk, .int .i64 bn, .slice ta tn tc].toArray 39 (0, 0)) := by rw [hY]; exact five_heap _ _ _ _ _ _ _
        have hwY := bel_on hb1 hbY
        have HWY := hide hwY
        have HTX2 := hide (hTx.later hbY)
        have HYB := hide hYb
        have HST2 := hide sTx
        have H0Y := hide ((hwY.block _ (lt_of_block (unhide H0))).trans (unhide H0))
        have H3Y := hide ((hwY.block _ (lt_of_block (unhide H3))).trans (unhide H3))
        have r0 := cell_later hb1 (cell_of (unhide H0) 0 _ rfl)
        have r0l := Nat.lt_of_lt_of_le (lt_of_block (unhide H0)) hb1.size
        clear hTx sTx hb1 hbY hYb hwY C1 q10 q11 q1l
        by_cases hy : y = 0
        · subst hy
          have HQ4 : Hid ((if x3 ≠ 0 then (x3, [], []) else clGo K N T (R.drop (j + 1)) C3 (U ++ [S3])) = (x, C', U')) := by have := unhide HQ3; rw [if_neg (fun q => q rfl)] at this; exact this
          have CN := hide (connect_is ka kn kc K ca cn cc C bp bh bk bn ta tn tc L x3 C3 S3 Y ((unhide HE).later (bel_on (unhide HBW) (unhide HWY))) ((unhide HK).later (bel_on (unhide HBW) (unhide HWY))) ((unhide HCC).1.later (unhide HWY)) (unhide HCC).2 (unhide HTX2) (unhide HCON))
          have s0 := cell_of (unhide HYB) 0 _ rfl
          have s1 := cell_of (unhide HYB) 1 _ rfl
          have s2 := cell_of (unhide HYB) 2 _ rfl
          have s3 := cell_of (unhide HYB) 3 _ rfl
          have s4 := cell_of (unhide HYB) 4 _ rfl
          have sl := lt_of_block (unhide HYB)
          clear HQ3 HCON
          go_wp2_with fail
          rw [← hY]
          clear hY
          (try go_wp2_with fail)
          refine (unhide CN).mono ?_
          rintro e w3 ⟨oa, oon, oc, ua, un, uc, rfl, hC3, sC3, hU3, sU3, hb3, hf3⟩
          have hw3 := bel_on (unhide HWY) hb3
          have hUn := (unhide HU).later hw3
          obtain ⟨⟨ov, hov⟩, hfz, hgl⟩ := hUn.old hlt
          have hG4 := (Gr.refl w3 (fun q => q = w.heap.size + 4)).one (w.heap.size + 4) j (.inl rfl) (.slice ua un uc)
          have HC4 := hide (hUn.coins hC3 hG4)
          have hsz := (unhide HWY).size
          have hxs := unhide HXs
          have hXw := (unhide HG).size
          have HU4 : Hid (UnAt (w.heap.size + 5) (w.heap.size + 4) (w3.setCell ⟨w.heap.size + 4, j, none⟩ (.slice ua un uc)) (U ++ [S3])) := by have := hUn.put (by omega) (c := uc) hU3 (fun ad e => by have := hf3 ad e; omega); rw [unhide HUL] at this; exact this
          have HG4 := hide (((unhide HG).on hw3).one (w.heap.size + 4) j (.inl rfl) (.slice ua un uc))
          have H34 := hide (hG4.heap ((hb3.block _ (lt_of_block (unhide H3Y))).trans (unhide H3Y)) (by omega))
          have HSC3 := hide sC3
          obtain ⟨W4, hW4⟩ : ∃ W4, W4 = w3.setCell ⟨w.heap.size + 4, j, none⟩ (.slice ua un uc) := ⟨_, rfl⟩
          have HUF := hide (hG4.below (bel_on (unhide HBW) hw3) (by omega) (fun q e => by omega))
          rw [← hW4] at HC4 HU4 HG4 H34 HUF
          clear hC3 sC3 hU3 sU3 hb3 hf3 hw3 hUn hG4 CN s0 s1 s2 s3 s4 sl r0 r0l hsz hXw
          by_cases hx3 : x3 = 0
          · subst hx3
            have HQ5 : Hid (clGo K N T (R.drop (j + 1)) C3 (U ++ [S3]) = (x, C', U')) := by have := unhide HQ4; rw [if_neg (fun q => q rfl)] at this; exact this
            clear HQ4
            go_wp2
            rw [← hW4]
            clear hW4
            go_roundw
            case rel => exact ⟨j + 1, oa, oon, oc, C3, U ++ [S3], by omega, by go_num, rfl, by show _ = _; rw [List.length_append, unhide HUL]; rfl, ⟨unhide HC4, unhide HSC3⟩, HU4, HQ5, HG4⟩
            case measure => simp [intOf]; omega
          · have HR5 : Hid ((x3, ([] : List CoinD), ([] : List (List (List CoinD)))) = (x, C', U')) := by have := unhide HQ4; rw [if_pos hx3] at this; exact this
            have gx : (x3 != 0) = true := by simp [hx3]
            clear HQ4
            subst hW4
            have hzi := un_info (cs := List.replicate 24 (Value.slice none 0 0)) (by simp)
            have hz1 := (UnC.nil 0 (w3.setCell ⟨w.heap.size + 4, j, none⟩ (.slice ua un uc))).one
            go_wp2_with (refine wpList_store_row rfl 133 _ _ rfl _ rfl _ (List.replicate 24 (Value.slice none 0 0)).toArray (by rfl) _ (unhide H34) hzi rfl hz1 ?_)
            (try simp only [Exit.inBlock, Exit.then])
            have hF : ((w3.setCell ⟨w.heap.size + 4, j, none⟩ (.slice ua un uc)).setRow (w.heap.size + 3) (List.replicate 24 (Value.slice none 0 0)).toArray).heap[w.heap.size + 3]? = some (.cells (List.replicate 24 (Value.slice none 0 0)).toArray 133 (0, 0)) := setRow_heap _ _ _ _ _ _ (unhide H34)
            have HL := run_loadVar_row (P := Tryz.prog) _ (w.heap.size + 3) 133 133 _ (0, 0) _ hF Tryz.underlying133 rfl hzi
            refine bodyPost_ret (v := .tuple #[.slice none 0 0, .agg (List.replicate 24 (Value.slice none 0 0)).toArray, .int .i64 x3]) ?_ rfl ?_
            · rw [results_tct rfl]
              exact (congrArg (fun r => Result.andThen r fun x w₂ => Result.ok (Value.tuple #[.slice none 0 0, x, .int .i64 x3]) w₂) HL).trans rfl
            · exact cl_err (unhide HR5) (below_setRow (unhide HUF) (by omega) _)
        · have HR5 : Hid ((y, ([] : List CoinD), ([] : List (List (List CoinD)))) = (x, C', U')) := by have := unhide HQ3; rw [if_pos hy] at this; exact this
          have gy : (y == 0) = false := by simp [hy]
          have gx : (y != 0) = true := by simp [hy]
          have HUF := hide (bel_on (unhide HBW) (unhide HWY))
          clear HQ3 HCON
          subst hY
          have hzi := un_info (cs := List.replicate 24 (Value.slice none 0 0)) (by simp)
          have hz1 := (UnC.nil 0 (w1.alloc (.cells #[.int .i64 bp, .int .i64 bh, .int .i64 bk, .int .i64 bn, .slice ta tn tc] 39))).one
          go_wp2_with (refine wpList_store_row rfl 133 _ _ rfl _ rfl _ (List.replicate 24 (Value.slice none 0 0)).toArray (by rfl) _ (unhide H3Y) hzi rfl hz1 ?_)
          (try simp only [Exit.inBlock, Exit.then])
          have hF : ((w1.alloc (.cells #[.int .i64 bp, .int .i64 bh, .int .i64 bk, .int .i64 bn, .slice ta tn tc] 39)).setRow (w.heap.size + 3) (List.replicate 24 (Value.slice none 0 0)).toArray).heap[w.heap.size + 3]? = some (.cells (List.replicate 24 (Value.slice none 0 0)).toArray 133 (0, 0)) := setRow_heap _ _ _ _ _ _ (unhide H3Y)
          have HL := run_loadVar_row (P := Tryz.prog) _ (w.heap.size + 3) 133 133 _ (0, 0) _ hF Tryz.underlying133 rfl hzi
          refine bodyPost_ret (v := .tuple #[.slice none 0 0, .agg (List.replicate 24 (Value.slice none 0 0)).toArray, .int .i64 y]) ?_ rfl ?_
          · rw [results_tct rfl]
            exact (congrArg (fun r => Result.andThen r fun x w₂ => Result.ok (Value.tuple #[.slice none 0 0, x, .int .i64 y]) w₂) HL).trans rfl
          · exact cl_err (unhide HR5) (below_setRow (unhide HUF) (by omega) _)
    · obtain rfl : j = 24 := by omega
      have HR5 : Hid (((0 : Int), C, U) = (x, C', U')) := by have := unhide HQ; rw [List.drop_of_length_le (by rw [unhide HR]; exact Nat.le_refl _)] at this; exact this
      obtain ⟨cs, hcs, hUC⟩ := unhide HU
      have h3 := (unhide HG).heap (unhide HX3) (by omega)
      have hbw : Below w.heap.size w wr := (unhide HG).below (unhide HBX) (by have := unhide HXs; omega) (fun q e => by omega)
      have hci := un_info hUC.1
      have hc1 := hUC.one
      have hsz : ((List.replicate 24 (Value.slice none 0 0)).toArray : Array Value).size = cs.toArray.size := by simp [hUC.1]
      have HCS := hide hcs
      have H3 := hide h3
      have HBW := hide hbw
      have HUC := hide hUC
      clear HQ HU hcs h3 hbw hUC
      go_wp2_with fail
      refine wp_region_held_drew (S := fun V => V.heap[w.heap.size + 4]? = some (.cells cs.toArray 133 (0, 0))) (by kernel_rfl) (unhide HCS) (fun hHeld => ?_)
      refine tk 0 { dst := some 46, op := Op.move (Operand.tmp 2), type := 29, pos := "chain.go:55", after := #[], guard := none } ?_ rfl ?_ hHeld ?_
      rotate_left
      · (intro W hSw; (try dsimp only at hSw); go_simp; first | done | with_reducible rfl)
      (try simp only [Act.put, List.setIfInBounds_toArray, List.set_cons_zero, List.set_cons_succ])
      refine tk 1 { dst := some 47, op := Op.load 133 (Operand.tmp 11), type := 133, pos := "chain.go:55", after := #[{ on := 2, ground := Ground.gcOnly Departure.lateStores }], guard := none } (.agg cs.toArray) rfl ?_ hHeld ?_
      · (intro V hSw; exact load_yields 133 _ rfl (w.heap.size + 4) rfl cs.toArray 133 hSw _ _ Tryz.underlying133 hci)
      (try simp only [Act.put, List.setIfInBounds_toArray, List.set_cons_zero, List.set_cons_succ])
      refine tk 2 { dst := some 8, op := Op.assign (Operand.tmp 46), type := 29, pos := "chain.go:55", after := #[{ on := 0, ground := Ground.data }, { on := 0, ground := Ground.phase }, { on := 1, ground := Ground.textOnly Departure.lateStores }], guard := none } ?_ rfl ?_ hHeld ?_
      rotate_left
      · (intro W hSw; (try dsimp only at hSw); go_simp; first | done | with_reducible rfl)
      (try simp only [Act.put, List.setIfInBounds_toArray, List.set_cons_zero, List.set_cons_succ])
      refine wpAnyH_ready (rs := [3]) (by kernel_rfl) (by simp) ?_
      refine AllReadyH.cons (o := { dst := none, op := Op.store 133 (Operand.tmp 9) (Operand.tmp 47), type := 0, pos := "chain.go:55", after := #[{ on := 1, ground := Ground.data }, { on := 2, ground := Ground.chain }, { on := 0, ground := Ground.phase }, { on := 1, ground := Ground.phase }, { on := 2, ground := Ground.phase }], guard := none }) rfl (fun KQ hK => ?_) AllReadyH.nil
      refine step_store_row (by rfl) 133 _ _ rfl (w.heap.size + 3) rfl (List.replicate 24 (Value.slice none 0 0)).toArray cs.toArray rfl 133 (unhide H3) hci hsz hc1 ?_
      refine hK.out _ _ ((setRow_other _ _ _ _ (by omega)).trans (unhide HCS)) (fun hHeld2 => ?_)
      clear hK KQ hHeld
      have hHeld := hHeld2
      clear hHeld2
      (try simp only [Act.put])
      refine tk 4 { dst := some 10, op := Op.assign (Operand.const (Value.int IntKind.i64 0)), type := 30, pos := "chain.go:55", after := #[{ on := 3, ground := Ground.chain }, { on := 0, ground := Ground.phase }, { on := 1, ground := Ground.phase }, { on := 2, ground := Ground.phase }, { on := 3, ground := Ground.phase }], guard := none } ?_ rfl ?_ hHeld ?_
      rotate_left
      · (intro W hSw; (try dsimp only at hSw); go_simp; first | done | with_reducible rfl)
      (try simp only [Act.put, List.setIfInBounds_toArray, List.set_cons_zero, List.set_cons_succ])
      refine wpAnyH_done (by kernel_rfl) ?_ _
      clear hHeld
      go_wp2
      (try simp only [Exit.inBlock, Exit.then])
      obtain ⟨r1, r2⟩ := Prod.mk.inj (unhide HR5)
      obtain ⟨r2, r3⟩ := Prod.mk.inj r2
      subst r1 r2 r3
      have hF : (wr.drew.setRow (w.heap.size + 3) cs.toArray).heap[w.heap.size + 3]? = some (.cells cs.toArray 133 (0, 0)) := setRow_heap _ _ _ _ _ _ (unhide H3)
      have HL := run_loadVar_row (P := Tryz.prog) _ (w.heap.size + 3) 133 133 _ (0, 0) _ hF Tryz.underlying133 rfl hci
      have hG5 : Gr wr (wr.drew.setRow (w.heap.size + 3) cs.toArray) (fun q => q = w.heap.size + 3) := (Gr.refl wr (fun q => q = w.heap.size + 3)).draw.row (g := w.heap.size + 3) (.inl rfl) _
      have hu3 : UsOk 133 (w.heap.size + 3) 24 wr := (UnC.nil 0 wr).usok (unhide H3)
      refine bodyPost_ret (v := .tuple #[.slice ca cn cc, .agg cs.toArray, .int .i64 0]) ?_ rfl ⟨ca, cn, cc, cs, rfl, coins_gr (unhide HCC).1 hu3 hG5, (unhide HCC).2, ((unhide HUC).gr hu3 (by omega) hG5).less (by omega), hG5.below (unhide HBW) (by have := (unhide HBW).size; omega) (fun q e => by omega)⟩
      rw [results_tct rfl]
      exact (congrArg (fun r => Result.andThen r fun x w₂ => Result.ok (Value.tuple #[.slice ca cn cc, x, .int .i64 0]) w₂) HL).trans rfl

end Go.Proofs.YtmomfkikogbdeaaGreatDoor

/- The contracts of All, Name, Check and Look. -/
namespace Go.Proofs.YtmomfkikogbdeaaGreatDoor.Bk
open Go.RowKit Go.Maps

set_option maxHeartbeats 800000 in
theorem check_is (a : Option Addr) (n c : Nat) (L : List ByteArray) (w : World) (h : TextsAt w a n L) (x : Int) (hx : bkChk L = x) :
    Calls Tryz.prog 59 #[.agg #[.slice a n c]] w fun e w' => e = .returned (.int .i64 x) ∧ Below w.heap.size w w' := by
  have hb := bel_new w (.cells #[.slice a n c] 24)
  have O := hide (open_is a n c L _ (h.later hb) x hx)
  have HB := hide hb
  clear h hx hb
  go_enter Tryz.func59, Tryz.ntmps59
  go_wp2_with fail
  refine (unhide O).mono ?_
  rintro e w2 ⟨v, rfl, -, hb2⟩
  have HB2 := hide (bel_on (unhide HB) hb2)
  clear hb2
  go_wp2
  go_ret
  exact ⟨rfl, unhide HB2⟩

end Go.Proofs.YtmomfkikogbdeaaGreatDoor.Bk
