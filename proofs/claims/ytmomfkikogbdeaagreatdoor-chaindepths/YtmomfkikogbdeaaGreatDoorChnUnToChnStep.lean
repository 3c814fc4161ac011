/- The contract of climb: a row of blocks connected, one after the other. -/
import Derived.Test.YtmomfkikogbdeaaGreatDoorTrPathsMToChnRow
import Derived.Test.YtmomfkikogbdeaaGreatDoorBlkConW
import Derived.Test.YtmomfkikogbdeaaGreatDoorCoinCopyBToChnKit
import Derived.Deep.RegionHeld3
import Derived.WalkKit
namespace Go.Proofs.YtmomfkikogbdeaaGreatDoor
open Go.RowKit

/-! What undoes each block, in a row of 24 slices. -/
def UnV (B : Nat) (w : World) (v : Value) (S : List (List CoinD)) : Prop := ∃ a n c, v = .slice a n c ∧ UndosAt w a n S ∧ ∀ ad, a = some ad → B ≤ ad.block
def UnC (B : Nat) (w : World) (cs : List Value) (U : List (List (List CoinD))) : Prop := cs.length = 24 ∧ ∀ i, i < 24 → ∃ v, cs[i]? = some v ∧ UnV B w v (U.getD i [])
def UnAt (B g : Nat) (w : World) (U : List (List (List CoinD))) : Prop := ∃ cs : List Value, w.heap[g]? = some (.cells cs.toArray 133 (0, 0)) ∧ UnC B w cs U
theorem UnV.later {B : Nat} {w w' : World} {v : Value} {S : List (List CoinD)} (h : UnV B w v S) (hb : Below w.heap.size w w') : UnV B w' v S := by
  obtain ⟨a, n, c, e, h, h2⟩ := h
  exact ⟨a, n, c, e, h.later hb, h2⟩
theorem UnC.later {B : Nat} {w w' : World} {cs : List Value} {U : List (List (List CoinD))} (h : UnC B w cs U) (hb : Below w.heap.size w w') : UnC B w' cs U :=
  ⟨h.1, fun i hi => by obtain ⟨v, e, hv⟩ := h.2 i hi; exact ⟨v, e, hv.later hb⟩⟩
theorem UnAt.later {B g : Nat} {w w' : World} {U : List (List (List CoinD))} (h : UnAt B g w U) (hb : Below w.heap.size w w') : UnAt B g w' U := by
  obtain ⟨cs, h1, h2⟩ := h
  exact ⟨cs, (hb.block _ (lt_of_block h1)).trans h1, h2.later hb⟩
theorem UnC.nil (B : Nat) (w : World) : UnC B w (List.replicate 24 (.slice none 0 0)) [] :=
  ⟨by simp, fun i hi => ⟨.slice none 0 0, by rw [List.getElem?_replicate, if_pos hi], none, 0, 0, rfl, ⟨by simp [List.getD], fun h => absurd h (by omega)⟩, fun ad e => by cases e⟩⟩
theorem UnC.slices {B : Nat} {w : World} {cs : List Value} {U : List (List (List CoinD))} (h : UnC B w cs U) : ∀ v ∈ cs, ∃ a n c, v = .slice a n c := by
  intro v hv
  obtain ⟨i, hi, rfl⟩ := List.getElem_of_mem hv
  obtain ⟨v, e, a, n, c, e2, _⟩ := h.2 i (by rw [← h.1]; exact hi)
  rw [List.getElem?_eq_getElem hi] at e
  injection e with e
  exact ⟨a, n, c, e.trans e2⟩
theorem UnC.usok {B g : Nat} {w : World} {cs : List Value} {U : List (List (List CoinD))} (h : UnC B w cs U) (hg : w.heap[g]? = some (.cells cs.toArray 133 (0, 0))) : UsOk 133 g 24 w := ⟨cs, hg, h.1, h.slices⟩
theorem undos_gr {ty : TypeId} {g m : Nat} {w w' : World} {a : Option Addr} {n : Nat} {S : List (List CoinD)} (h : UndosAt w a n S) (ho : UsOk ty g m w) (hn : ∀ ad, a = some ad → ad.block ≠ g) (hg : Gr w w' (fun q => q = g)) : UndosAt w' a n S := by
  refine ⟨h.1, fun h0 => ?_⟩
  obtain ⟨b, off, rfl, hb, hc⟩ := h.2 h0
  refine ⟨b, off, rfl, Nat.lt_of_lt_of_le hb hg.size, fun i hi => ?_⟩
  have hne : b ≠ g := hn _ rfl
  obtain ⟨ca, cn, cc, h1, h2, h3⟩ := hc i hi
  exact ⟨ca, cn, cc, hg.cell h1 hne, coins_gr h2 ho hg, h3⟩
theorem UnC.gr {ty : TypeId} {B g m : Nat} {w w' : World} {cs : List Value} {U : List (List (List CoinD))} (h : UnC B w cs U) (ho : UsOk ty g m w) (hB : g < B) (hg : Gr w w' (fun q => q = g)) : UnC B w' cs U :=
  ⟨h.1, fun i hi => by
    obtain ⟨v, e, a, n, c, e2, h1, h2⟩ := h.2 i hi
    exact ⟨v, e, a, n, c, e2, undos_gr h1 ho (fun ad q => by have := h2 ad q; omega) hg, h2⟩⟩
/-- One more is stored at its place. -/
theorem UnAt.put {B g : Nat} {w : World} {U : List (List (List CoinD))} (h : UnAt B g w U) (hB : g < B) {a : Option Addr} {n c : Nat} {S : List (List CoinD)} (hS : UndosAt w a n S) (ha : ∀ ad, a = some ad → B ≤ ad.block) :
    UnAt B g (w.setCell ⟨g, U.length, none⟩ (.slice a n c)) (U ++ [S]) := by
  obtain ⟨cs, h1, h2⟩ := h
  have hg := (Gr.refl w (fun q => q = g)).one g U.length (.inl rfl) (.slice a n c)
  have ho := h2.usok h1
  refine ⟨cs.set U.length (.slice a n c), us_set h1 _ _, by rw [List.length_set]; exact h2.1, fun i hi => ?_⟩
  by_cases e : i = U.length
  · subst e
    refine ⟨_, by rw [List.getElem?_set_self (by rw [h2.1]; exact hi)], a, n, c, rfl, ?_, ha⟩
    have e0 : (U ++ [S]).getD U.length [] = S := by simp
    rw [e0]
    exact undos_gr hS ho (fun ad q => by have := ha ad q; omega) hg
  · obtain ⟨v, e1, a', n', c', e2, h3, h4⟩ := h2.2 i hi
    refine ⟨v, by rw [List.getElem?_set_ne (fun q => e q.symm)]; exact e1, a', n', c', e2, ?_, h4⟩
    have e3 : (U ++ [S]).getD i [] = U.getD i [] := by
      rcases Nat.lt_or_ge i U.length with q | q
      · exact getD_app_l _ _ _ _ q
      · simp only [List.getD_eq_getElem?_getD]
        rw [List.getElem?_eq_none (by simp; omega), List.getElem?_eq_none q]
    rw [e3]
    exact undos_gr h3 ho (fun ad q => by have := h4 ad q; omega) hg
theorem UnAt.skip {B g : Nat} {w : World} {U : List (List (List CoinD))} (h : UnAt B g w U) : UnAt B g w (U ++ [[]]) := by
  obtain ⟨cs, h1, h2⟩ := h
  refine ⟨cs, h1, h2.1, fun i hi => ?_⟩
  have e3 : (U ++ [[]]).getD i [] = U.getD i [] := by
    rcases Nat.lt_or_ge i U.length with q | q
    · exact getD_app_l _ _ _ _ q
    · simp only [List.getD_eq_getElem?_getD]
      rw [List.getElem?_eq_none (i := i) (l := U) q]
      rcases Nat.eq_or_lt_of_le q with r | r
      · subst r; simp
      · rw [List.getElem?_eq_none (by simp; omega)]
  rw [e3]
  exact h2.2 i hi
theorem UnC.less {B B' : Nat} {w : World} {cs : List Value} {U : List (List (List CoinD))} (h : UnC B' w cs U) (hb : B ≤ B') : UnC B w cs U :=
  ⟨h.1, fun i hi => by obtain ⟨v, e, a, n, c, e2, h1, h2⟩ := h.2 i hi; exact ⟨v, e, a, n, c, e2, h1, fun ad q => Nat.le_trans hb (h2 ad q)⟩⟩
theorem UnC.one {B : Nat} {w : World} {cs : List Value} {U : List (List (List CoinD))} (h : UnC B w cs U) : cs.toArray.all (·.oneCell') = true := by
  rw [Array.all_eq_true_iff_forall_mem]
  intro v hv
  obtain ⟨a, n, c, rfl⟩ := h.slices v (by simpa using hv)
  rfl
theorem Tryz.infoUndone : (Tryz.prog.info? 133).map (·.size) = some 24 := by kernel_rfl
theorem un_info {cs : List Value} (h : cs.length = 24) : (Tryz.prog.info? 133).map (·.size) = some cs.toArray.size := by rw [Tryz.infoUndone]; simp [h]
theorem zeroU24 : (#[.slice none 0 0, .slice none 0 0, .slice none 0 0, .slice none 0 0, .slice none 0 0, .slice none 0 0, .slice none 0 0, .slice none 0 0, .slice none 0 0, .slice none 0 0, .slice none 0 0, .slice none 0 0, .slice none 0 0, .slice none 0 0, .slice none 0 0, .slice none 0 0, .slice none 0 0, .slice none 0 0, .slice none 0 0, .slice none 0 0, .slice none 0 0, .slice none 0 0, .slice none 0 0, .slice none 0 0] : Array Value) = (List.replicate 24 (.slice none 0 0)).toArray := by kernel_rfl
end Go.Proofs.YtmomfkikogbdeaaGreatDoor

/- Steps of regions that draw: taking an operation first; rows by value; a store. Nothing of the program. -/
namespace Go.Proofs.YtmomfkikogbdeaaGreatDoor
open Go.RowKit

theorem tk {P : Program} {ops : Array Oper} {Q : Exit → Act → World → Prop} {md : Region.Mode} {S : World → Prop} (i : Nat) (oi : Oper) (v : Value) {fuel : Nat} {listed : Array Bool} {a : Act} {w : World} (hi : ops[i]? = some oi)
    (hy : ∀ w, S w → (execOp a.eval oi).run P w = .ok (.value v) w) (hS : S w) (h : wpAnyH P md ops Q S fuel (listed.setIfInBounds i true) (a.put oi.dst v) w)
    (hQ : ∀ c a w, Q (.panic c) (a.put oi.dst v) w → Q (.panic c) a w := by exact fun _ _ _ h => h) (hw : Region.wanted oi (yielded ops a.tmps) = true := by rfl)
    (hs : Region.noSelect ops = true := by kernel_rfl) (hf : Region.free md ops listed i = true := by kernel_rfl) (hr : (Region.ready md ops listed).contains i = true := by kernel_rfl) :
    wpAnyH P md ops Q S (fuel + 1) listed a w := wpAnyH_take hi hs hf hr hQ (Or.inl ⟨hw, hy⟩) hS h
theorem load_yields {P : Program} {o : Oper} {a : Act} {w : World} (ty : TypeId) (x : Operand) (ho : o.op = .load ty x)
    (g : Nat) (hx : a.eval x = .pointer (some ⟨g, 0, none⟩)) (c : Array Value) (t : TypeId) (hg : w.heap[g]? = some (.cells c t (0, 0))) (n : Nat) (e : TypeId) (hu : P.underlying ty = some (.array n e)) (hi : (P.info? ty).map (·.size) = some c.size) :
    (execOp a.eval o).run P w = .ok (.value (.agg c)) w := by
  unfold execOp
  simp only [ho, hx, Instr.loadAt, Instr.sureAddr, Sem.run_bind, Sem.run_pure, Result.andThen_ok, run_loadVar_row w g t ty c (0, 0) _ hg hu rfl hi]
theorem step_store_row {P : Program} {ops : Array Oper} {o : Oper} {a : Act} {w : World} {K : Act → World → Prop} {Q : Exit → Act → World → Prop} {E : Prop} (hw : Region.wanted o (yielded ops a.tmps) = true) (ty : TypeId) (x y : Operand) (ho : o.op = .store ty x y)
    (g : Nat) (hx : a.eval x = .pointer (some ⟨g, 0, none⟩)) (c c' : Array Value) (hy : a.eval y = .agg c') (t : TypeId) (hg : w.heap[g]? = some (.cells c t (0, 0))) (hi : (P.info? ty).map (·.size) = some c'.size) (hs : c.size = c'.size) (h1 : c'.all (·.oneCell') = true)
    (h : K (a.put o.dst undef) (w.setRow g c')) : if Region.wanted o (yielded ops a.tmps) = true then Oper.wp P o a w K Q else E := by
  rw [if_pos hw]
  unfold Oper.wp execOp
  simp only [ho, hx, hy, Instr.storeAt, Instr.sureAddr, Sem.run_bind, Sem.run_pure, Result.andThen_ok, run_storeVar_row w g t ty c c' hg hi hs h1]
  exact h
end Go.Proofs.YtmomfkikogbdeaaGreatDoor
