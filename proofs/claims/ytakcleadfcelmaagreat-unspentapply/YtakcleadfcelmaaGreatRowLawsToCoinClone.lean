/- Copying, clearing and appending within a row whose elements have any number of cells. Nothing of the program. -/
import Derived.WalkKit
import Derived.Laws.CopyOwn
import Derived.Deep.RegionLaw
import Derived.Lib.AppendZerosOnto
import Derived.Lib.Overlaps
import Derived.Test.YtakcleadfcelmaaGreatCoinCheckToCoinCheckB
import Derived.Lib.SliceRun
namespace Go.Proofs.YtakcleadfcelmaaGreat
open Go.RowKit

/-- The row behind a copy. -/
def laid (L : List Value) (off : Nat) (cs : List Value) : List Value := L.take off ++ cs ++ L.drop (off + cs.length)
theorem laid_len (L : List Value) (off : Nat) (cs : List Value) (h : off + cs.length ≤ L.length) : (laid L off cs).length = L.length := by simp [laid]; omega

variable {P : Program}
theorem run_copy_wide (w : World) (dT sT ty elem : TypeId) (g o dLen dCap : Nat) (a : Addr) (sLen sCap k : Nat) (cur : Array Value) (t : TypeId) (cs : List Value)
    (hu : P.underlying dT = some (.slice elem)) (hs : (P.info? elem).map (·.size) = some k)
    (hg : w.heap[g]? = some (.cells cur t (0, 0))) (hn : cs.length = Nat.min sLen dLen * k)
    (hsrc : ∀ j v, cs[j]? = some v → w.cell? (a.add j) = some v) (hfit : o + cs.length ≤ cur.size) (h1 : ∀ v ∈ cs, v.oneCell' = true) :
    (Builtin.copy_ #[dT, sT] ty #[.slice (some ⟨g, o, none⟩) dLen dCap, .slice (some a) sLen sCap]).run P w =
      .ok (goInt (Nat.min sLen dLen)) (w.setRow g (laid cur.toList o cs).toArray) := by
  have hst := run_storeCells_at P g o t cs 0 cur w hg (by simpa using hfit) h1
  cases hq : P.info? elem with
  | none => simp [hq] at hs
  | some i =>
    have hi : i.size = k := by simpa [hq] using hs
    have hl := run_firstCells_some (P := P) w k (Nat.min sLen dLen) a sLen sCap cs hn hsrc
    simp only [Nat.add_zero] at hst
    simp [Builtin.copy_, run_underlying hu, Builtin.lenOf, sizeOf, typeInfo, hq, hi, hl, hst, laid]

theorem run_clear_wide (w : World) (t e ty : TypeId) (z : Value) (ht : P.underlying t = some (.slice e)) (hv : ∀ w, (zeroValue e).run P w = .ok z w) (g o n c k : Nat) (cur : Array Value) (te : TypeId) (cs : List Value) (hn : 0 < n)
    (hcs : (Builtin.zeroCells z.cells n).toList = cs) (hg : w.heap[g]? = some (.cells cur te (0, 0))) (hk : cs.length = n * k) (hfit : o + n * k ≤ cur.size) (h1 : ∀ v ∈ cs, v.oneCell' = true) :
    (Builtin.clear_ #[t] ty #[.slice (some ⟨g, o, none⟩) n c]).run P w = .ok (.tuple #[]) (w.setRow g (laid cur.toList o cs).toArray) := by
  have hst := run_storeCells_at P g o te cs 0 cur w hg (by simpa [hk] using hfit) h1
  simp only [Nat.add_zero] at hst
  obtain ⟨m, rfl⟩ : ∃ m, n = m + 1 := ⟨n - 1, by omega⟩
  simp [Builtin.clear_, run_underlying ht, hv, hcs, hst, laid]

/-- An append within the room of a row, as one step of a region that draws. -/
theorem step_append_within {ops : Array Oper} {o : Oper} {a : Act} {w : World} {K : Act → World → Prop} {Q : Exit → Act → World → Prop} {E : Prop}
    (hg : o.guard = none) (s x : Operand) (t : TypeId) (hop : o.op = Op.call { callee := Callee.builtin Builtin.append, args := #[s, x], argTypes := #[t, t] })
    (e : TypeId) (i : TypeInfo) (size : Nat) (h1 : P.underlying t = some (.slice e)) (h2 : P.info? e = some i) (h4 : i.size = size)
    (b n cap : Nat) (hs : a.eval s = .slice (some ⟨b, 0, none⟩) n cap)
    (ad : Addr) (m c : Nat) (news : List Value) (hx : a.eval x = .slice (some ad) m c) (hn : news.length = m * size) (hc : ∀ j u, news[j]? = some u → w.cell? (ad.add j) = some u) (h1c : ∀ u ∈ news, u.oneCell' = true)
    (hroom : n + m ≤ cap) (cur : Array Value) (te : TypeId) (hrow : w.heap[b]? = some (.cells cur te (0, 0))) (hfit : n * size + news.length ≤ cur.size)
    (hK : K (a.put o.dst (.slice (some ⟨b, 0, none⟩) (n + m) cap)) (w.setRow b (laid cur.toList (n * size) news).toArray)) :
    if Region.wanted o (yielded ops a.tmps) = true then Oper.wp P o a w K Q else E := by
  have hw : Region.wanted o (yielded ops a.tmps) = true := by simp [Region.wanted, hg]
  rw [if_pos hw]
  subst h4
  have hfc := run_firstCells_some (P := P) w i.size m ad m c news hn hc
  have hst := run_storeCells_at P b (n * i.size) te news 0 cur w hrow (by simpa using hfit) h1c
  simp only [Nat.add_zero] at hst
  have hrun : (Builtin.append_ #[t, t] o.type #[.slice (some ⟨b, 0, none⟩) n cap, .slice (some ad) m c]).run P w = .ok (.slice (some ⟨b, 0, none⟩) (n + m) cap) (w.setRow b (laid cur.toList (n * i.size) news).toArray) := by
    simp [Builtin.append_, run_underlying h1, sizeOf, typeInfo, h2, Builtin.lenOf, hroom, hfc, Addr.add_lit, hst, laid]
  unfold Oper.wp
  simp [execOp, hop, resolve, invoke, builtin, hs, hx, hrun, Result.andThen]
  exact hK

theorem wpList_append_known (w : World) {ops : Array Oper} {rest : List Oper} {o : Oper} {a : Act} {Q : Exit → Act → World → Prop} (hgd : o.guard = none) (d s : Operand) (t t' : TypeId)
    (ho : o.op = .call { callee := .builtin .append, args := #[d, s], argTypes := #[t, t'] }) (v u : Value) (hd : a.eval d = v) (hs : a.eval s = u) {v' : Value} {w' : World}
    (hr : (Builtin.append_ #[t, t'] o.type #[v, u]).run P w = .ok v' w') (h : wpList P ops Q rest (a.put o.dst v') w') : wpList P ops Q (o :: rest) a w := by
  refine wpList_plain hgd fun K hK => ?_
  unfold Oper.wp
  simp [execOp, ho, resolve, invoke, builtin, hd, hs, hr, Result.andThen]
  exact hK _ _ h
end Go.Proofs.YtakcleadfcelmaaGreat

/- Coins that a call has laid: their cells in a row. -/
namespace Go.Proofs.YtakcleadfcelmaaGreat
open Go.RowKit

/-- A coin with the head of its lock's slice. -/
abbrev CV := CoinD × Option Addr × Nat × Nat
def flatC : List CV → List Value
  | [] => []
  | x :: r => .int .i64 x.1.1 :: .int .i64 x.1.2.1 :: .int .i64 (cv x.1) :: .slice x.2.1 x.2.2.1 x.2.2.2 :: .int .i64 (ch x.1) :: .bool (cr x.1) :: flatC r
theorem flatC_len : ∀ l : List CV, (flatC l).length = l.length * 6
  | [] => rfl
  | _ :: r => by simp only [flatC, List.length_cons, flatC_len r]; omega
theorem flatC_append : ∀ l m : List CV, flatC (l ++ m) = flatC l ++ flatC m
  | [], _ => rfl
  | _ :: r, m => by simp only [List.cons_append, flatC, flatC_append r m]
theorem flatC_at : ∀ (l : List CV) (i : Nat) (h : i < l.length), (flatC l)[i * 6]? = some (.int .i64 (l[i]).1.1) ∧ (flatC l)[i * 6 + 1]? = some (.int .i64 (l[i]).1.2.1) ∧ (flatC l)[i * 6 + 2]? = some (.int .i64 (cv (l[i]).1)) ∧ (flatC l)[i * 6 + 3]? = some (.slice (l[i]).2.1 (l[i]).2.2.1 (l[i]).2.2.2) ∧ (flatC l)[i * 6 + 4]? = some (.int .i64 (ch (l[i]).1)) ∧ (flatC l)[i * 6 + 5]? = some (.bool (cr (l[i]).1))
  | [], _, h => absurd h (by simp)
  | x :: r, 0, _ => ⟨rfl, rfl, rfl, rfl, rfl, rfl⟩
  | x :: r, i + 1, h => by
    have := flatC_at r i (by simpa using h)
    have e : (i + 1) * 6 = i * 6 + 6 := by omega
    rw [e]
    exact this
theorem flatC_one : ∀ (l : List CV) (u : Value), u ∈ flatC l → u.oneCell' = true
  | [], u, h => by cases h
  | x :: r, u, h => by
    simp only [flatC, List.mem_cons] at h
    rcases h with rfl | rfl | rfl | rfl | rfl | rfl | h
    · rfl
    · rfl
    · rfl
    · rfl
    · rfl
    · rfl
    · exact flatC_one r u h
theorem flatC_take : ∀ (l : List CV) (i : Nat), (flatC l).take (i * 6) = flatC (l.take i)
  | [], i => by simp [flatC]
  | x :: r, 0 => by simp [flatC]
  | x :: r, i + 1 => by
    rw [show (i + 1) * 6 = i * 6 + 6 by omega, List.take_succ_cons]
    simp only [flatC, List.take_succ_cons, flatC_take r i]
theorem flatC_drop : ∀ (l : List CV) (i : Nat), (flatC l).drop (i * 6) = flatC (l.drop i)
  | [], i => by simp [flatC]
  | x :: r, 0 => by simp [flatC]
  | x :: r, i + 1 => by
    rw [show (i + 1) * 6 = i * 6 + 6 by omega, List.drop_succ_cons]
    simp only [flatC, List.drop_succ_cons, flatC_drop r i]

/-- A coin's lock lies in memory. -/
def LkAt (w : World) (x : CV) : Prop := OpsAt w x.2.1 x.2.2.1 (ck x.1) ∧ SlOk x.2.1 x.2.2.1 x.2.2.2
theorem LkAt.later {w w' : World} {x : CV} (h : LkAt w x) (hb : Below w.heap.size w w') : LkAt w' x := ⟨h.1.later hb, h.2⟩

/-- What a row of coins that a call has laid is to a reader. -/
theorem coins_of_own {w : World} {base : Nat} {v : Value} {K : List CV} (h : w.ownsRow base 55 6 v K.length (flatC K)) (hl : ∀ x ∈ K, LkAt w x) : ∃ a c, v = .slice a K.length c ∧ CoinsAt w a K.length (K.map (·.1)) ∧ SlOk a K.length c := by
  rcases h.2 with ⟨rfl, hn⟩ | ⟨g, cap, cur, rfl, hg, hh, h1, h2, h3, h4⟩
  · rw [hn]
    have e : K = [] := List.length_eq_zero_iff.1 hn
    subst e
    exact ⟨none, 0, rfl, RowsAt.nil _ _, Nat.le_refl _, Nat.zero_le _, fun _ => ⟨rfl, rfl⟩⟩
  · refine ⟨_, cap, rfl, ⟨by simp, fun _ => ⟨g, 0, rfl, lt_of_block hh, fun i hi => ?_⟩⟩, h1, h2, fun e => by cases e⟩
    rw [List.length_map] at hi
    obtain ⟨f0, f1, f2, f3, f4, f5⟩ := flatC_at K i hi
    rw [List.getElem_map]
    refine ⟨?_, ?_, ?_, ⟨_, _, _, ?_, (hl _ (List.getElem_mem hi)).1, (hl _ (List.getElem_mem hi)).2⟩, ?_, ?_⟩
    all_goals rw [Nat.zero_add, World.ownsRow.cellAt h _ (by omega)]
    · exact f0
    · exact f1
    · exact f2
    · exact f3
    · exact f4
    · exact f5

/-- Coins in memory are coins with heads, and their cells are those. -/
theorem heads_of {w : World} {b off : Nat} : ∀ {L : List CoinD}, (∀ i (h : i < L.length), CoinAt w b (off + i * 6) L[i]) → ∃ K : List CV, K.map (·.1) = L ∧ (∀ x ∈ K, LkAt w x) ∧ ∀ j u, (flatC K)[j]? = some u → w.cell? ⟨b, off + j, none⟩ = some u := by
  intro L h
  have h2 : ∀ k, k ≤ L.length → ∃ K : List CV, K.map (·.1) = L.take k ∧ (∀ x ∈ K, LkAt w x) ∧ ∀ j u, (flatC K)[j]? = some u → w.cell? ⟨b, off + j, none⟩ = some u := by
    intro k
    induction k with
    | zero => intro _; exact ⟨[], by simp, fun x hx => (by cases hx), fun j u hj => by simp [flatC] at hj⟩
    | succ k ih =>
      intro hk
      obtain ⟨K, h1, h2, h3⟩ := ih (by omega)
      obtain ⟨a, n, c, g1, g2, g3, g4, g5, g6, h5, h6⟩ := (h k (by omega)).val
      have hlen : K.length = k := by have := congrArg List.length h1; simpa [Nat.min_eq_left (show k ≤ L.length by omega)] using this
      refine ⟨K ++ [(L[k], a, n, c)], by rw [List.map_append, h1, List.take_succ_eq_append_getElem (by omega)]; rfl, fun x hx => ?_, fun j u hj => ?_⟩
      · rcases List.mem_append.1 hx with hx | hx
        · exact h2 x hx
        · rw [List.mem_singleton.1 hx]; exact ⟨h5, h6⟩
      · rw [flatC_append] at hj
        rcases Nat.lt_or_ge j (k * 6) with q | q
        · rw [List.getElem?_append_left (by rw [flatC_len, hlen]; exact q)] at hj
          exact h3 j u hj
        · rw [List.getElem?_append_right (by rw [flatC_len, hlen]; exact q), flatC_len, hlen] at hj
          obtain ⟨r, rfl⟩ : ∃ r, j = k * 6 + r := ⟨j - k * 6, by omega⟩
          rw [Nat.add_sub_cancel_left] at hj
          rw [show off + (k * 6 + r) = off + k * 6 + r by omega]
          match r, hj with
          | 0, hj => simp only [flatC, List.getElem?_cons_zero, Option.some.injEq] at hj; subst hj; exact g1
          | 1, hj => simp only [flatC, List.getElem?_cons_zero, List.getElem?_cons_succ, Option.some.injEq] at hj; subst hj; exact g2
          | 2, hj => simp only [flatC, List.getElem?_cons_zero, List.getElem?_cons_succ, Option.some.injEq] at hj; subst hj; exact g3
          | 3, hj => simp only [flatC, List.getElem?_cons_zero, List.getElem?_cons_succ, Option.some.injEq] at hj; subst hj; exact g4
          | 4, hj => simp only [flatC, List.getElem?_cons_zero, List.getElem?_cons_succ, Option.some.injEq] at hj; subst hj; exact g5
          | 5, hj => simp only [flatC, List.getElem?_cons_zero, List.getElem?_cons_succ, Option.some.injEq] at hj; subst hj; exact g6
          | r + 6, hj => simp [flatC] at hj
  obtain ⟨K, h1, h3⟩ := h2 L.length (Nat.le_refl _)
  exact ⟨K, by rw [h1, List.take_length], h3⟩

end Go.Proofs.YtakcleadfcelmaaGreat

/- The contract of Clone of coins. -/
namespace Go.Proofs.YtakcleadfcelmaaGreat
open Go.RowKit

def zeroC : Value := .agg #[.int .i64 0, .int .i64 0, .int .i64 0, .slice none 0 0, .int .i64 0, .bool false]
theorem Tryz.infoCoin : (Tryz.prog.info? 55).map (fun i => (i.zero, i.size, i.bytes)) = some (some zeroC, 6, 64) := by kernel_rfl
theorem own_lo {w : World} {base : Nat} {e : TypeId} {size : Nat} {v : Value} {n : Nat} {xs : List Value} (h : w.ownsRow base e size v n xs) (k : Nat) (hk : v.ownBlock = some k) : base ≤ k := by
  rcases h.2 with ⟨rfl, _⟩ | ⟨g, cap, cur, rfl, hg, _⟩
  · cases hk
  · cases hk; exact hg
theorem own_nil (w : World) (e : TypeId) (size : Nat) : (w.alloc (.cells #[] e)).ownsRow w.heap.size e size (.slice (some ⟨w.heap.size, 0, none⟩) 0 0) 0 [] :=
  ⟨by simp, .inr ⟨w.heap.size, 0, #[], rfl, Nat.le_refl _, heap_alloc_new w _, Nat.le_refl _, Nat.zero_le _, by simp, by simp⟩⟩

set_option maxRecDepth 10000 in
set_option maxHeartbeats 800000 in
theorem cloneCoin_nil (w : World) : Calls Tryz.prog 28 #[.slice none 0 0] w fun e w' => e = .returned (.slice none 0 0) ∧ w = w' := by
  have he := fun w => Lib.run_eql_slice_nil (P := Tryz.prog) w 22 55 none 0 0 0 0 Tryz.underlying22
  go_enter Tryz.func28, Tryz.ntmps28
  go_wp2
  go_ret
  exact ⟨rfl, rfl⟩

set_option maxRecDepth 10000 in
set_option maxHeartbeats 1600000 in
theorem cloneCoin_some (ad : Addr) (n c : Nat) (K : List CV) (w : World) (hn : n ≤ 4096) (hz : K.length = n) (hc : ∀ j u, (flatC K)[j]? = some u → w.cell? (ad.add j) = some u) :
    Calls Tryz.prog 28 #[.slice (some ad) n c] w fun e w' => ∃ v, e = .returned v ∧ w'.ownsRow w.heap.size 55 6 v n (flatC K) ∧ Below w.heap.size w w' := by
  obtain ⟨i0, hi, hz0, hz1, hz2⟩ := info_parts Tryz.infoCoin
  have hb := bel_new w (.cells #[] 55)
  have HC : Hid (∀ j u, (flatC K)[j]? = some u → (w.alloc (.cells #[] 55)).cell? (ad.add j) = some u) := fun j u hj => cell_later hb (hc j u hj)
  have HB := hide hb
  have HZ := hide hz
  have HO := hide (own_nil w 55 6)
  have he := fun w => Lib.run_eql_slice_nil (P := Tryz.prog) w 22 55 (some ad) n c 0 0 Tryz.underlying22
  clear hc hb hz
  go_enter Tryz.func28, Tryz.ntmps28
  go_wp2_with (at_builtin; refine wpList_append_own _ rfl _ _ 22 rfl w.heap.size 55 i0 zeroC 6 64 Tryz.underlying22 hi hz0 hz1 hz2 rfl (by decide) _ _ _ rfl (unhide HO) ad n c (flatC K) rfl (by rw [flatC_len, unhide HZ]) (unhide HC) (flatC_one K) (by unfold maxLen; omega) (by omega) (unhide HB).size ?_; intro v2 w3 hown3 hgrow3 _)
  have HW : Hid (w3.ownsRow w.heap.size 55 6 v2 n (flatC K)) := by show World.ownsRow _ _ _ _ _ _ _; simpa using hown3
  have HB3 := hide ((unhide HB).grown hgrow3 (unhide HB).size (own_lo (unhide HO)))
  clear hown3 hgrow3
  go_wp2
  go_ret
  exact ⟨v2, rfl, unhide HW, unhide HB3⟩

theorem cloneCoin_any (a : Option Addr) (n c : Nat) (L : List CoinD) (w : World) (hn : n ≤ 4096) (h : CoinsAt w a n L) (hs : SlOk a n c) :
    Calls Tryz.prog 28 #[.slice a n c] w fun e w' => ∃ v, ∃ K : List CV, e = .returned v ∧ K.map (·.1) = L ∧ (∀ x ∈ K, LkAt w x) ∧ w'.ownsRow w.heap.size 55 6 v K.length (flatC K) ∧ Below w.heap.size w w' := by
  obtain ⟨hl, hc⟩ := h
  cases a with
  | none =>
    obtain ⟨rfl, rfl⟩ := hs.2.2 rfl
    have e : L = [] := List.length_eq_zero_iff.1 hl
    subst e
    exact (cloneCoin_nil w).mono fun e w' ⟨x, y⟩ => ⟨_, [], x, rfl, fun _ hx => (by cases hx), y ▸ ⟨rfl, .inl ⟨rfl, rfl⟩⟩, y ▸ Below.refl _ _⟩
  | some ad =>
    by_cases h0 : n = 0
    · subst h0
      have e : L = [] := List.length_eq_zero_iff.1 hl
      subst e
      exact (cloneCoin_some ad 0 c [] w hn rfl (fun j u hj => by simp [flatC] at hj)).mono fun e w' ⟨v, x, y, z⟩ => ⟨v, [], x, rfl, fun _ hx => (by cases hx), y, z⟩
    · obtain ⟨b, off, e, _, hcell⟩ := hc (by omega)
      obtain ⟨rfl⟩ := e
      obtain ⟨K, h1, h2, h3⟩ := heads_of hcell
      have hk : K.length = n := by rw [← hl, ← h1, List.length_map]
      exact (cloneCoin_some ⟨b, off, none⟩ n c K w hn hk (fun j u hj => by rw [Addr.add_lit]; exact h3 j u hj)).mono fun e w' ⟨v, x, y, z⟩ => ⟨v, K, x, h1, h2, by rw [hk]; exact y, z⟩

end Go.Proofs.YtakcleadfcelmaaGreat
