/- Copying, clearing and appending within a row whose elements have any number of cells. Nothing of the program. -/
import Derived.WalkKit
import Derived.Laws.CopyOwn
import Derived.Deep.RegionLaw
import Derived.Lib.AppendZerosOnto
import Derived.Lib.Overlaps
import Derived.Test.YtmomfkikogbdeaaGreatDoorCoinMemToCoinCheckB
import Derived.Lib.SliceRun
namespace Go.Proofs.YtmomfkikogbdeaaGreatDoor
open Go.RowKit

/-- The row behind a copy. -/
def laid (L : List Value) (off : Nat) (cs : List Value) : List Value := L.take off ++ cs ++ L.drop (off + cs.length)
theorem laid_len (L : List Value) (off : Nat) (cs : List Value) (h : off + cs.length ≤ L.length) : (laid L off cs).length = L.length := by simp [laid]; omega

variable {P : Program}
theorem run_copy_wide (w : World) (dT sT ty elem : TypeId) (g o dLen dCap : Nat) (a : Addr) (sLen sCap k : Nat) (cur : Array Value) (t : TypeId) (cs : List Value)
    (hu : P.underlying dT = some (.slice elem)) (hs : (P.info? elem).map (·.size) = some k)
    (hg : w.heap[g]? = some (.cells cur t (0, 0))) (hn : cs.length = Nat.min sLen dLen * k)
    (hsrc : ∀ j v, cs[j]? = some v → w.cell? (a.add j) = some v) (hfit : o + cs.length ≤ cur.size) (h1 : ∀ v ∈ cs, v.oneCell' = true) :
    (Builtin.copy_ #[dT, sT] ty #[.slice (some ⟨g, o, none⟩) dLen dCap, .slice (some a) sLen sCap]).run P w =
      .ok (goInt (Nat.min sLen dLen)) (w.setRow g (laid cur.toList o cs).toArray) := by
  have hst := run_storeCells_at P g o t cs 0 cur w hg (by simpa using hfit) h1
  cases hq : P.info? elem with
  | none => simp [hq] at hs
  | some i =>
    have hi : i.size = k := by simpa [hq] using hs
    have hl := run_firstCells_some (P := P) w k (Nat.min sLen dLen) a sLen sCap cs hn hsrc
    simp only [Nat.add_zero] at hst
    simp [Builtin.copy_, run_underlying hu, Builtin.lenOf, sizeOf, typeInfo, hq, hi, hl, hst, laid]

theorem run_clear_wide (w : World) (t e ty : TypeId) (z : Value) (ht : P.underlying t = some (.slice e)) (hv : ∀ w, (zeroValue e).run P w = .ok z w) (g o n c k : Nat) (cur : Array Value) (te : TypeId) (cs : List Value) (hn : 0 < n)
    (hcs : (Builtin.zeroCells z.cells n).toList = cs) (hg : w.heap[g]? = some (.cells cur te (0, 0))) (hk : cs.length = n * k) (hfit : o + n * k ≤ cur.size) (h1 : ∀ v ∈ cs, v.oneCell' = true) :
    (Builtin.clear_ #[t] ty #[.slice (some ⟨g, o, none⟩) n c]).run P w = .ok (.tuple #[]) (w.setRow g (laid cur.toList o cs).toArray) := by
  have hst := run_storeCells_at P g o te cs 0 cur w hg (by simpa [hk] using hfit) h1
  simp only [Nat.add_zero] at hst
  obtain ⟨m, rfl⟩ : ∃ m, n = m + 1 := ⟨n - 1, by omega⟩
  simp [Builtin.clear_, run_underlying ht, hv, hcs, hst, laid]

/-- An append within the room of a row, as one step of a region that draws. -/
theorem step_append_within {ops : Array Oper} {o : Oper} {a : Act} {w : World} {K : Act → World → Prop} {Q : Exit → Act → World → Prop} {E : Prop}
    (hg : o.guard = none) (s x : Operand) (t : TypeId) (hop : o.op = Op.call { callee := Callee.builtin Builtin.append, args := #[s, x], argTypes := #[t, t] })
    (e : TypeId) (i : TypeInfo) (size : Nat) (h1 : P.underlying t = some (.slice e)) (h2 : P.info? e = some i) (h4 : i.size = size)
    (b n cap : Nat) (hs : a.eval s = .slice (some ⟨b, 0, none⟩) n cap)
    (ad : Addr) (m c : Nat) (news : List Value) (hx : a.eval x = .slice (some ad) m c) (hn : news.length = m * size) (hc : ∀ j u, news[j]? = some u → w.cell? (ad.add j) = some u) (h1c : ∀ u ∈ news, u.oneCell' = true)
    (hroom : n + m ≤ cap) (cur : Array Value) (te : TypeId) (hrow : w.heap[b]? = some (.cells cur te (0, 0))) (hfit : n * size + news.length ≤ cur.size)
    (hK : K (a.put o.dst (.slice (some ⟨b, 0, none⟩) (n + m) cap)) (w.setRow b (laid cur.toList (n * size) news).toArray)) :
    if Region.wanted o (yielded ops a.tmps) = true then Oper.wp P o a w K Q else E := by
  have hw : Region.wanted o (yielded ops a.tmps) = true := by simp [Region.wanted, hg]
  rw [if_pos hw]
  subst h4
  have hfc := run_firstCells_some (P := P) w i.size m ad m c news hn hc
  have hst := run_storeCells_at P b (n * i.size) te news 0 cur w hrow (by simpa using hfit) h1c
  simp only [Nat.add_zero] at hst
  have hrun : (Builtin.append_ #[t, t] o.type #[.slice (some ⟨b, 0, none⟩) n cap, .slice (some ad) m c]).run P w = .ok (.slice (some ⟨b, 0, none⟩) (n + m) cap) (w.setRow b (laid cur.toList (n * i.size) news).toArray) := by
    simp [Builtin.append_, run_underlying h1, sizeOf, typeInfo, h2, Builtin.lenOf, hroom, hfc, Addr.add_lit, hst, laid]
  unfold Oper.wp
  simp [execOp, hop, resolve, invoke, builtin, hs, hx, hrun, Result.andThen]
  exact hK

theorem wpList_append_known (w : World) {ops : Array Oper} {rest : List Oper} {o : Oper} {a : Act} {Q : Exit → Act → World → Prop} (hgd : o.guard = none) (d s : Operand) (t t' : TypeId)
    (ho : o.op = .call { callee := .builtin .append, args := #[d, s], argTypes := #[t, t'] }) (v u : Value) (hd : a.eval d = v) (hs : a.eval s = u) {v' : Value} {w' : World}
    (hr : (Builtin.append_ #[t, t'] o.type #[v, u]).run P w = .ok v' w') (h : wpList P ops Q rest (a.put o.dst v') w') : wpList P ops Q (o :: rest) a w := by
  refine wpList_plain hgd fun K hK => ?_
  unfold Oper.wp
  simp [execOp, ho, resolve, invoke, builtin, hd, hs, hr, Result.andThen]
  exact hK _ _ h
end Go.Proofs.YtmomfkikogbdeaaGreatDoor

/- Coins that a call has laid: their cells in a row. -/
namespace Go.Proofs.YtmomfkikogbdeaaGreatDoor
open Go.RowKit

/-- A coin with the head of its lock's slice. -/
abbrev CV := CoinD × Option Addr × Nat × Nat
def flatC : List CV → List Value
  | [] => []
  | x :: r => .int .i64 x.1.1 :: .int .i64 x.1.2.1 :: .int .i64 (cv x.1) :: .slice x.2.1 x.2.2.1 x.2.2.2 :: .int .i64 (ch x.1) :: .bool (cr x.1) :: flatC r
theorem flatC_len : ∀ l : List CV, (flatC l).length = l.length * 6
  | [] => rfl
  | _ :: r => by simp only [flatC, List.length_cons, flatC_len r]; omega
theorem flatC_append : ∀ l m : List CV, flatC (l ++ m) = flatC l ++ flatC m
  | [], _ => rfl
  | _ :: r, m => by simp only [List.cons_append, flatC, flatC_append r m]
theorem flatC_at : ∀ (l : List CV) (i : Nat) (h : i < l.length), (flatC l)[i * 6]? = some (.int .i64 (l[i]).1.1) ∧ (flatC l)[i * 6 + 1]? = some (.int .i64 (l[i]).1.2.1) ∧ (flatC l)[i * 6 + 2]? = some (.int .i64 (cv (l[i]).1)) ∧ (flatC l)[i * 6 + 3]? = some (.slice (l[i]).2.1 (l[i]).2.2.1 (l[i]).2.2.2) ∧ (flatC l)[i * 6 + 4]? = some (.int .i64 (ch (l[i]).1)) ∧ (flatC l)[i * 6 + 5]? = some (.bool (cr (l[i]).1))
  | [], _, h => absurd h (by simp)
  | x :: r, 0, _ => ⟨rfl, rfl, rfl, rfl, rfl, rfl⟩
  | x :: r, i + 1, h => by
    have := flatC_at r i (by simpa using h)
    have e : (i + 1) * 6 = i * 6 + 6 := by omega
    rw [e]
    exact this
theorem flatC_one : ∀ (l : List CV) (u : Value), u ∈ flatC l → u.oneCell' = true
  | [], u, h => by cases h
  | x :: r, u, h => by
    simp only [flatC, List.mem_cons] at h
    rcases h with rfl | rfl | rfl | rfl | rfl | rfl | h
    · rfl
    · rfl
    · rfl
    · rfl
    · rfl
    · rfl
    · exact flatC_one r u h
theorem flatC_take : ∀ (l : List CV) (i : Nat), (flatC l).take (i * 6) = flatC (l.take i)
  | [], i => by simp [flatC]
  | x :: r, 0 => by simp [flatC]
  | x :: r, i + 1 => by
    rw [show (i + 1) * 6 = i * 6 + 6 by omega, List.take_succ_cons]
    simp only [flatC, List.take_succ_cons, flatC_take r i]
theorem flatC_drop : ∀ (l : List CV) (i : Nat), (flatC l).drop (i * 6) = flatC (l.drop i)
  | [], i => by simp [flatC]
  | x :: r, 0 => by simp [flatC]
  | x :: r, i + 1 => by
    rw [show (i + 1) * 6 = i * 6 + 6 by omega, List.drop_succ_cons]
    simp only [flatC, List.drop_succ_cons, flatC_drop r i]

/-- A coin's lock lies in memory. -/
def LkAt (w : World) (x : CV) : Prop := OpsAt w x.2.1 x.2.2.1 (ck x.1) ∧ SlOk x.2.1 x.2.2.1 x.2.2.2
theorem LkAt.later {w w' : World} {x : CV} (h : LkAt w x) (hb : Below w.heap.size w w') : LkAt w' x := ⟨h.1.later hb, h.2⟩

/-- What a row of coins that a call has laid is to a reader. -/
theorem coins_of_own {w : World} {base : Nat} {v : Value} {K : List CV} (h : w.ownsRow base 124 6 v K.length (flatC K)) (hl : ∀ x ∈ K, LkAt w x) : ∃ a c, v = .slice a K.length c ∧ CoinsAt w a K.length (K.map (·.1)) ∧ SlOk a K.length c := by
  rcases h.2 with ⟨rfl, hn⟩ | ⟨g, cap, cur, rfl, hg, hh, h1, h2, h3, h4⟩
  · rw [hn]
    have e : K = [] := List.length_eq_zero_iff.1 hn
    subst e
    exact ⟨none, 0, rfl, RowsAt.nil _ _, Nat.le_refl _, Nat.zero_le _, fun _ => ⟨rfl, rfl⟩⟩
  · refine ⟨_, cap, rfl, ⟨by simp, fun _ => ⟨g, 0, rfl, lt_of_block hh, fun i hi => ?_⟩⟩, h1, h2, fun e => by cases e⟩
    rw [List.length_map] at hi
    obtain ⟨f0, f1, f2, f3, f4, f5⟩ := flatC_at K i hi
    rw [List.getElem_map]
    refine ⟨?_, ?_, ?_, ⟨_, _, _, ?_, (hl _ (List.getElem_mem hi)).1, (hl _ (List.getElem_mem hi)).2⟩, ?_, ?_⟩
    all_goals rw [Nat.zero_add, World.ownsRow.cellAt h _ (by omega)]
    · exact f0
    · exact f1
    · exact f2
    · exact f3
    · exact f4
    · exact f5

/-- Coins in memory are coins with heads, and their cells are those. -/
theorem heads_of {w : World} {b off : Nat} : ∀ {L : List CoinD}, (∀ i (h : i < L.length), CoinAt w b (off + i * 6) L[i]) → ∃ K : List CV, K.map (·.1) = L ∧ (∀ x ∈ K, LkAt w x) ∧ ∀ j u, (flatC K)[j]? = some u → w.cell? ⟨b, off + j, none⟩ = some u := by
  intro L h
  have h2 : ∀ k, k ≤ L.length → ∃ K : List CV, K.map (·.1) = L.take k ∧ (∀ x ∈ K, LkAt w x) ∧ ∀ j u, (flatC K)[j]? = some u → w.cell? ⟨b, off + j, none⟩ = some u := by
    intro k
    induction k with
    | zero => intro _; exact ⟨[], by simp, fun x hx => (by cases hx), fun j u hj => by simp [flatC] at hj⟩
    | succ k ih =>
      intro hk
      obtain ⟨K, h1, h2, h3⟩ := ih (by omega)
      obtain ⟨a, n, c, g1, g2, g3, g4, g5, g6, h5, h6⟩ := (h k (by omega)).val
      have hlen : K.length = k := by have := congrArg List.length h1; simpa [Nat.min_eq_left (show k ≤ L.length by omega)] using this
      refine ⟨K ++ [(L[k], a, n, c)], by rw [List.map_append, h1, List.take_succ_eq_append_getElem (by omega)]; rfl, fun x hx => ?_, fun j u hj => ?_⟩
      · rcases List.mem_append.1 hx with hx | hx
        · exact h2 x hx
        · rw [List.mem_singleton.1 hx]; exact ⟨h5, h6⟩
      · rw [flatC_append] at hj
        rcases Nat.lt_or_ge j (k * 6) with q | q
        · rw [List.getElem?_append_left (by rw [flatC_len, hlen]; exact q)] at hj
          exact h3 j u hj
        · rw [List.getElem?_append_right (by rw [flatC_len, hlen]; exact q), flatC_len, hlen] at hj
          obtain ⟨r, rfl⟩ : ∃ r, j = k * 6 + r := ⟨j - k * 6, by omega⟩
          rw [Nat.add_sub_cancel_left] at hj
          rw [show off + (k * 6 + r) = off + k * 6 + r by omega]
          match r, hj with
          | 0, hj => simp only [flatC, List.getElem?_cons_zero, Option.some.injEq] at hj; subst hj; exact g1
          | 1, hj => simp only [flatC, List.getElem?_cons_zero, List.getElem?_cons_succ, Option.some.injEq] at hj; subst hj; exact g2
          | 2, hj => simp only [flatC, List.getElem?_cons_zero, List.getElem?_cons_succ, Option.some.injEq] at hj; subst hj; exact g3
          | 3, hj => simp only [flatC, List.getElem?_cons_zero, List.getElem?_cons_succ, Option.some.injEq] at hj; subst hj; exact g4
          | 4, hj => simp only [flatC, List.getElem?_cons_zero, List.getElem?_cons_succ, Option.some.injEq] at hj; subst hj; exact g5
          | 5, hj => simp only [flatC, List.getElem?_cons_zero, List.getElem?_cons_succ, Option.some.injEq] at hj; subst hj; exact g6
          | r + 6, hj => simp [flatC] at hj
  obtain ⟨K, h1, h3⟩ := h2 L.length (Nat.le_refl _)
  exact ⟨K, by rw [h1, List.take_length], h3⟩

end Go.Proofs.YtmomfkikogbdeaaGreatDoor

/- The contract of Clone of coins. -/
namespace Go.Proofs.YtmomfkikogbdeaaGreatDoor
open Go.RowKit

def zeroC : Value := .agg #[.int .i64 0, .int .i64 0, .int .i64 0, .slice none 0 0, .int .i64 0, .bool false]
theorem Tryz.infoCoin : (Tryz.prog.info? 124).map (fun i => (i.zero, i.size, i.bytes)) = some (some zeroC, 6, 64) := by kernel_rfl
theorem own_lo {w : World} {base : Nat} {e : TypeId} {size : Nat} {v : Value} {n : Nat} {xs : List Value} (h : w.ownsRow base e size v n xs) (k : Nat) (hk : v.ownBlock = some k) : base ≤ k := by
  rcases h.2 with ⟨rfl, _⟩ | ⟨g, cap, cur, rfl, hg, _⟩
  · cases hk
  · cases hk; exact hg
theorem own_nil (w : World) (e : TypeId) (size : Nat) : (w.alloc (.cells #[] e)).ownsRow w.heap.size e size (.slice (some ⟨w.heap.size, 0, none⟩) 0 0) 0 [] :=
  ⟨by simp, .inr ⟨w.heap.size, 0, #[], rfl, Nat.le_refl _, heap_alloc_new w _, Nat.le_refl _, Nat.zero_le _, by simp, by simp⟩⟩

set_option maxRecDepth 10000 in
set_option maxHeartbeats 800000 in
theorem cloneCoin_nil (w : World) : Calls Tryz.prog 138 #[.slice none 0 0] w fun e w' => e = .returned (.slice none 0 0) ∧ w = w' := by
  have he := fun w => Lib.run_eql_slice_nil (P := Tryz.prog) w 29 124 none 0 0 0 0 Tryz.underlying29
  go_enter Tryz.func138, Tryz.ntmps138
  go_wp2
  go_ret
  exact ⟨rfl, rfl⟩

set_option maxRecDepth 10000 in
set_option maxHeartbeats 1600000 in
theorem cloneCoin_some (ad : Addr) (n c : Nat) (K : List CV) (w : World) (hn : n ≤ 4096) (hz : K.length = n) (hc : ∀ j u, (flatC K)[j]? = some u → w.cell? (ad.add j) = some u) :
    Calls Tryz.prog 138 #[.slice (some ad) n c] w fun e w' => ∃ v, e = .returned v ∧ w'.ownsRow w.heap.size 124 6 v n (flatC K) ∧ Below w.heap.size w w' := by
  obtain ⟨i0, hi, hz0, hz1, hz2⟩ := info_parts Tryz.infoCoin
  have hb := bel_new w (.cells #[] 124)
  have HC : Hid (∀ j u, (flatC K)[j]? = some u → (w.alloc (.cells #[] 124)).cell? (ad.add j) = some u) := fun j u hj => cell_later hb (hc j u hj)
  have HB := hide hb
  have HZ := hide hz
  have HO := hide (own_nil w 124 6)
  have he := fun w => Lib.run_eql_slice_nil (P := Tryz.prog) w 29 124 (some ad) n c 0 0 Tryz.underlying29
  clear hc hb hz
  go_enter Tryz.func138, Tryz.ntmps138
  go_wp2_with (at_builtin; refine wpList_append_own _ rfl _ _ 29 rfl w.heap.size 124 i0 zeroC 6 64 Tryz.underlying29 hi hz0 hz1 hz2 rfl (by decide) _ _ _ rfl (unhide HO) ad n c (flatC K) rfl (by rw [flatC_len, unhide HZ]) (unhide HC) (flatC_one K) (by unfold maxLen; omega) (by omega) (unhide HB).size ?_; intro v2 w3 hown3 hgrow3 _)
  have HW : Hid (w3.ownsRow w.heap.size 124 6 v2 n (flatC K)) := by show World.ownsRow _ _ _ _ _ _ _; simpa using hown3
  have HB3 := hide ((unhide HB).grown hgrow3 (unhide HB).size (own_lo (unhide HO)))
  clear hown3 hgrow3
  go_wp2
  go_ret
  exact ⟨v2, rfl, unhide HW, unhide HB3⟩

theorem cloneCoin_any (a : Option Addr) (n c : Nat) (L : List CoinD) (w : World) (hn : n ≤ 4096) (h : CoinsAt w a n L) (hs : SlOk a n c) :
    Calls Tryz.prog 138 #[.slice a n c] w fun e w' => ∃ v, ∃ K : List CV, e = .returned v ∧ K.map (·.1) = L ∧ (∀ x ∈ K, LkAt w x) ∧ w'.ownsRow w.heap.size 124 6 v K.length (flatC K) ∧ Below w.heap.size w w' := by
  obtain ⟨hl, hc⟩ := h
  cases a with
  | none =>
    obtain ⟨rfl, rfl⟩ := hs.2.2 rfl
    have e : L = [] := List.length_eq_zero_iff.1 hl
    subst e
    exact (cloneCoin_nil w).mono fun e w' ⟨x, y⟩ => ⟨_, [], x, rfl, fun _ hx => (by cases hx), y ▸ ⟨rfl, .inl ⟨rfl, rfl⟩⟩, y ▸ Below.refl _ _⟩
  | some ad =>
    by_cases h0 : n = 0
    · subst h0
      have e : L = [] := List.length_eq_zero_iff.1 hl
      subst e
      exact (cloneCoin_some ad 0 c [] w hn rfl (fun j u hj => by simp [flatC] at hj)).mono fun e w' ⟨v, x, y, z⟩ => ⟨v, [], x, rfl, fun _ hx => (by cases hx), y, z⟩
    · obtain ⟨b, off, e, _, hcell⟩ := hc (by omega)
      obtain ⟨rfl⟩ := e
      obtain ⟨K, h1, h2, h3⟩ := heads_of hcell
      have hk : K.length = n := by rw [← hl, ← h1, List.length_map]
      exact (cloneCoin_some ⟨b, off, none⟩ n c K w hn hk (fun j u hj => by rw [Addr.add_lit]; exact h3 j u hj)).mono fun e w' ⟨v, x, y, z⟩ => ⟨v, K, x, h1, h2, by rw [hk]; exact y, z⟩

end Go.Proofs.YtmomfkikogbdeaaGreatDoor

/- The contract of Delete of one coin of a row that the call has made. -/
namespace Go.Proofs.YtmomfkikogbdeaaGreatDoor
open Go.RowKit

theorem Tryz.zeroCoin (w : World) : (zeroValue 124).run Tryz.prog w = .ok zeroC w := by
  obtain ⟨i0, hi, hz0, _, _⟩ := info_parts Tryz.infoCoin
  simp [zeroValue, typeInfo, hi, hz0]
def zeroCs : List Value := [.int .i64 0, .int .i64 0, .int .i64 0, .slice none 0 0, .int .i64 0, .bool false]
theorem zero_one : (Builtin.zeroCells zeroC.cells 1).toList = zeroCs := by kernel_rfl
theorem zeroCs_one : ∀ v ∈ zeroCs, v.oneCell' = true := by
  intro v hv
  simp only [zeroCs, List.mem_cons, List.not_mem_nil, or_false] at hv
  rcases hv with rfl | rfl | rfl | rfl | rfl | rfl <;> rfl

theorem del_list (X Z : List Value) (i n : Nat) (hi : i < n) (hX : n * 6 ≤ X.length) :
    (laid (laid X (i * 6) ((X.take (n * 6)).drop ((i + 1) * 6))) ((n - 1) * 6) Z).take ((n - 1) * 6) = (X.take (n * 6)).take (i * 6) ++ (X.take (n * 6)).drop ((i + 1) * 6) := by
  have e1 : ((X.take (n * 6)).drop ((i + 1) * 6)).length = (n - 1) * 6 - i * 6 := by simp; omega
  unfold laid
  rw [List.append_assoc, List.take_append_of_le_length (by simp; omega), List.take_of_length_le (by simp; omega)]
  rw [e1, show i * 6 + ((n - 1) * 6 - i * 6) = (n - 1) * 6 by omega, List.take_append_of_le_length (by rw [List.length_append, e1]; simp; omega), List.take_of_length_le (by rw [List.length_append, e1]; simp; omega), List.take_take, Nat.min_eq_left (by omega)]

set_option maxRecDepth 10000 in
set_option maxHeartbeats 3200000 in
theorem deleteCoin_is (base g n c i j : Nat) (K : List CV) (w : World) (hi : i < n) (hj : j = i + 1) (hz : K.length = n) (h : w.ownsRow base 124 6 (.slice (some ⟨g, 0, none⟩) n c) n (flatC K)) :
    Calls Tryz.prog 251 #[.slice (some ⟨g, 0, none⟩) n c, .int .i64 i, .int .i64 j] w fun e w' => e = .returned (.slice (some ⟨g, 0, none⟩) (n - 1) c) ∧ w'.ownsRow base 124 6 (.slice (some ⟨g, 0, none⟩) (n - 1) c) (n - 1) (flatC (K.take i ++ K.drop (i + 1))) ∧ w.grownBy w' (some g) := by
  obtain ⟨i0, hi0, hz0, hz1, hz2⟩ := info_parts Tryz.infoCoin
  obtain ⟨hlen, h | ⟨g', c', cur, hv, hbg, hh, h1, h2, h3, h4⟩⟩ := h
  · cases h.1
  simp only [Value.slice.injEq, Option.some.injEq, Addr.mk.injEq, and_true, true_and] at hv
  obtain ⟨rfl, rfl⟩ := hv
  unfold maxLen at h2
  have hcur : cur.toList.length = c * 6 := by simpa using h3
  obtain ⟨news, hnews⟩ : ∃ news, news = (cur.toList.take (n * 6)).drop ((i + 1) * 6) := ⟨_, rfl⟩
  have hnl : news.length = (n - j) * 6 := by rw [hnews]; simp; omega
  have hone : ∀ u ∈ news, u.oneCell' = true := fun u hu => by
    rw [hnews, h4] at hu
    exact flatC_one K u (List.mem_of_mem_drop hu)
  obtain ⟨A, hA, hsrc⟩ : ∃ A : Addr, (if c = j then some (⟨g, 0, none⟩ : Addr) else some ⟨g, j * 6, none⟩) = some A ∧ Hid (∀ t u, news[t]? = some u → w.drew.cell? (A.add t) = some u) := by
    by_cases hc : c = j
    · refine ⟨⟨g, 0, none⟩, by simp [hc], fun t u hu => ?_⟩
      have h0 : news.length = 0 := by rw [hnl]; omega
      rw [List.length_eq_zero_iff.1 h0] at hu
      simp at hu
    · refine ⟨⟨g, j * 6, none⟩, by simp [hc], fun t u hu => ?_⟩
      have ht : t < (n - j) * 6 := by rw [← hnl]; exact (List.getElem?_eq_some_iff.1 hu).1
      rw [hnews, List.getElem?_drop, List.getElem?_take_of_lt (by omega)] at hu
      rw [Addr.add_lit]
      show w.cell? _ = _
      simp only [World.cell?, hh]
      rw [← hu, ← hj]
      simp
  have h5 : i * 6 + news.length ≤ cur.size := by rw [hnl, h3]; omega
  obtain ⟨W1, hW1⟩ : ∃ W1, W1 = w.drew.setRow g (laid cur.toList (i * 6) news).toArray := ⟨_, rfl⟩
  have hh1 : W1.heap[g]? = some (.cells (laid cur.toList (i * 6) news).toArray 124 (0, 0)) := by rw [hW1]; exact setRow_heap w.drew g cur _ 124 (0, 0) hh
  have hll : (laid cur.toList (i * 6) news).length = c * 6 := by rw [laid_len _ _ _ (by simpa using h5), hcur]
  have hcl : ∀ ty d, (Builtin.clear_ #[29] ty #[.slice (some ⟨g, (n - 1) * 6, none⟩) 1 d]).run Tryz.prog W1 = .ok (.tuple #[]) (W1.setRow g (laid (laid cur.toList (i * 6) news) ((n - 1) * 6) zeroCs).toArray) := fun ty d => by
    have := run_clear_wide (P := Tryz.prog) W1 29 124 ty zeroC Tryz.underlying29 Tryz.zeroCoin g ((n - 1) * 6) 1 d 6 (laid cur.toList (i * 6) news).toArray 124 zeroCs (by decide) zero_one hh1 rfl (by simp [hll]; omega) zeroCs_one
    simpa using this
  have hsn : i + (n - j) = n - 1 := by omega
  have R : Hid (W1.setRow g (laid (laid cur.toList (i * 6) news) ((n - 1) * 6) zeroCs).toArray |>.ownsRow base 124 6 (.slice (some ⟨g, 0, none⟩) (n - 1) c) (n - 1) (flatC (K.take i ++ K.drop (i + 1)))) := by
    refine ⟨by rw [flatC_len]; simp; omega, .inr ⟨g, c, (laid (laid cur.toList (i * 6) news) ((n - 1) * 6) zeroCs).toArray, rfl, hbg, setRow_heap _ g _ _ 124 (0, 0) hh1, by omega, by unfold maxLen; omega, ?_, ?_⟩⟩
    · rw [List.size_toArray, laid_len _ _ _ (by rw [hll]; simp [zeroCs]; omega), hll]
    · rw [hnews]
      show List.take _ (laid _ _ _) = _
      rw [del_list cur.toList zeroCs i n hi (by rw [hcur]; omega), h4, flatC_append, flatC_take, flatC_drop]
  have G : Hid (w.grownBy (W1.setRow g (laid (laid cur.toList (i * 6) news) ((n - 1) * 6) zeroCs).toArray) (some g)) := by
    have e : W1.setRow g (laid (laid cur.toList (i * 6) news) ((n - 1) * 6) zeroCs).toArray = w.drew.setRow g (laid (laid cur.toList (i * 6) news) ((n - 1) * 6) zeroCs).toArray := by rw [hW1, setRow_setRow]
    rw [e]
    refine ⟨rfl, rfl, rfl, by simp [World.setRow], fun k hk hne => ?_⟩
    exact setRow_other w.drew g k _ (fun e => hne (by rw [e]))
  have HCL := hide hcl
  have HW := hide hW1
  have hH1 := hide hone
  have hH2 := hide hnl
  have hH3 := hide hh
  have hH5 := hide h5
  have hic : i ≤ c := by omega
  have hjc : j ≤ c := by omega
  have hjn : j ≤ n := by omega
  have hij : ¬ (i = j) := by omega
  have hne : ¬ (c = i + (n - j)) := by omega
  have hle : i + (n - j) ≤ n := by omega
  have hle2 : (i : Int) + ((n - j : Nat) : Int) ≤ (n : Int) := by omega
  have hij2 : ((i : Int) == (j : Int)) = false := by simp; omega
  clear hcl hW1 hone hnl hh h5 hh1 hll hnews h3 h4 hlen hcur hj hz
  go_enter Tryz.func251, Tryz.ntmps251
  go_wp2_with fail
  go_region_law (refine step_append_within rfl (.tmp 22) (.tmp 25) 29 rfl 124 i0 6 Tryz.underlying29 hi0 hz1 g i c (by simp [Act.eval, Act.put]) A (n - j) (c - j) news (by simp [Act.eval, Act.put]) (unhide hH2) (unhide hsrc) (unhide hH1) (by omega) cur 124 (unhide hH3) (unhide hH5) ?_; rw [← unhide HW])
  have hcl2 : ∀ ty d, (Builtin.clear_ #[29] ty #[.slice (some ⟨g, (n - 1) * 6, none⟩) (n - (n - 1)) d]).run Tryz.prog W1 = .ok (.tuple #[]) (W1.setRow g (laid (laid cur.toList (i * 6) news) ((n - 1) * 6) zeroCs).toArray) := fun ty d => by
    rw [show n - (n - 1) = 1 by omega]; exact (unhide HCL) ty d
  go_wp2
  go_ret
  exact ⟨rfl, unhide R, unhide G⟩

end Go.Proofs.YtmomfkikogbdeaaGreatDoor

/- The contract of Insert of one coin into a row that the call has made. -/
namespace Go.Proofs.YtmomfkikogbdeaaGreatDoor
open Go.RowKit

theorem flatC_single (y : CV) : (flatC [y]).length = 6 := flatC_len [y]

/-- At the end, no room. -/
theorem insert_cell {w : World} {b : Nat} {X : List Value} {t : TypeId} (h : w.heap[b]? = some (.cells X.toArray t (0, 0))) (j : Nat) (u : Value) (hj : X[j]? = some u) : w.cell? ⟨b, j, none⟩ = some u := by
  simp only [World.cell?, h]
  simpa using hj

set_option maxRecDepth 10000 in
set_option maxHeartbeats 1600000 in
theorem insertCoin_endgrow (ao : Option Addr) (n c vb : Nat) (K : List CV) (y : CV) (w : World) (hn : n ≤ 4096) (hnc : n ≤ c) (hroom : c < n + 1) (hz : K.length = n) (hnone : ao = none → n = 0 ∧ c = 0)
    (hc : ∀ b, ao = some b → ∀ j u, (flatC K)[j]? = some u → w.cell? (b.add j) = some u) (hv : w.heap[vb]? = some (.cells (flatC [y]).toArray 124 (0, 0))) :
    Calls Tryz.prog 254 #[.slice ao n c, .int .i64 n, .slice (some ⟨vb, 0, none⟩) 1 1] w fun e w' => ∃ v', e = .returned v' ∧ w'.ownsRow w.heap.size 124 6 v' (n + 1) (flatC (K ++ [y])) ∧ w.grownBy w' none := by
  obtain ⟨i0, hi0, hz0, hz1, hz2⟩ := info_parts Tryz.infoCoin
  have HC := hide hc
  have HZ : Hid ((flatC K).length = n * 6) := by show _ = _; rw [flatC_len, hz]
  have HN := hide hnone
  have HV : Hid (∀ j u, (flatC [y])[j]? = some u → w.cell? ((⟨vb, 0, none⟩ : Addr).add j) = some u) := fun j u hj => by
    rw [Addr.add_lit, Nat.zero_add]; exact insert_cell hv j u hj
  have H1 : Hid ((flatC [y]).length = 1 * 6) := flatC_single y
  clear hc hz hnone hv
  go_enter Tryz.func254, Tryz.ntmps254
  go_wp2_with (at_builtin; refine wpList_append_grows _ rfl _ _ 29 rfl 124 i0 zeroC 6 64 Tryz.underlying29 hi0 hz0 hz1 hz2 rfl (by decide) ao n c (flatC K) rfl (unhide HN) (unhide HZ) (unhide HC) ⟨vb, 0, none⟩ 1 1 (flatC [y]) rfl (unhide H1) (unhide HV) (flatC_one [y]) hroom (by unfold maxLen; omega) (by omega) ?_; intro v2 w3 hown3 hgrow3)
  have HW : Hid (w3.ownsRow w.heap.size 124 6 v2 (n + 1) (flatC (K ++ [y]))) := by rw [flatC_append]; exact hown3
  have HG := hide hgrow3
  clear hown3 hgrow3
  go_wp2
  go_ret
  exact ⟨v2, rfl, unhide HW, unhide HG⟩

theorem run_append_within {P : Program} (w : World) (t ty e : TypeId) (i : TypeInfo) (size : Nat) (h1 : P.underlying t = some (.slice e)) (h2 : P.info? e = some i) (h4 : i.size = size)
    (b n cap : Nat) (ad : Addr) (m c : Nat) (news : List Value) (hn : news.length = m * size) (hc : ∀ j u, news[j]? = some u → w.cell? (ad.add j) = some u) (h1c : ∀ u ∈ news, u.oneCell' = true)
    (hroom : n + m ≤ cap) (cur : Array Value) (te : TypeId) (hrow : w.heap[b]? = some (.cells cur te (0, 0))) (hfit : n * size + news.length ≤ cur.size) :
    (Builtin.append_ #[t, t] ty #[.slice (some ⟨b, 0, none⟩) n cap, .slice (some ad) m c]).run P w = .ok (.slice (some ⟨b, 0, none⟩) (n + m) cap) (w.setRow b (laid cur.toList (n * size) news).toArray) := by
  subst h4
  have hfc := run_firstCells_some (P := P) w i.size m ad m c news hn hc
  have hst := run_storeCells_at P b (n * i.size) te news 0 cur w hrow (by simpa using hfit) h1c
  simp only [Nat.add_zero] at hst
  simp [Builtin.append_, run_underlying h1, sizeOf, typeInfo, h2, Builtin.lenOf, hroom, hfc, Addr.add_lit, hst, laid]

theorem ins_end (X Y : List Value) (n c : Nat) (h : n + 1 ≤ c) (hX : X.length = c * 6) (hY : Y.length = 6) : (laid X (n * 6) Y).take ((n + 1) * 6) = X.take (n * 6) ++ Y := by
  unfold laid
  rw [List.take_append_of_le_length (by simp; omega), List.take_of_length_le (by simp; omega)]

set_option maxRecDepth 10000 in
set_option maxHeartbeats 1600000 in
theorem insertCoin_end (base g n c vb : Nat) (K : List CV) (y : CV) (w : World) (hroom : n + 1 ≤ c) (hz : K.length = n) (h : w.ownsRow base 124 6 (.slice (some ⟨g, 0, none⟩) n c) n (flatC K)) (hv : w.heap[vb]? = some (.cells (flatC [y]).toArray 124 (0, 0))) :
    Calls Tryz.prog 254 #[.slice (some ⟨g, 0, none⟩) n c, .int .i64 n, .slice (some ⟨vb, 0, none⟩) 1 1] w fun e w' => e = .returned (.slice (some ⟨g, 0, none⟩) (n + 1) c) ∧ w'.ownsRow base 124 6 (.slice (some ⟨g, 0, none⟩) (n + 1) c) (n + 1) (flatC (K ++ [y])) ∧ w.grownBy w' (some g) := by
  obtain ⟨i0, hi0, hz0, hz1, hz2⟩ := info_parts Tryz.infoCoin
  obtain ⟨hlen, h | ⟨g', c', cur, hv', hbg, hh, h1, h2, h3, h4⟩⟩ := h
  · cases h.1
  simp only [Value.slice.injEq, Option.some.injEq, Addr.mk.injEq, and_true, true_and] at hv'
  obtain ⟨rfl, rfl⟩ := hv'
  unfold maxLen at h2
  have hcur : cur.toList.length = c * 6 := by simpa using h3
  have HR : Hid (∀ ty, (Builtin.append_ #[29, 29] ty #[.slice (some ⟨g, 0, none⟩) n c, .slice (some ⟨vb, 0, none⟩) 1 1]).run Tryz.prog w = .ok (.slice (some ⟨g, 0, none⟩) (n + 1) c) (w.setRow g (laid cur.toList (n * 6) (flatC [y])).toArray)) := fun ty =>
    run_append_within w 29 ty 124 i0 6 Tryz.underlying29 hi0 hz1 g n c ⟨vb, 0, none⟩ 1 1 (flatC [y]) (flatC_single y) (fun j u hj => by rw [Addr.add_lit, Nat.zero_add]; exact insert_cell hv j u hj) (flatC_one [y]) hroom cur 124 hh (by rw [flatC_single, h3]; omega)
  have R : Hid ((w.setRow g (laid cur.toList (n * 6) (flatC [y])).toArray).ownsRow base 124 6 (.slice (some ⟨g, 0, none⟩) (n + 1) c) (n + 1) (flatC (K ++ [y]))) := by
    refine ⟨by rw [flatC_len]; simp; omega, .inr ⟨g, c, (laid cur.toList (n * 6) (flatC [y])).toArray, rfl, hbg, setRow_heap _ g _ _ 124 (0, 0) hh, hroom, by unfold maxLen; omega, ?_, ?_⟩⟩
    · rw [List.size_toArray, laid_len _ _ _ (by rw [hcur, flatC_single]; omega), hcur]
    · show List.take _ (laid _ _ _) = _
      rw [ins_end _ _ n c hroom hcur (flatC_single y), h4, flatC_append]
  have G : Hid (w.grownBy (w.setRow g (laid cur.toList (n * 6) (flatC [y])).toArray) (some g)) :=
    ⟨rfl, rfl, rfl, by simp [World.setRow], fun k hk hne => setRow_other w g k _ (fun e => hne (by rw [e]))⟩
  clear hh h3 h4 hlen hcur hz hv
  go_enter Tryz.func254, Tryz.ntmps254
  go_wp2_with (at_builtin; refine wpList_append_known _ rfl _ _ 29 29 rfl _ _ rfl rfl ((unhide HR) _) ?_)
  go_wp2
  go_ret
  exact ⟨rfl, unhide R, unhide G⟩

end Go.Proofs.YtmomfkikogbdeaaGreatDoor
