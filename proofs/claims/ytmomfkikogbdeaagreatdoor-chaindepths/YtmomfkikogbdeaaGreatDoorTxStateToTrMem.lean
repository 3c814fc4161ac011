/- What the reading of a transaction's lines builds: its box, its rows of ins and outs, their orders; told apart by their types. -/
import Derived.Test.YtmomfkikogbdeaaGreatDoorTxCheckBToBlkMem
import Derived.Test.YtmomfkikogbdeaaGreatDoorLockRead
import Derived.Test.YtmomfkikogbdeaaGreatDoorTxPartsToTxPrint
import Derived.Deep.AppendLies
import Derived.OwnWalk
import Derived.Test.YtmomfkikogbdeaaGreatDoorBlkNamesToBlkTurns
import Derived.Lib.IndexBytes
import Derived.Test.YtmomfkikogbdeaaGreatDoorCoinCopyBToChnKit
namespace Go.Proofs.YtmomfkikogbdeaaGreatDoor
open Go.RowKit

/-! What lines say. -/
/-! Rows of ins and outs, with the values of their orders. -/
def inCells : List (InD × Value) → List Value
  | [] => []
  | x :: r => .int .i64 x.1.1 :: .int .i64 x.1.2.1 :: x.2 :: inCells r
def outCells : List (OutD × Value) → List Value
  | [] => []
  | x :: r => .int .i64 x.1.1 :: x.2 :: outCells r
/-- A row stays where blocks of its type stay. -/
theorem own_type {w w' : World} {base : Nat} {e : TypeId} {size : Nat} {v : Value} {n : Nat} {xs : List Value} (h : w.ownsRow base e size v n xs) (hk : ∀ (k : Nat) (cs : Array Value), w.heap[k]? = some (.cells cs e (0, 0)) → w'.heap[k]? = w.heap[k]?) : w'.ownsRow base e size v n xs := by
  obtain ⟨hl, h0 | ⟨g, cap, cur, hv, hg, hh, r⟩⟩ := h
  · exact ⟨hl, .inl h0⟩
  · exact ⟨hl, .inr ⟨g, cap, cur, hv, hg, (hk g cur hh).trans hh, r⟩⟩

structure PL (w : World) (q p lb : Nat) (A : Array Value) (h : Int) (wr : World) (v1 v2 : Value) (L1 : List (InD × Value)) (L2 : List (OutD × Value)) : Prop where
  box : wr.heap[p]? = some (.cells #[.int .i64 h, v1, v2] 59 (0, 0))
  res : wr.heap[q]? = some (.cells #[.int .i64 0, .slice none 0 0, .slice none 0 0] 59 (0, 0))
  pq : p ≠ q
  lin : wr.heap[lb]? = some (.cells A 9 (0, 0))
  own1 : wr.ownsRow w.heap.size 119 3 v1 L1.length (inCells L1)
  own2 : wr.ownsRow w.heap.size 122 2 v2 L2.length (outCells L2)
  keys1 : ∀ x ∈ L1, wr.ownsRow w.heap.size 164 2 x.2 x.1.2.2.length (flat x.1.2.2)
  keys2 : ∀ x ∈ L2, wr.ownsRow w.heap.size 164 2 x.2 x.1.2.length (flat x.1.2)
  bel : Below w.heap.size w wr
  pge : w.heap.size ≤ p

theorem PL.later {w : World} {q p lb : Nat} {A : Array Value} {h : Int} {wr w' : World} {v1 v2 : Value} {L1 : List (InD × Value)} {L2 : List (OutD × Value)} (s : PL w q p lb A h wr v1 v2 L1 L2) (hb : Below wr.heap.size wr w') : PL w q p lb A h w' v1 v2 L1 L2 where
  box := (hb.block _ (lt_of_block s.box)).trans s.box
  res := (hb.block _ (lt_of_block s.res)).trans s.res
  pq := s.pq
  lin := (hb.block _ (lt_of_block s.lin)).trans s.lin
  own1 := own_keep s.own1 hb
  own2 := own_keep s.own2 hb
  keys1 := fun x hx => own_keep (s.keys1 x hx) hb
  keys2 := fun x hx => own_keep (s.keys2 x hx) hb
  bel := bel_on s.bel hb
  pge := s.pge

/-- What an append to a row leaves alone: all blocks of other types. -/
theorem grow_type {w w' : World} {base : Nat} {e : TypeId} {size : Nat} {v : Value} {n : Nat} {xs : List Value} (h : w.ownsRow base e size v n xs) (hg : w.grownBy w' v.ownBlock) (k : Nat) (cs : Array Value) (t : TypeId) (hk : w.heap[k]? = some (.cells cs t (0, 0))) (ht : t ≠ e) : w'.heap[k]? = w.heap[k]? := by
  refine hg.block k (lt_of_block hk) (fun e1 => ?_)
  obtain ⟨_, ⟨rfl, _⟩ | ⟨g, cap, cur, rfl, _, hh, _⟩⟩ := h
  · cases e1
  · have e2 : k = g := by injection e1
    subst e2
    rw [hk] at hh
    injection hh with hh
    injection hh with _ hh
    exact ht hh

theorem PL.alloc {w : World} {q p lb : Nat} {A : Array Value} {h : Int} {wr : World} {v1 v2 : Value} {L1 : List (InD × Value)} {L2 : List (OutD × Value)} (s : PL w q p lb A h wr v1 v2 L1 L2) (o : Obj) : PL w q p lb A h (wr.alloc o) v1 v2 L1 L2 := s.later (bel_new wr o)
theorem PL.drewN {w : World} {q p lb : Nat} {A : Array Value} {h : Int} {wr : World} {v1 v2 : Value} {L1 : List (InD × Value)} {L2 : List (OutD × Value)} (s : PL w q p lb A h wr v1 v2 L1 L2) (n : Nat) : PL w q p lb A h (wr.drewN n) v1 v2 L1 L2 :=
  s.later ⟨rfl, rfl, rfl, Nat.le_refl _, fun _ _ => rfl⟩

end Go.Proofs.YtmomfkikogbdeaaGreatDoor

/- Blocks that are right and unlike have unlike texts. -/
namespace Go.Proofs.YtmomfkikogbdeaaGreatDoor
open Go.RowKit

def hd1 (x : List UInt8) : Option UInt8 := x.head?
end Go.Proofs.YtmomfkikogbdeaaGreatDoor

/- Trees as plain data and in memory; what is wrong with one, paths, work, the best one, forks. -/
namespace Go.Proofs.YtmomfkikogbdeaaGreatDoor.Tr
open Go.RowKit

def IntsAt (w : World) (a : Option Addr) (len : Nat) (Z : List Int) : Prop :=
  Z.length = len ∧ (0 < len → ∃ b off, a = some ⟨b, off, none⟩ ∧ b < w.heap.size ∧ ∀ i (h : i < Z.length), w.cell? ⟨b, off + i, none⟩ = some (.int .i64 Z[i]))
theorem IntsAt.later {w w' : World} {a : Option Addr} {len : Nat} {Z : List Int} (h : IntsAt w a len Z) (hb : Below w.heap.size w w') : IntsAt w' a len Z := by
  refine ⟨h.1, fun h0 => ?_⟩
  obtain ⟨b, off, e, hl, hc⟩ := h.2 h0
  exact ⟨b, off, e, Nat.lt_of_lt_of_le hl hb.size, fun i hi => cell_later hb (hc i hi)⟩
theorem IntsAt.nil (w : World) (a : Option Addr) : IntsAt w a 0 [] := ⟨rfl, fun h => absurd h (by omega)⟩
theorem IntsAt.take {w : World} {a : Option Addr} {len : Nat} {l : List Int} (h : IntsAt w a len l) (k : Nat) (hk : k ≤ len) : IntsAt w a k (l.take k) := by
  have hl := h.1
  refine ⟨by rw [List.length_take]; omega, fun h0 => ?_⟩
  obtain ⟨b, off, e, hb, hc⟩ := h.2 (by omega)
  refine ⟨b, off, e, hb, fun i hi => ?_⟩
  rw [List.length_take] at hi
  rw [List.getElem_take]
  exact hc i (by omega)
theorem ints_of_own {w : World} {base : Nat} {v : Value} {n : Nat} {N : List Int} (h : w.ownsRow base 3 1 v n (N.map (Value.int .i64))) : ∃ a cap, v = .slice a n cap ∧ SlOk a n cap ∧ IntsAt w a n N := by
  have hl : N.length = n := by simpa using h.1
  rcases h.2 with ⟨rfl, rfl⟩ | ⟨g, cap, cur, rfl, hg, hh, h1, h2, h3, h4⟩
  · exact ⟨none, 0, rfl, ⟨Nat.le_refl _, Nat.zero_le _, fun _ => ⟨rfl, rfl⟩⟩, hl, fun h => absurd h (by omega)⟩
  · refine ⟨_, cap, rfl, ⟨h1, h2, fun e => by cases e⟩, hl, fun _ => ⟨g, 0, rfl, lt_of_block hh, fun i hi => ?_⟩⟩
    rw [Nat.zero_add, World.ownsRow.cellAt h _ (by omega)]
    simp [hi]

def BlkAt (w : World) (b o : Nat) (x : BlkD) : Prop :=
  w.cell? ⟨b, o, none⟩ = some (.int .i64 x.1) ∧ w.cell? ⟨b, o + 1, none⟩ = some (.int .i64 x.2.1) ∧ w.cell? ⟨b, o + 2, none⟩ = some (.int .i64 x.2.2.1) ∧ w.cell? ⟨b, o + 3, none⟩ = some (.int .i64 x.2.2.2.1) ∧
  ∃ a n c, w.cell? ⟨b, o + 4, none⟩ = some (.slice a n c) ∧ TxsAt w a n x.2.2.2.2 ∧ SlOk a n c
theorem BlkAt.kept : KeptR BlkAt := fun _ _ _ _ _ hb h => by
  obtain ⟨h1, h2, h3, h4, a, n, c, h5, h6, h7⟩ := h
  exact ⟨cell_later hb h1, cell_later hb h2, cell_later hb h3, cell_later hb h4, a, n, c, cell_later hb h5, h6.later hb, h7⟩
def BlksAt (w : World) (a : Option Addr) (len : Nat) (l : List BlkD) : Prop := RowsAt BlkAt 5 w a len l
theorem BlksAt.later {w w' : World} {a : Option Addr} {len : Nat} {l : List BlkD} (h : BlksAt w a len l) (hb : Below w.heap.size w w') : BlksAt w' a len l := RowsAt.later BlkAt.kept h hb

/-! Records. -/
theorem cells3 {w : World} {b o : Nat} {x y z : Value} (h0 : w.cell? ⟨b, o, none⟩ = some x) (h1 : w.cell? ⟨b, o + 1, none⟩ = some y) (h2 : w.cell? ⟨b, o + 2, none⟩ = some z) : CellsAt w b o [x, y, z] := by
  intro j u hj
  match j, hj with
  | 0, hj => cases hj; exact h0
  | 1, hj => cases hj; exact h1
  | 2, hj => cases hj; exact h2
  | j + 3, hj => simp at hj
theorem cells2 {w : World} {b o : Nat} {x y : Value} (h0 : w.cell? ⟨b, o, none⟩ = some x) (h1 : w.cell? ⟨b, o + 1, none⟩ = some y) : CellsAt w b o [x, y] := by
  intro j u hj
  match j, hj with
  | 0, hj => cases hj; exact h0
  | 1, hj => cases hj; exact h1
  | j + 2, hj => simp at hj
theorem cells5 {w : World} {b o : Nat} {x y z r s : Value} (h0 : w.cell? ⟨b, o, none⟩ = some x) (h1 : w.cell? ⟨b, o + 1, none⟩ = some y) (h2 : w.cell? ⟨b, o + 2, none⟩ = some z) (h3 : w.cell? ⟨b, o + 3, none⟩ = some r) (h4 : w.cell? ⟨b, o + 4, none⟩ = some s) : CellsAt w b o [x, y, z, r, s] := by
  intro j u hj
  match j, hj with
  | 0, hj => cases hj; exact h0
  | 1, hj => cases hj; exact h1
  | 2, hj => cases hj; exact h2
  | 3, hj => cases hj; exact h3
  | 4, hj => cases hj; exact h4
  | j + 5, hj => simp at hj

def inR : Rec InD where
  sz := 3
  C w cs x := ∃ a n c, cs = [.int .i64 x.1, .int .i64 x.2.1, .slice a n c] ∧ OpsAt w a n x.2.2 ∧ SlOk a n c
  R := InAt
  wide _ _ _ := by rintro ⟨a, n, c, rfl, _⟩; rfl
  one _ _ _ := by rintro ⟨a, n, c, rfl, _⟩ v hv; simp at hv; rcases hv with rfl | rfl | rfl <;> rfl
  kept _ _ _ _ hb := by rintro ⟨a, n, c, rfl, h1, h2⟩; exact ⟨a, n, c, rfl, h1.later hb, h2⟩
  rc _ _ _ _ := by rintro ⟨h1, h2, a, n, c, h3, h4, h5⟩; exact ⟨_, cells3 h1 h2 h3, a, n, c, rfl, h4, h5⟩
  cr _ _ _ _ _ h := by rintro ⟨a, n, c, rfl, h1, h2⟩; exact ⟨h 0 _ rfl, h 1 _ rfl, a, n, c, h 2 _ rfl, h1, h2⟩
def outR : Rec OutD where
  sz := 2
  C w cs x := ∃ a n c, cs = [.int .i64 x.1, .slice a n c] ∧ OpsAt w a n x.2 ∧ SlOk a n c
  R := OutAt
  wide _ _ _ := by rintro ⟨a, n, c, rfl, _⟩; rfl
  one _ _ _ := by rintro ⟨a, n, c, rfl, _⟩ v hv; simp at hv; rcases hv with rfl | rfl <;> rfl
  kept _ _ _ _ hb := by rintro ⟨a, n, c, rfl, h1, h2⟩; exact ⟨a, n, c, rfl, h1.later hb, h2⟩
  rc _ _ _ _ := by rintro ⟨h1, a, n, c, h3, h4, h5⟩; exact ⟨_, cells2 h1 h3, a, n, c, rfl, h4, h5⟩
  cr _ _ _ _ _ h := by rintro ⟨a, n, c, rfl, h1, h2⟩; exact ⟨h 0 _ rfl, a, n, c, h 1 _ rfl, h1, h2⟩
def txR : Rec TxD where
  sz := 3
  C w cs x := ∃ a n c a' n' c', cs = [.int .i64 x.1, .slice a n c, .slice a' n' c'] ∧ InsAt w a n x.2.1 ∧ SlOk a n c ∧ OutsAt w a' n' x.2.2 ∧ SlOk a' n' c'
  R := TxAt
  wide _ _ _ := by rintro ⟨a, n, c, a', n', c', rfl, _⟩; rfl
  one _ _ _ := by rintro ⟨a, n, c, a', n', c', rfl, _⟩ v hv; simp at hv; rcases hv with rfl | rfl | rfl <;> rfl
  kept _ _ _ _ hb := by rintro ⟨a, n, c, a', n', c', rfl, h1, h2, h3, h4⟩; exact ⟨a, n, c, a', n', c', rfl, h1.later hb, h2, h3.later hb, h4⟩
  rc _ _ _ _ := by rintro ⟨h1, ⟨a, n, c, h2, h3, h4⟩, a', n', c', h5, h6, h7⟩; exact ⟨_, cells3 h1 h2 h5, a, n, c, a', n', c', rfl, h3, h4, h6, h7⟩
  cr _ _ _ _ _ h := by rintro ⟨a, n, c, a', n', c', rfl, h1, h2, h3, h4⟩; exact ⟨h 0 _ rfl, ⟨a, n, c, h 1 _ rfl, h1, h2⟩, a', n', c', h 2 _ rfl, h3, h4⟩
def blkR : Rec BlkD where
  sz := 5
  C w cs x := ∃ a n c, cs = [.int .i64 x.1, .int .i64 x.2.1, .int .i64 x.2.2.1, .int .i64 x.2.2.2.1, .slice a n c] ∧ TxsAt w a n x.2.2.2.2 ∧ SlOk a n c
  R := BlkAt
  wide _ _ _ := by rintro ⟨a, n, c, rfl, _⟩; rfl
  one _ _ _ := by rintro ⟨a, n, c, rfl, _⟩ v hv; simp at hv; rcases hv with rfl | rfl | rfl | rfl | rfl <;> rfl
  kept _ _ _ _ hb := by rintro ⟨a, n, c, rfl, h1, h2⟩; exact ⟨a, n, c, rfl, h1.later hb, h2⟩
  rc _ _ _ _ := by rintro ⟨h1, h2, h3, h4, a, n, c, h5, h6, h7⟩; exact ⟨_, cells5 h1 h2 h3 h4 h5, a, n, c, rfl, h6, h7⟩
  cr _ _ _ _ _ h := by rintro ⟨a, n, c, rfl, h1, h2⟩; exact ⟨h 0 _ rfl, h 1 _ rfl, h 2 _ rfl, h 3 _ rfl, a, n, c, h 4 _ rfl, h1, h2⟩

/-! Trees: the names and the blocks. -/
def idxI (x : Int) : List Int → Nat → Int
  | [], _ => -1
  | a :: r, k => if x = a then k else idxI x r (k + 1)
theorem idxI_at (x : Int) (L : List Int) (k : Nat) (h : k < L.length) : idxI x (L.drop k) k = if x = L[k] then (k : Int) else idxI x (L.drop (k + 1)) (k + 1) := by
  rw [List.drop_eq_getElem_cons h]; rfl
theorem idxI_end (x : Int) (L : List Int) (k : Nat) (h : L.length ≤ k) : idxI x (L.drop k) k = -1 := by
  rw [List.drop_of_length_le h]; rfl
def zeroB : BlkD := (0, 0, 0, 0, [])
def fnd (x : Int) : List Int → List BlkD → BlkD
  | a :: N, b :: T => if x = a then b else fnd x N T
  | _, _ => zeroB
theorem idxI_fnd (x : Int) : ∀ (N : List Int) (T : List BlkD) (k : Nat), N.length = T.length → (idxI x N k = -1 ∧ x ∉ N ∧ fnd x N T = zeroB) ∨ ∃ i, ∃ h : i < T.length, idxI x N k = (k + i : Nat) ∧ x ∈ N ∧ fnd x N T = T[i]
  | [], _, _, _ => .inl ⟨rfl, by simp, by simp [fnd]⟩
  | a :: N, [], _, h => by cases h
  | a :: N, b :: T, k, h => by
    by_cases e : x = a
    · exact .inr ⟨0, by simp, by simp [idxI, e], by simp [e], by simp [fnd, e]⟩
    · rcases idxI_fnd x N T (k + 1) (by simpa using h) with ⟨h1, h2, h3⟩ | ⟨i, hi, h1, h2, h3⟩
      · exact .inl ⟨by simp [idxI, e, h1], by simp [e, h2], by simp [fnd, e, h3]⟩
      · exact .inr ⟨i + 1, by simpa using hi, by simp [idxI, e, h1]; omega, by simp [h2], by simp [fnd, e, h3]⟩
theorem idxI_has (x : Int) : ∀ (N : List Int) (k : Nat), decide (0 ≤ idxI x N k) = decide (x ∈ N)
  | [], _ => by simp [idxI]
  | a :: N, k => by
    by_cases e : x = a
    · simp [idxI, e]
    · simp [idxI, e, idxI_has x N (k + 1)]
def nextD (N : List Int) (T : List BlkD) (x : Int) (b : BlkD) : Int :=
  if (decide (1 ≤ x) && decide (x ≤ 120)) = false then 3 else if chkB b ≠ 0 then chkB b else if decide (x ∈ N) = true then 6
  else if b.1 ≠ 0 ∧ decide (b.1 ∈ N) = false then 5 else if b.2.1 ≠ (fnd b.1 N T).2.1 + 1 then 4 else 0
def chkGo (N : List Int) (T : List BlkD) : List Int → List BlkD → Int
  | x :: M, b :: U => if nextD N T x b ≠ 0 then nextD N T x b else chkGo (N ++ [x]) (T ++ [b]) M U
  | _, _ => 0
def chkTr (N : List Int) (T : List BlkD) : Int := if N.length ≠ T.length then 4 else if 24 < N.length then 2 else chkGo [] [] N T
theorem chkGo_at (N : List Int) (T : List BlkD) (k : Nat) (h : k < N.length) (h' : k < T.length) : chkGo (N.take k) (T.take k) (N.drop k) (T.drop k) =
    if nextD (N.take k) (T.take k) N[k] T[k] ≠ 0 then nextD (N.take k) (T.take k) N[k] T[k] else chkGo (N.take (k + 1)) (T.take (k + 1)) (N.drop (k + 1)) (T.drop (k + 1)) := by
  rw [List.drop_eq_getElem_cons h, List.drop_eq_getElem_cons h', chkGo, List.take_succ_eq_append_getElem h, List.take_succ_eq_append_getElem h']
theorem chkGo_end (N : List Int) (T : List BlkD) (k : Nat) (h : N.length ≤ k) : chkGo (N.take k) (T.take k) (N.drop k) (T.drop k) = 0 := by
  rw [List.drop_of_length_le h]; unfold chkGo; rfl

/-- Each block's head is right. -/
def HeadsOk (T : List BlkD) : Prop := ∀ b ∈ T, 1 ≤ b.2.1 ∧ b.2.1 ≤ 1000 ∧ 1 ≤ b.2.2.1 ∧ b.2.2.1 ≤ 1000
theorem chkB_head {b : BlkD} (h : chkB b = 0) : 1 ≤ b.2.1 ∧ b.2.1 ≤ 1000 ∧ 1 ≤ b.2.2.1 ∧ b.2.2.1 ≤ 1000 := by
  unfold chkB at h
  split at h
  · cases h
  · next q => simp [headOk] at q; omega
theorem fnd_mem (x : Int) : ∀ (N : List Int) (T : List BlkD), fnd x N T = zeroB ∨ fnd x N T ∈ T
  | [], _ => .inl (by simp [fnd])
  | _ :: _, [] => .inl (by simp [fnd])
  | a :: N, b :: T => by
    by_cases e : x = a
    · exact .inr (by simp [fnd, e])
    · rcases fnd_mem x N T with h | h
      · exact .inl (by simp [fnd, e, h])
      · exact .inr (by simp [fnd, e, h])
theorem fnd_ok {T : List BlkD} (h : HeadsOk T) (x : Int) (N : List Int) : 0 ≤ (fnd x N T).2.1 ∧ (fnd x N T).2.1 ≤ 1000 ∧ 0 ≤ (fnd x N T).2.2.1 ∧ (fnd x N T).2.2.1 ≤ 1000 := by
  rcases fnd_mem x N T with e | e
  · rw [e]; simp [zeroB]
  · have := h _ e; omega

/-- A block and what it stands on, so many. -/
def upD (N : List Int) (T : List BlkD) : Nat → Int → List Int
  | 0, _ => []
  | d + 1, x => upD N T d (fnd x N T).1 ++ [x]
theorem upD_len (N : List Int) (T : List BlkD) : ∀ (d : Nat) (x : Int), (upD N T d x).length = d
  | 0, _ => rfl
  | d + 1, x => by simp [upD, upD_len N T d]
def pthD (N : List Int) (T : List BlkD) (x : Int) : List Int := upD N T (fnd x N T).2.1.toNat x
def pathE (N : List Int) (T : List BlkD) (x : Int) : List Int × Int := if chkTr N T ≠ 0 then ([], chkTr N T) else if x ≠ 0 ∧ decide (x ∈ N) = false then ([], 5) else (pthD N T x, 0)
end Go.Proofs.YtmomfkikogbdeaaGreatDoor.Tr
