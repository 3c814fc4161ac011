/- What Parse of blocks answers; transactions in a row that a call has made. -/
import Derived.Test.YthhlofipapfbnaaGreatDoorCoinCopyCToLockFlat
import Derived.Test.YthhlofipapfbnaaGreatDoorTxLineToBlkTextM
import Derived.Test.YthhlofipapfbnaaGreatDoorTxLinesCToBlkReward
import Derived.Test.YthhlofipapfbnaaGreatDoorCoinApplyBToBlkConM
namespace Go.Proofs.YthhlofipapfbnaaGreatDoor
open Go.RowKit

def cutN (s : ByteArray) : ByteArray := ⟨(Lib.cut s.data.toList [10]).1.toArray⟩
def resN (s : ByteArray) : ByteArray := ⟨(Lib.cut s.data.toList [10]).2.1.toArray⟩
def zeroBk : BlkD := (0, 0, 0, 0, [])
def prsGo : List TxD → List ByteArray → Int × List TxD
  | T, [] => (0, T)
  | T, p :: r => if pE p ≠ 0 then (pE p, []) else prsGo (T ++ [pT p]) r
theorem prsGo_at (T : List TxD) (ps : List ByteArray) (k : Nat) (h : k < ps.length) : prsGo T (ps.drop k) = if pE ps[k] ≠ 0 then (pE ps[k], []) else prsGo (T ++ [pT ps[k]]) (ps.drop (k + 1)) := by
  rw [List.drop_eq_getElem_cons h]; rfl
theorem prsGo_end (T : List TxD) (ps : List ByteArray) (k : Nat) (h : ps.length ≤ k) : prsGo T (ps.drop k) = (0, T) := by
  rw [List.drop_of_length_le h]; rfl
/-- What is wrong, and the block. -/
def prB (s : ByteArray) : Int × BlkD :=
  if 4000 < s.size then (2, zeroBk)
  else match rowOf (cutN s) blockB 4 with
    | none => (1, zeroBk)
    | some Z =>
      if (prsGo [] (pcs (resN s))).1 ≠ 0 then ((prsGo [] (pcs (resN s))).1, zeroBk)
      else if chkB (Z.getD 0 0, Z.getD 1 0, Z.getD 2 0, Z.getD 3 0, (prsGo [] (pcs (resN s))).2) ≠ 0 then (chkB (Z.getD 0 0, Z.getD 1 0, Z.getD 2 0, Z.getD 3 0, (prsGo [] (pcs (resN s))).2), zeroBk)
      else (0, (Z.getD 0 0, Z.getD 1 0, Z.getD 2 0, Z.getD 3 0, (prsGo [] (pcs (resN s))).2))

abbrev TxV := TxD × Value × Value
def txCells : List TxV → List Value
  | [] => []
  | x :: r => .int .i64 x.1.1 :: x.2.1 :: x.2.2 :: txCells r
theorem txCells_snoc (x : TxV) : ∀ K : List TxV, txCells (K ++ [x]) = txCells K ++ [.int .i64 x.1.1, x.2.1, x.2.2]
  | [] => rfl
  | y :: r => by simp only [List.cons_append, txCells, txCells_snoc x r]
theorem txCells_at : ∀ (K : List TxV) (i : Nat) (h : i < K.length), (txCells K)[i * 3]? = some (.int .i64 K[i].1.1) ∧ (txCells K)[i * 3 + 1]? = some K[i].2.1 ∧ (txCells K)[i * 3 + 2]? = some K[i].2.2
  | [], _, h => absurd h (by simp)
  | x :: r, 0, _ => ⟨rfl, rfl, rfl⟩
  | x :: r, i + 1, h => by
    have := txCells_at r i (by simpa using h)
    rw [show (i + 1) * 3 = i * 3 + 3 by omega]
    simpa [txCells] using this
/-- Transactions that the call has read, in a row of its own. -/
def TxsOwn (B : Nat) (w : World) (v : Value) (K : List TxV) : Prop := w.ownsRow B 78 3 v K.length (txCells K) ∧ ∀ x ∈ K, TxOwn B w x.2.1 x.2.2 x.1.2.1 x.1.2.2
theorem TxsOwn.txs {B : Nat} {w : World} {v : Value} {K : List TxV} (h : TxsOwn B w v K) : ∃ a c, v = .slice a K.length c ∧ TxsAt w a K.length (K.map (·.1)) ∧ SlOk a K.length c := by
  rcases h.1.2 with ⟨e, hn⟩ | ⟨g, cap, cur, e, hg, hh, h1, h2, h3, h4⟩
  · subst e
    have e : K = [] := List.length_eq_zero_iff.1 hn
    subst e
    exact ⟨none, 0, rfl, ⟨rfl, fun h => absurd h (by simp)⟩, slok_nil⟩
  · subst e
    refine ⟨_, cap, rfl, ⟨by simp, fun _ => ⟨g, 0, rfl, lt_of_block hh, fun i hi => ?_⟩⟩, h1, h2, fun e => by cases e⟩
    have hi' : i < K.length := by simpa using hi
    obtain ⟨c0, c1, c2⟩ := txCells_at K i hi'
    obtain ⟨ai, ci, ao, co, e1, e2, hI, hO, sI, sO⟩ := (h.2 _ (List.getElem_mem hi')).at
    have q : ∀ j, j < 3 → w.cell? ⟨g, 0 + i * 3 + j, none⟩ = (txCells K)[i * 3 + j]? := fun j hj => by
      rw [Nat.zero_add, World.ownsRow.cellAt h.1 _ (by omega)]
    rw [List.getElem_map]
    refine ⟨(q 0 (by omega)).trans c0, ⟨ai, _, ci, (q 1 (by omega)).trans (c1.trans (by rw [e1])), hI, sI⟩, ao, _, co, (q 2 (by omega)).trans (c2.trans (by rw [e2])), hO, sO⟩
theorem TxOwn.far2 {B : Nat} {w w' : World} {v1 v2 : Value} {I : List InD} {O : List OutD} (h : TxOwn B w v1 v2 I O) (hf : ∀ (k : Nat) (cs : Array Value) (t : TypeId), w.heap[k]? = some (.cells cs t (0, 0)) → t ≠ 78 → t ≠ 24 → w'.heap[k]? = w.heap[k]?) : TxOwn B w' v1 v2 I O := by
  obtain ⟨L1, L2, e1, e2, o1, o2, k1, k2⟩ := h
  exact ⟨L1, L2, e1, e2, own_type o1 (fun k cs hk => hf k cs _ hk (by decide) (by decide)), own_type o2 (fun k cs hk => hf k cs _ hk (by decide) (by decide)), fun x hx => own_type (k1 x hx) (fun k cs hk => hf k cs _ hk (by decide) (by decide)), fun x hx => own_type (k2 x hx) (fun k cs hk => hf k cs _ hk (by decide) (by decide))⟩
theorem TxOwn.one {B : Nat} {w : World} {v1 v2 : Value} {I : List InD} {O : List OutD} (h : TxOwn B w v1 v2 I O) : v1.oneCell' = true ∧ v2.oneCell' = true := by
  obtain ⟨ai, ci, ao, co, e1, e2, _⟩ := h.at
  rw [e1, e2]
  exact ⟨rfl, rfl⟩
/-- A block of another type than the row's is not the row's. -/
theorem own_other {w : World} {base : Nat} {e : TypeId} {size : Nat} {v : Value} {n : Nat} {xs : List Value} (h : w.ownsRow base e size v n xs) {k : Nat} {cs : Array Value} {t : TypeId} (hk : w.heap[k]? = some (.cells cs t (0, 0))) (ht : t ≠ e) : v.ownBlock ≠ some k := by
  intro e1
  obtain ⟨_, ⟨rfl, _⟩ | ⟨g, cap, cur, rfl, _, hh, _⟩⟩ := h
  · cases e1
  · have e2 : g = k := by injection e1
    subst e2
    rw [hh] at hk
    injection hk with hk
    injection hk with _ hk
    exact ht hk.symm

/-- Parse's answer. -/
def BlkIs (w w' : World) (e : Ending) (x : Int) (b : BlkD) : Prop := ∃ a n c, e = .returned (.tuple #[.agg #[.int .i64 b.1, .int .i64 b.2.1, .int .i64 b.2.2.1, .int .i64 b.2.2.2.1, .slice a n c], .int .i64 x]) ∧ TxsAt w' a n b.2.2.2.2 ∧ SlOk a n c ∧ Below w.heap.size w w'

end Go.Proofs.YthhlofipapfbnaaGreatDoor
