/- Trees as plain data and in memory; what is wrong with one, paths, work, the best one, forks. -/
import Derived.Test.YtklekpbladmjhaaBlkMem
namespace Go.Proofs.Ytklekpbladmjhaa
open Go.RowKit

def IntsAt (w : World) (a : Option Addr) (len : Nat) (Z : List Int) : Prop :=
  Z.length = len ∧ (0 < len → ∃ b off, a = some ⟨b, off, none⟩ ∧ b < w.heap.size ∧ ∀ i (h : i < Z.length), w.cell? ⟨b, off + i, none⟩ = some (.int .i64 Z[i]))
theorem IntsAt.later {w w' : World} {a : Option Addr} {len : Nat} {Z : List Int} (h : IntsAt w a len Z) (hb : Below w.heap.size w w') : IntsAt w' a len Z := by
  refine ⟨h.1, fun h0 => ?_⟩
  obtain ⟨b, off, e, hl, hc⟩ := h.2 h0
  exact ⟨b, off, e, Nat.lt_of_lt_of_le hl hb.size, fun i hi => cell_later hb (hc i hi)⟩
theorem IntsAt.nil (w : World) (a : Option Addr) : IntsAt w a 0 [] := ⟨rfl, fun h => absurd h (by omega)⟩
theorem IntsAt.take {w : World} {a : Option Addr} {len : Nat} {l : List Int} (h : IntsAt w a len l) (k : Nat) (hk : k ≤ len) : IntsAt w a k (l.take k) := by
  have hl := h.1
  refine ⟨by rw [List.length_take]; omega, fun h0 => ?_⟩
  obtain ⟨b, off, e, hb, hc⟩ := h.2 (by omega)
  refine ⟨b, off, e, hb, fun i hi => ?_⟩
  rw [List.length_take] at hi
  rw [List.getElem_take]
  exact hc i (by omega)
theorem ints_of_own {w : World} {base : Nat} {v : Value} {n : Nat} {N : List Int} (h : w.ownsRow base 3 1 v n (N.map (Value.int .i64))) : ∃ a cap, v = .slice a n cap ∧ SlOk a n cap ∧ IntsAt w a n N := by
  have hl : N.length = n := by simpa using h.1
  rcases h.2 with ⟨rfl, rfl⟩ | ⟨g, cap, cur, rfl, hg, hh, h1, h2, h3, h4⟩
  · exact ⟨none, 0, rfl, ⟨Nat.le_refl _, Nat.zero_le _, fun _ => ⟨rfl, rfl⟩⟩, hl, fun h => absurd h (by omega)⟩
  · refine ⟨_, cap, rfl, ⟨h1, h2, fun e => by cases e⟩, hl, fun _ => ⟨g, 0, rfl, lt_of_block hh, fun i hi => ?_⟩⟩
    rw [Nat.zero_add, World.ownsRow.cellAt h _ (by omega)]
    simp [hi]

def BlkAt (w : World) (b o : Nat) (x : BlkD) : Prop :=
  w.cell? ⟨b, o, none⟩ = some (.int .i64 x.1) ∧ w.cell? ⟨b, o + 1, none⟩ = some (.int .i64 x.2.1) ∧ w.cell? ⟨b, o + 2, none⟩ = some (.int .i64 x.2.2.1) ∧ w.cell? ⟨b, o + 3, none⟩ = some (.int .i64 x.2.2.2.1) ∧
  ∃ a n c, w.cell? ⟨b, o + 4, none⟩ = some (.slice a n c) ∧ TxsAt w a n x.2.2.2.2 ∧ SlOk a n c
theorem BlkAt.kept : KeptR BlkAt := fun _ _ _ _ _ hb h => by
  obtain ⟨h1, h2, h3, h4, a, n, c, h5, h6, h7⟩ := h
  exact ⟨cell_later hb h1, cell_later hb h2, cell_later hb h3, cell_later hb h4, a, n, c, cell_later hb h5, h6.later hb, h7⟩
def BlksAt (w : World) (a : Option Addr) (len : Nat) (l : List BlkD) : Prop := RowsAt BlkAt 5 w a len l
theorem BlksAt.later {w w' : World} {a : Option Addr} {len : Nat} {l : List BlkD} (h : BlksAt w a len l) (hb : Below w.heap.size w w') : BlksAt w' a len l := RowsAt.later BlkAt.kept h hb

/-! Records. -/
theorem cells3 {w : World} {b o : Nat} {x y z : Value} (h0 : w.cell? ⟨b, o, none⟩ = some x) (h1 : w.cell? ⟨b, o + 1, none⟩ = some y) (h2 : w.cell? ⟨b, o + 2, none⟩ = some z) : CellsAt w b o [x, y, z] := by
  intro j u hj
  match j, hj with
  | 0, hj => cases hj; exact h0
  | 1, hj => cases hj; exact h1
  | 2, hj => cases hj; exact h2
  | j + 3, hj => simp at hj
theorem cells2 {w : World} {b o : Nat} {x y : Value} (h0 : w.cell? ⟨b, o, none⟩ = some x) (h1 : w.cell? ⟨b, o + 1, none⟩ = some y) : CellsAt w b o [x, y] := by
  intro j u hj
  match j, hj with
  | 0, hj => cases hj; exact h0
  | 1, hj => cases hj; exact h1
  | j + 2, hj => simp at hj
theorem cells5 {w : World} {b o : Nat} {x y z r s : Value} (h0 : w.cell? ⟨b, o, none⟩ = some x) (h1 : w.cell? ⟨b, o + 1, none⟩ = some y) (h2 : w.cell? ⟨b, o + 2, none⟩ = some z) (h3 : w.cell? ⟨b, o + 3, none⟩ = some r) (h4 : w.cell? ⟨b, o + 4, none⟩ = some s) : CellsAt w b o [x, y, z, r, s] := by
  intro j u hj
  match j, hj with
  | 0, hj => cases hj; exact h0
  | 1, hj => cases hj; exact h1
  | 2, hj => cases hj; exact h2
  | 3, hj => cases hj; exact h3
  | 4, hj => cases hj; exact h4
  | j + 5, hj => simp at hj

def inR : Rec InD where
  sz := 3
  C w cs x := ∃ a n c, cs = [.int .i64 x.1, .int .i64 x.2.1, .slice a n c] ∧ OpsAt w a n x.2.2 ∧ SlOk a n c
  R := InAt
  wide _ _ _ := by rintro ⟨a, n, c, rfl, _⟩; rfl
  one _ _ _ := by rintro ⟨a, n, c, rfl, _⟩ v hv; simp at hv; rcases hv with rfl | rfl | rfl <;> rfl
  kept _ _ _ _ hb := by rintro ⟨a, n, c, rfl, h1, h2⟩; exact ⟨a, n, c, rfl, h1.later hb, h2⟩
  rc _ _ _ _ := by rintro ⟨h1, h2, a, n, c, h3, h4, h5⟩; exact ⟨_, cells3 h1 h2 h3, a, n, c, rfl, h4, h5⟩
  cr _ _ _ _ _ h := by rintro ⟨a, n, c, rfl, h1, h2⟩; exact ⟨h 0 _ rfl, h 1 _ rfl, a, n, c, h 2 _ rfl, h1, h2⟩
def outR : Rec OutD where
  sz := 2
  C w cs x := ∃ a n c, cs = [.int .i64 x.1, .slice a n c] ∧ OpsAt w a n x.2 ∧ SlOk a n c
  R := OutAt
  wide _ _ _ := by rintro ⟨a, n, c, rfl, _⟩; rfl
  one _ _ _ := by rintro ⟨a, n, c, rfl, _⟩ v hv; simp at hv; rcases hv with rfl | rfl <;> rfl
  kept _ _ _ _ hb := by rintro ⟨a, n, c, rfl, h1, h2⟩; exact ⟨a, n, c, rfl, h1.later hb, h2⟩
  rc _ _ _ _ := by rintro ⟨h1, a, n, c, h3, h4, h5⟩; exact ⟨_, cells2 h1 h3, a, n, c, rfl, h4, h5⟩
  cr _ _ _ _ _ h := by rintro ⟨a, n, c, rfl, h1, h2⟩; exact ⟨h 0 _ rfl, a, n, c, h 1 _ rfl, h1, h2⟩
def txR : Rec TxD where
  sz := 3
  C w cs x := ∃ a n c a' n' c', cs = [.int .i64 x.1, .slice a n c, .slice a' n' c'] ∧ InsAt w a n x.2.1 ∧ SlOk a n c ∧ OutsAt w a' n' x.2.2 ∧ SlOk a' n' c'
  R := TxAt
  wide _ _ _ := by rintro ⟨a, n, c, a', n', c', rfl, _⟩; rfl
  one _ _ _ := by rintro ⟨a, n, c, a', n', c', rfl, _⟩ v hv; simp at hv; rcases hv with rfl | rfl | rfl <;> rfl
  kept _ _ _ _ hb := by rintro ⟨a, n, c, a', n', c', rfl, h1, h2, h3, h4⟩; exact ⟨a, n, c, a', n', c', rfl, h1.later hb, h2, h3.later hb, h4⟩
  rc _ _ _ _ := by rintro ⟨h1, ⟨a, n, c, h2, h3, h4⟩, a', n', c', h5, h6, h7⟩; exact ⟨_, cells3 h1 h2 h5, a, n, c, a', n', c', rfl, h3, h4, h6, h7⟩
  cr _ _ _ _ _ h := by rintro ⟨a, n, c, a', n', c', rfl, h1, h2, h3, h4⟩; exact ⟨h 0 _ rfl, ⟨a, n, c, h 1 _ rfl, h1, h2⟩, a', n', c', h 2 _ rfl, h3, h4⟩
def blkR : Rec BlkD where
  sz := 5
  C w cs x := ∃ a n c, cs = [.int .i64 x.1, .int .i64 x.2.1, .int .i64 x.2.2.1, .int .i64 x.2.2.2.1, .slice a n c] ∧ TxsAt w a n x.2.2.2.2 ∧ SlOk a n c
  R := BlkAt
  wide _ _ _ := by rintro ⟨a, n, c, rfl, _⟩; rfl
  one _ _ _ := by rintro ⟨a, n, c, rfl, _⟩ v hv; simp at hv; rcases hv with rfl | rfl | rfl | rfl | rfl <;> rfl
  kept _ _ _ _ hb := by rintro ⟨a, n, c, rfl, h1, h2⟩; exact ⟨a, n, c, rfl, h1.later hb, h2⟩
  rc _ _ _ _ := by rintro ⟨h1, h2, h3, h4, a, n, c, h5, h6, h7⟩; exact ⟨_, cells5 h1 h2 h3 h4 h5, a, n, c, rfl, h6, h7⟩
  cr _ _ _ _ _ h := by rintro ⟨a, n, c, rfl, h1, h2⟩; exact ⟨h 0 _ rfl, h 1 _ rfl, h 2 _ rfl, h 3 _ rfl, a, n, c, h 4 _ rfl, h1, h2⟩

/-! Trees: the names and the blocks. -/
def idxI (x : Int) : List Int → Nat → Int
  | [], _ => -1
  | a :: r, k => if x = a then k else idxI x r (k + 1)
theorem idxI_at (x : Int) (L : List Int) (k : Nat) (h : k < L.length) : idxI x (L.drop k) k = if x = L[k] then (k : Int) else idxI x (L.drop (k + 1)) (k + 1) := by
  rw [List.drop_eq_getElem_cons h]; rfl
theorem idxI_end (x : Int) (L : List Int) (k : Nat) (h : L.length ≤ k) : idxI x (L.drop k) k = -1 := by
  rw [List.drop_of_length_le h]; rfl
def zeroB : BlkD := (0, 0, 0, 0, [])
def fnd (x : Int) : List Int → List BlkD → BlkD
  | a :: N, b :: T => if x = a then b else fnd x N T
  | _, _ => zeroB
theorem idxI_fnd (x : Int) : ∀ (N : List Int) (T : List BlkD) (k : Nat), N.length = T.length → (idxI x N k = -1 ∧ x ∉ N ∧ fnd x N T = zeroB) ∨ ∃ i, ∃ h : i < T.length, idxI x N k = (k + i : Nat) ∧ x ∈ N ∧ fnd x N T = T[i]
  | [], _, _, _ => .inl ⟨rfl, by simp, by simp [fnd]⟩
  | a :: N, [], _, h => by cases h
  | a :: N, b :: T, k, h => by
    by_cases e : x = a
    · exact .inr ⟨0, by simp, by simp [idxI, e], by simp [e], by simp [fnd, e]⟩
    · rcases idxI_fnd x N T (k + 1) (by simpa using h) with ⟨h1, h2, h3⟩ | ⟨i, hi, h1, h2, h3⟩
      · exact .inl ⟨by simp [idxI, e, h1], by simp [e, h2], by simp [fnd, e, h3]⟩
      · exact .inr ⟨i + 1, by simpa using hi, by simp [idxI, e, h1]; omega, by simp [h2], by simp [fnd, e, h3]⟩
theorem idxI_has (x : Int) : ∀ (N : List Int) (k : Nat), decide (0 ≤ idxI x N k) = decide (x ∈ N)
  | [], _ => by simp [idxI]
  | a :: N, k => by
    by_cases e : x = a
    · simp [idxI, e]
    · simp [idxI, e, idxI_has x N (k + 1)]
def nextD (N : List Int) (T : List BlkD) (x : Int) (b : BlkD) : Int :=
  if (decide (1 ≤ x) && decide (x ≤ 120)) = false then 3 else if chkB b ≠ 0 then chkB b else if decide (x ∈ N) = true then 6
  else if b.1 ≠ 0 ∧ decide (b.1 ∈ N) = false then 5 else if b.2.1 ≠ (fnd b.1 N T).2.1 + 1 then 4 else 0
def chkGo (N : List Int) (T : List BlkD) : List Int → List BlkD → Int
  | x :: M, b :: U => if nextD N T x b ≠ 0 then nextD N T x b else chkGo (N ++ [x]) (T ++ [b]) M U
  | _, _ => 0
def chkTr (N : List Int) (T : List BlkD) : Int := if N.length ≠ T.length then 4 else if 24 < N.length then 2 else chkGo [] [] N T
theorem chkGo_at (N : List Int) (T : List BlkD) (k : Nat) (h : k < N.length) (h' : k < T.length) : chkGo (N.take k) (T.take k) (N.drop k) (T.drop k) =
    if nextD (N.take k) (T.take k) N[k] T[k] ≠ 0 then nextD (N.take k) (T.take k) N[k] T[k] else chkGo (N.take (k + 1)) (T.take (k + 1)) (N.drop (k + 1)) (T.drop (k + 1)) := by
  rw [List.drop_eq_getElem_cons h, List.drop_eq_getElem_cons h', chkGo, List.take_succ_eq_append_getElem h, List.take_succ_eq_append_getElem h']
theorem chkGo_end (N : List Int) (T : List BlkD) (k : Nat) (h : N.length ≤ k) : chkGo (N.take k) (T.take k) (N.drop k) (T.drop k) = 0 := by
  rw [List.drop_of_length_le h]; unfold chkGo; rfl

/-- Each block's head is right. -/
def HeadsOk (T : List BlkD) : Prop := ∀ b ∈ T, 1 ≤ b.2.1 ∧ b.2.1 ≤ 1000 ∧ 1 ≤ b.2.2.1 ∧ b.2.2.1 ≤ 1000
theorem chkB_head {b : BlkD} (h : chkB b = 0) : 1 ≤ b.2.1 ∧ b.2.1 ≤ 1000 ∧ 1 ≤ b.2.2.1 ∧ b.2.2.1 ≤ 1000 := by
  unfold chkB at h
  split at h
  · cases h
  · next q => simp [headOk] at q; omega
theorem fnd_mem (x : Int) : ∀ (N : List Int) (T : List BlkD), fnd x N T = zeroB ∨ fnd x N T ∈ T
  | [], _ => .inl (by simp [fnd])
  | _ :: _, [] => .inl (by simp [fnd])
  | a :: N, b :: T => by
    by_cases e : x = a
    · exact .inr (by simp [fnd, e])
    · rcases fnd_mem x N T with h | h
      · exact .inl (by simp [fnd, e, h])
      · exact .inr (by simp [fnd, e, h])
theorem fnd_ok {T : List BlkD} (h : HeadsOk T) (x : Int) (N : List Int) : 0 ≤ (fnd x N T).2.1 ∧ (fnd x N T).2.1 ≤ 1000 ∧ 0 ≤ (fnd x N T).2.2.1 ∧ (fnd x N T).2.2.1 ≤ 1000 := by
  rcases fnd_mem x N T with e | e
  · rw [e]; simp [zeroB]
  · have := h _ e; omega

/-- A block and what it stands on, so many. -/
def upD (N : List Int) (T : List BlkD) : Nat → Int → List Int
  | 0, _ => []
  | d + 1, x => upD N T d (fnd x N T).1 ++ [x]
theorem upD_len (N : List Int) (T : List BlkD) : ∀ (d : Nat) (x : Int), (upD N T d x).length = d
  | 0, _ => rfl
  | d + 1, x => by simp [upD, upD_len N T d]
def pthD (N : List Int) (T : List BlkD) (x : Int) : List Int := upD N T (fnd x N T).2.1.toNat x
def wkGo (N : List Int) (T : List BlkD) (s : Int) : List Int → Int
  | [] => s
  | x :: P => wkGo N T (s + (fnd x N T).2.2.1) P
theorem wkGo_at (N : List Int) (T : List BlkD) (s : Int) (P : List Int) (k : Nat) (h : k < P.length) : wkGo N T s (P.drop k) = wkGo N T (s + (fnd P[k] N T).2.2.1) (P.drop (k + 1)) := by
  rw [List.drop_eq_getElem_cons h]; rfl
theorem wkGo_end (N : List Int) (T : List BlkD) (s : Int) (P : List Int) (k : Nat) (h : P.length ≤ k) : wkGo N T s (P.drop k) = s := by
  rw [List.drop_of_length_le h]; rfl
def wrkD (N : List Int) (T : List BlkD) (x : Int) : Int := wkGo N T 0 (pthD N T x)
def bstGo (N : List Int) (T : List BlkD) (b m : Int) : List Int → Int
  | [] => b
  | x :: P => if m < wrkD N T x ∨ wrkD N T x = m ∧ x < b then bstGo N T x (wrkD N T x) P else bstGo N T b m P
theorem bstGo_at (N : List Int) (T : List BlkD) (b m : Int) (P : List Int) (k : Nat) (h : k < P.length) : bstGo N T b m (P.drop k) = if m < wrkD N T P[k] ∨ wrkD N T P[k] = m ∧ P[k] < b then bstGo N T P[k] (wrkD N T P[k]) (P.drop (k + 1)) else bstGo N T b m (P.drop (k + 1)) := by
  rw [List.drop_eq_getElem_cons h]; rfl
theorem bstGo_end (N : List Int) (T : List BlkD) (b m : Int) (P : List Int) (k : Nat) (h : P.length ≤ k) : bstGo N T b m (P.drop k) = b := by
  rw [List.drop_of_length_le h]; rfl
def bstD (N : List Int) (T : List BlkD) : Int × Int := if chkTr N T ≠ 0 then (0, chkTr N T) else (bstGo N T 0 0 N, 0)
def pathE (N : List Int) (T : List BlkD) (x : Int) : List Int × Int := if chkTr N T ≠ 0 then ([], chkTr N T) else if x ≠ 0 ∧ decide (x ∈ N) = false then ([], 5) else (pthD N T x, 0)
def workE (N : List Int) (T : List BlkD) (x : Int) : Int × Int := if (pathE N T x).2 ≠ 0 then (0, (pathE N T x).2) else (wkGo N T 0 (pathE N T x).1, 0)
def frkGo (l : Int) : List Int → List Int → Int
  | a :: P, b :: Q => frkGo (if a = b then a else l) P Q
  | _, _ => l
theorem frkGo_at (l : Int) (P Q : List Int) (k : Nat) (h : k < P.length) (h' : k < Q.length) : frkGo l (P.drop k) (Q.drop k) = frkGo (if P[k] = Q[k] then P[k] else l) (P.drop (k + 1)) (Q.drop (k + 1)) := by
  rw [List.drop_eq_getElem_cons h, List.drop_eq_getElem_cons h']; rfl
theorem frkGo_end (l : Int) (P Q : List Int) (k : Nat) (h : P.length ≤ k ∨ Q.length ≤ k) : frkGo l (P.drop k) (Q.drop k) = l := by
  rcases h with h | h
  · rw [List.drop_of_length_le h]; unfold frkGo; rfl
  · rw [List.drop_of_length_le h]; cases P.drop k <;> rfl
def forkE (N : List Int) (T : List BlkD) (x y : Int) : Int × Int := if (pathE N T x).2 ≠ 0 then (0, (pathE N T x).2) else if (pathE N T y).2 ≠ 0 then (0, (pathE N T y).2) else (frkGo 0 (pathE N T x).1 (pathE N T y).1, 0)

end Go.Proofs.Ytklekpbladmjhaa
