/- Trees as plain data and in memory; what is wrong with one, paths, work, the best one, forks. -/
import Derived.Test.YtmomfkikogbdeaaGreatDoorTxCheckBToBlkMem
import Derived.Test.YtmomfkikogbdeaaGreatDoorCoinCopyBToChnKit
namespace Go.Proofs.YtmomfkikogbdeaaGreatDoor.Tr
open Go.RowKit

def IntsAt (w : World) (a : Option Addr) (len : Nat) (Z : List Int) : Prop :=
  Z.length = len ∧ (0 < len → ∃ b off, a = some ⟨b, off, none⟩ ∧ b < w.heap.size ∧ ∀ i (h : i < Z.length), w.cell? ⟨b, off + i, none⟩ = some (.int .i64 Z[i]))
theorem IntsAt.later {w w' : World} {a : Option Addr} {len : Nat} {Z : List Int} (h : IntsAt w a len Z) (hb : Below w.heap.size w w') : IntsAt w' a len Z := by
  refine ⟨h.1, fun h0 => ?_⟩
  obtain ⟨b, off, e, hl, hc⟩ := h.2 h0
  exact ⟨b, off, e, Nat.lt_of_lt_of_le hl hb.size, fun i hi => cell_later hb (hc i hi)⟩
theorem IntsAt.nil (w : World) (a : Option Addr) : IntsAt w a 0 [] := ⟨rfl, fun h => absurd h (by omega)⟩
theorem IntsAt.take {w : World} {a : Option Addr} {len : Nat} {l : List Int} (h : IntsAt w a len l) (k : Nat) (hk : k ≤ len) : IntsAt w a k (l.take k) := by
  have hl := h.1
  refine ⟨by rw [List.length_take]; omega, fun h0 => ?_⟩
  obtain ⟨b, off, e, hb, hc⟩ := h.2 (by omega)
  refine ⟨b, off, e, hb, fun i hi => ?_⟩
  rw [List.length_take] at hi
  rw [List.getElem_take]
  exact hc i (by omega)
theorem ints_of_own {w : World} {base : Nat} {v : Value} {n : Nat} {N : List Int} (h : w.ownsRow base 3 1 v n (N.map (Value.int .i64))) : ∃ a cap, v = .slice a n cap ∧ SlOk a n cap ∧ IntsAt w a n N := by
  have hl : N.length = n := by simpa using h.1
  rcases h.2 with ⟨rfl, rfl⟩ | ⟨g, cap, cur, rfl, hg, hh, h1, h2, h3, h4⟩
  · exact ⟨none, 0, rfl, ⟨Nat.le_refl _, Nat.zero_le _, fun _ => ⟨rfl, rfl⟩⟩, hl, fun h => absurd h (by omega)⟩
  · refine ⟨_, cap, rfl, ⟨h1, h2, fun e => by cases e⟩, hl, fun _ => ⟨g, 0, rfl, lt_of_block hh, fun i hi => ?_⟩⟩
    rw [Nat.zero_add, World.ownsRow.cellAt h _ (by omega)]
    simp [hi]

def BlkAt (w : World) (b o : Nat) (x : BlkD) : Prop :=
  w.cell? ⟨b, o, none⟩ = some (.int .i64 x.1) ∧ w.cell? ⟨b, o + 1, none⟩ = some (.int .i64 x.2.1) ∧ w.cell? ⟨b, o + 2, none⟩ = some (.int .i64 x.2.2.1) ∧ w.cell? ⟨b, o + 3, none⟩ = some (.int .i64 x.2.2.2.1) ∧
  ∃ a n c, w.cell? ⟨b, o + 4, none⟩ = some (.slice a n c) ∧ TxsAt w a n x.2.2.2.2 ∧ SlOk a n c
theorem BlkAt.kept : KeptR BlkAt := fun _ _ _ _ _ hb h => by
  obtain ⟨h1, h2, h3, h4, a, n, c, h5, h6, h7⟩ := h
  exact ⟨cell_later hb h1, cell_later hb h2, cell_later hb h3, cell_later hb h4, a, n, c, cell_later hb h5, h6.later hb, h7⟩
def BlksAt (w : World) (a : Option Addr) (len : Nat) (l : List BlkD) : Prop := RowsAt BlkAt 5 w a len l
theorem BlksAt.later {w w' : World} {a : Option Addr} {len : Nat} {l : List BlkD} (h : BlksAt w a len l) (hb : Below w.heap.size w w') : BlksAt w' a len l := RowsAt.later BlkAt.kept h hb

/-! Records. -/
theorem cells3 {w : World} {b o : Nat} {x y z : Value} (h0 : w.cell? ⟨b, o, none⟩ = some x) (h1 : w.cell? ⟨b, o + 1, none⟩ = some y) (h2 : w.cell? ⟨b, o + 2, none⟩ = some z) : CellsAt w b o [x, y, z] := by
  intro j u hj
  match j, hj with
  | 0, hj => cases hj; exact h0
  | 1, hj => cases hj; exact h1
  | 2, hj => cases hj; exact h2
  | j + 3, hj => simp at hj
theorem cells2 {w : World} {b o : Nat} {x y : Value} (h0 : w.cell? ⟨b, o, none⟩ = some x) (h1 : w.cell? ⟨b, o + 1, none⟩ = some y) : CellsAt w b o [x, y] := by
  intro j u hj
  match j, hj with
  | 0, hj => cases hj; exact h0
  | 1, hj => cases hj; exact h1
  | j + 2, hj => simp at hj
theorem cells5 {w : World} {b o : Nat} {x y z r s : Value} (h0 : w.cell? ⟨b, o, none⟩ = some x) (h1 : w.cell? ⟨b, o + 1, none⟩ = some y) (h2 : w.cell? ⟨b, o + 2, none⟩ = some z) (h3 : w.cell? ⟨b, o + 3, none⟩ = some r) (h4 : w.cell? ⟨b, o + 4, none⟩ = some s) : CellsAt w b o [x, y, z, r, s] := by
  intro j u hj
  match j, hj with
  | 0, hj => cases hj; exact h0
  | 1, hj => cases hj; exact h1
  | 2, hj => cases hj; exact h2
  | 3, hj => cases hj; exact h3
  | 4, hj => cases hj; exact h4
  | j + 5, hj => simp at hj

def inR : Rec InD where
  sz := 3
  C w cs x := ∃ a n c, cs = [.int .i64 x.1, .int .i64 x.2.1, .slice a n c] ∧ OpsAt w a n x.2.2 ∧ SlOk a n c
  R := InAt
  wide _ _ _ := by rintro ⟨a, n, c, rfl, _⟩; rfl
  one _ _ _ := by rintro ⟨a, n, c, rfl, _⟩ v hv; simp at hv; rcases hv with rfl | rfl | rfl <;> rfl
  kept _ _ _ _ hb := by rintro ⟨a, n, c, rfl, h1, h2⟩; exact ⟨a, n, c, rfl, h1.later hb, h2⟩
  rc _ _ _ _ := by rintro ⟨h1, h2, a, n, c, h3, h4, h5⟩; exact ⟨_, cells3 h1 h2 h3, a, n, c, rfl, h4, h5⟩
  cr _ _ _ _ _ h := by rintro ⟨a, n, c, rfl, h1, h2⟩; exact ⟨h 0 _ rfl, h 1 _ rfl, a, n, c, h 2 _ rfl, h1, h2⟩
def outR : Rec OutD where
  sz := 2
  C w cs x := ∃ a n c, cs = [.int .i64 x.1, .slice a n c] ∧ OpsAt w a n x.2 ∧ SlOk a n c
  R := OutAt
  wide _ _ _ := by rintro ⟨a, n, c, rfl, _⟩; rfl
  one _ _ _ := by rintro ⟨a, n, c, rfl, _⟩ v hv; simp at hv; rcases hv with rfl | rfl <;> rfl
  kept _ _ _ _ hb := by rintro ⟨a, n, c, rfl, h1, h2⟩; exact ⟨a, n, c, rfl, h1.later hb, h2⟩
  rc _ _ _ _ := by rintro ⟨h1, a, n, c, h3, h4, h5⟩; exact ⟨_, cells2 h1 h3, a, n, c, rfl, h4, h5⟩
  cr _ _ _ _ _ h := by rintro ⟨a, n, c, rfl, h1, h2⟩; exact ⟨h 0 _ rfl, a, n, c, h 1 _ rfl, h1, h2⟩
def txR : Rec TxD where
  sz := 3
  C w cs x := ∃ a n c a' n' c', cs = [.int .i64 x.1, .slice a n c, .slice a' n' c'] ∧ InsAt w a n x.2.1 ∧ SlOk a n c ∧ OutsAt w a' n' x.2.2 ∧ SlOk a' n' c'
  R := TxAt
  wide _ _ _ := by rintro ⟨a, n, c, a', n', c', rfl, _⟩; rfl
  one _ _ _ := by rintro ⟨a, n, c, a', n', c', rfl, _⟩ v hv; simp at hv; rcases hv with rfl | rfl | rfl <;> rfl
  kept _ _ _ _ hb := by rintro ⟨a, n, c, a', n', c', rfl, h1, h2, h3, h4⟩; exact ⟨a, n, c, a', n', c', rfl, h1.later hb, h2, h3.later hb, h4⟩
  rc _ _ _ _ := by rintro ⟨h1, ⟨a, n, c, h2, h3, h4⟩, a', n', c', h5, h6, h7⟩; exact ⟨_, cells3 h1 h2 h5, a, n, c, a', n', c', rfl, h3, h4, h6, h7⟩
  cr _ _ _ _ _ h := by rintro ⟨a, n, c, a', n', c', rfl, h1, h2, h3, h4⟩; exact ⟨h 0 _ rfl, ⟨a, n, c, h 1 _ rfl, h1, h2⟩, a', n', c', h 2 _ rfl, h3, h4⟩
def blkR : Rec BlkD where
  sz := 5
  C w cs x := ∃ a n c, cs = [.int .i64 x.1, .int .i64 x.2.1, .int .i64 x.2.2.1, .int .i64 x.2.2.2.1, .slice a n c] ∧ TxsAt w a n x.2.2.2.2 ∧ SlOk a n c
  R := BlkAt
  wide _ _ _ := by rintro ⟨a, n, c, rfl, _⟩; rfl
  one _ _ _ := by rintro ⟨a, n, c, rfl, _⟩ v hv; simp at hv; rcases hv with rfl | rfl | rfl | rfl | rfl <;> rfl
  kept _ _ _ _ hb := by rintro ⟨a, n, c, rfl, h1, h2⟩; exact ⟨a, n, c, rfl, h1.later hb, h2⟩
  rc _ _ _ _ := by rintro ⟨h1, h2, h3, h4, a, n, c, h5, h6, h7⟩; exact ⟨_, cells5 h1 h2 h3 h4 h5, a, n, c, rfl, h6, h7⟩
  cr _ _ _ _ _ h := by rintro ⟨a, n, c, rfl, h1, h2⟩; exact ⟨h 0 _ rfl, h 1 _ rfl, h 2 _ rfl, h 3 _ rfl, a, n, c, h 4 _ rfl, h1, h2⟩

/-! Trees: the names and the blocks. -/
def idxI (x : Int) : List Int → Nat → Int
  | [], _ => -1
  | a :: r, k => if x = a then k else idxI x r (k + 1)
theorem idxI_at (x : Int) (L : List Int) (k : Nat) (h : k < L.length) : idxI x (L.drop k) k = if x = L[k] then (k : Int) else idxI x (L.drop (k + 1)) (k + 1) := by
  rw [List.drop_eq_getElem_cons h]; rfl
theorem idxI_end (x : Int) (L : List Int) (k : Nat) (h : L.length ≤ k) : idxI x (L.drop k) k = -1 := by
  rw [List.drop_of_length_le h]; rfl
def zeroB : BlkD := (0, 0, 0, 0, [])
def fnd (x : Int) : List Int → List BlkD → BlkD
  | a :: N, b :: T => if x = a then b else fnd x N T
  | _, _ => zeroB
theorem idxI_fnd (x : Int) : ∀ (N : List Int) (T : List BlkD) (k : Nat), N.length = T.length → (idxI x N k = -1 ∧ x ∉ N ∧ fnd x N T = zeroB) ∨ ∃ i, ∃ h : i < T.length, idxI x N k = (k + i : Nat) ∧ x ∈ N ∧ fnd x N T = T[i]
  | [], _, _, _ => .inl ⟨rfl, by simp, by simp [fnd]⟩
  | a :: N, [], _, h => by cases h
  | a :: N, b :: T, k, h => by
    by_cases e : x = a
    · exact .inr ⟨0, by simp, by simp [idxI, e], by simp [e], by simp [fnd, e]⟩
    · rcases idxI_fnd x N T (k + 1) (by simpa using h) with ⟨h1, h2, h3⟩ | ⟨i, hi, h1, h2, h3⟩
      · exact .inl ⟨by simp [idxI, e, h1], by simp [e, h2], by simp [fnd, e, h3]⟩
      · exact .inr ⟨i + 1, by simpa using hi, by simp [idxI, e, h1]; omega, by simp [h2], by simp [fnd, e, h3]⟩
theorem idxI_has (x : Int) : ∀ (N : List Int) (k : Nat), decide (0 ≤ idxI x N k) = decide (x ∈ N)
  | [], _ => by simp [idxI]
  | a :: N, k => by
    by_cases e : x = a
    · simp [idxI, e]
    · simp [idxI, e, idxI_has x N (k + 1)]
def nextD (N : List Int) (T : List BlkD) (x : Int) (b : BlkD) : Int :=
  if (decide (1 ≤ x) && decide (x ≤ 120)) = false then 3 else if chkB b ≠ 0 then chkB b else if decide (x ∈ N) = true then 6
  else if b.1 ≠ 0 ∧ decide (b.1 ∈ N) = false then 5 else if b.2.1 ≠ (fnd b.1 N T).2.1 + 1 then 4 else 0
def chkGo (N : List Int) (T : List BlkD) : List Int → List BlkD → Int
  | x :: M, b :: U => if nextD N T x b ≠ 0 then nextD N T x b else chkGo (N ++ [x]) (T ++ [b]) M U
  | _, _ => 0
def chkTr (N : List Int) (T : List BlkD) : Int := if N.length ≠ T.length then 4 else if 24 < N.length then 2 else chkGo [] [] N T
theorem chkGo_at (N : List Int) (T : List BlkD) (k : Nat) (h : k < N.length) (h' : k < T.length) : chkGo (N.take k) (T.take k) (N.drop k) (T.drop k) =
    if nextD (N.take k) (T.take k) N[k] T[k] ≠ 0 then nextD (N.take k) (T.take k) N[k] T[k] else chkGo (N.take (k + 1)) (T.take (k + 1)) (N.drop (k + 1)) (T.drop (k + 1)) := by
  rw [List.drop_eq_getElem_cons h, List.drop_eq_getElem_cons h', chkGo, List.take_succ_eq_append_getElem h, List.take_succ_eq_append_getElem h']
theorem chkGo_end (N : List Int) (T : List BlkD) (k : Nat) (h : N.length ≤ k) : chkGo (N.take k) (T.take k) (N.drop k) (T.drop k) = 0 := by
  rw [List.drop_of_length_le h]; unfold chkGo; rfl

/-- Each block's head is right. -/
def HeadsOk (T : List BlkD) : Prop := ∀ b ∈ T, 1 ≤ b.2.1 ∧ b.2.1 ≤ 1000 ∧ 1 ≤ b.2.2.1 ∧ b.2.2.1 ≤ 1000
theorem chkB_head {b : BlkD} (h : chkB b = 0) : 1 ≤ b.2.1 ∧ b.2.1 ≤ 1000 ∧ 1 ≤ b.2.2.1 ∧ b.2.2.1 ≤ 1000 := by
  unfold chkB at h
  split at h
  · cases h
  · next q => simp [headOk] at q; omega
theorem fnd_mem (x : Int) : ∀ (N : List Int) (T : List BlkD), fnd x N T = zeroB ∨ fnd x N T ∈ T
  | [], _ => .inl (by simp [fnd])
  | _ :: _, [] => .inl (by simp [fnd])
  | a :: N, b :: T => by
    by_cases e : x = a
    · exact .inr (by simp [fnd, e])
    · rcases fnd_mem x N T with h | h
      · exact .inl (by simp [fnd, e, h])
      · exact .inr (by simp [fnd, e, h])
theorem fnd_ok {T : List BlkD} (h : HeadsOk T) (x : Int) (N : List Int) : 0 ≤ (fnd x N T).2.1 ∧ (fnd x N T).2.1 ≤ 1000 ∧ 0 ≤ (fnd x N T).2.2.1 ∧ (fnd x N T).2.2.1 ≤ 1000 := by
  rcases fnd_mem x N T with e | e
  · rw [e]; simp [zeroB]
  · have := h _ e; omega

/-- A block and what it stands on, so many. -/
def upD (N : List Int) (T : List BlkD) : Nat → Int → List Int
  | 0, _ => []
  | d + 1, x => upD N T d (fnd x N T).1 ++ [x]
theorem upD_len (N : List Int) (T : List BlkD) : ∀ (d : Nat) (x : Int), (upD N T d x).length = d
  | 0, _ => rfl
  | d + 1, x => by simp [upD, upD_len N T d]
def pthD (N : List Int) (T : List BlkD) (x : Int) : List Int := upD N T (fnd x N T).2.1.toNat x
def pathE (N : List Int) (T : List BlkD) (x : Int) : List Int × Int := if chkTr N T ≠ 0 then ([], chkTr N T) else if x ≠ 0 ∧ decide (x ∈ N) = false then ([], 5) else (pthD N T x, 0)
end Go.Proofs.YtmomfkikogbdeaaGreatDoor.Tr

/- Contracts of slices.Clone at ints, at orders and at records whose slices lead on. -/
namespace Go.Proofs.YtmomfkikogbdeaaGreatDoor.Tr
open Go.RowKit

theorem Tryz.infoIntC : (Tryz.prog.info? 3).map (fun i => (i.zero, i.size, i.bytes)) = some (some (.int .i64 0), 1, 8) := by kernel_rfl

set_option maxRecDepth 10000 in
set_option maxHeartbeats 800000 in
theorem cloneInt_nil (w : World) : Calls Tryz.prog 47 #[.slice none 0 0] w fun e w' => e = .returned (.slice none 0 0) ∧ w = w' := by
  have he := fun w => Lib.run_eql_slice_nil (P := Tryz.prog) w 25 3 none 0 0 0 0 Tryz.underlying25
  go_enter Tryz.func47, Tryz.ntmps47
  go_wp2
  go_ret
  exact ⟨rfl, rfl⟩

set_option maxRecDepth 10000 in
set_option maxHeartbeats 1600000 in
theorem cloneInt_some (ad : Addr) (n c : Nat) (F : List Value) (w : World) (hn : n ≤ 4096) (hz : F.length = n * 1) (h1 : ∀ u ∈ F, u.oneCell' = true) (hc : ∀ j u, F[j]? = some u → w.cell? (ad.add j) = some u) :
    Calls Tryz.prog 47 #[.slice (some ad) n c] w fun e w' => ∃ v, e = .returned v ∧ w'.ownsRow w.heap.size 3 1 v n F ∧ Below w.heap.size w w' := by
  obtain ⟨i0, hi, hz0, hz1, hz2⟩ := info_parts Tryz.infoIntC
  have hb := bel_new w (.cells #[] 3)
  have HC : Hid (∀ j u, F[j]? = some u → (w.alloc (.cells #[] 3)).cell? (ad.add j) = some u) := fun j u hj => cell_later hb (hc j u hj)
  have HB := hide hb
  have HZ := hide hz
  have H1 := hide h1
  have HO := hide (own_nil w 3 1)
  have he := fun w => Lib.run_eql_slice_nil (P := Tryz.prog) w 25 3 (some ad) n c 0 0 Tryz.underlying25
  clear hc hb hz h1
  go_enter Tryz.func47, Tryz.ntmps47
  go_wp2_with (at_builtin; refine wpList_append_own _ rfl _ _ 25 rfl w.heap.size 3 i0 (.int .i64 0) 1 8 Tryz.underlying25 hi hz0 hz1 hz2 rfl (by decide) _ _ _ rfl (unhide HO) ad n c F rfl (unhide HZ) (unhide HC) (unhide H1) (by unfold maxLen; omega) (by omega) (unhide HB).size ?_; intro v2 w3 hown3 hgrow3 _)
  have HW : Hid (w3.ownsRow w.heap.size 3 1 v2 n F) := by show World.ownsRow _ _ _ _ _ _ _; simpa using hown3
  have HB3 := hide ((unhide HB).grown hgrow3 (unhide HB).size (own_lo (unhide HO)))
  clear hown3 hgrow3
  go_wp2
  go_ret
  exact ⟨v2, rfl, unhide HW, unhide HB3⟩

theorem cloneInt_any (a : Option Addr) (n c : Nat) (L : List Int) (w : World) (hn : n ≤ 4096) (h : IntsAt w a n L) (hs : SlOk a n c) :
    Calls Tryz.prog 47 #[.slice a n c] w fun e w' => ∃ v, e = .returned v ∧ w'.ownsRow w.heap.size 3 1 v n (L.map (Value.int .i64)) ∧ Below w.heap.size w w' := by
  obtain ⟨hl, hc⟩ := h
  cases a with
  | none =>
    obtain ⟨rfl, rfl⟩ := hs.2.2 rfl
    have e : L = [] := List.length_eq_zero_iff.1 hl
    subst e
    exact (cloneInt_nil w).mono fun e w' ⟨x, y⟩ => ⟨_, x, y ▸ World.ownsRow_nil _ _ _ _, y ▸ Below.refl _ _⟩
  | some ad =>
    refine (cloneInt_some ad n c (L.map (Value.int .i64)) w hn (by simp [hl]) (ints_oneCell _ _) (fun j u hj => ?_))
    have hjl : j < L.length := by have := (List.getElem?_eq_some_iff.1 hj).1; simpa using this
    obtain ⟨b, off, e, _, hcell⟩ := hc (by omega)
    cases e
    rw [Addr.add_lit, hcell j hjl]
    simpa [hjl] using hj

set_option maxRecDepth 10000 in
set_option maxHeartbeats 1600000 in
theorem cloneOp_some (ad : Addr) (n c : Nat) (F : List Value) (w : World) (hn : n ≤ 4096) (hz : F.length = n * 2) (h1 : ∀ u ∈ F, u.oneCell' = true) (hc : ∀ j u, F[j]? = some u → w.cell? (ad.add j) = some u) :
    Calls Tryz.prog 150 #[.slice (some ad) n c] w fun e w' => ∃ v, e = .returned v ∧ w'.ownsRow w.heap.size 164 2 v n F ∧ Below w.heap.size w w' := by
  obtain ⟨i0, hi, hz0, hz1, hz2⟩ := info_parts Tryz.infoOpC
  have hb := bel_new w (.cells #[] 164)
  have HC : Hid (∀ j u, F[j]? = some u → (w.alloc (.cells #[] 164)).cell? (ad.add j) = some u) := fun j u hj => cell_later hb (hc j u hj)
  have HB := hide hb
  have HZ := hide hz
  have H1 := hide h1
  have HO := hide (own_nil w 164 2)
  have he := fun w => Lib.run_eql_slice_nil (P := Tryz.prog) w 48 164 (some ad) n c 0 0 Tryz.underlying48
  clear hc hb hz h1
  go_enter Tryz.func150, Tryz.ntmps150
  go_wp2_with (at_builtin; refine wpList_append_own _ rfl _ _ 48 rfl w.heap.size 164 i0 (.agg #[.int .i64 0, .int .i64 0]) 2 16 Tryz.underlying48 hi hz0 hz1 hz2 rfl (by decide) _ _ _ rfl (unhide HO) ad n c F rfl (unhide HZ) (unhide HC) (unhide H1) (by unfold maxLen; omega) (by omega) (unhide HB).size ?_; intro v2 w3 hown3 hgrow3 _)
  have HW : Hid (w3.ownsRow w.heap.size 164 2 v2 n F) := by show World.ownsRow _ _ _ _ _ _ _; simpa using hown3
  have HB3 := hide ((unhide HB).grown hgrow3 (unhide HB).size (own_lo (unhide HO)))
  clear hown3 hgrow3
  go_wp2
  go_ret
  exact ⟨v2, rfl, unhide HW, unhide HB3⟩

theorem ops_own {w : World} {base : Nat} {v : Value} {n : Nat} {l : List (Int × Int)} (h : w.ownsRow base 164 2 v n (flatO l)) : ∃ a c, v = .slice a n c ∧ OpsAt w a n l ∧ SlOk a n c := by
  have hl : l.length = n := by have := h.1; rw [flatO_len] at this; omega
  rcases h.2 with ⟨rfl, rfl⟩ | ⟨g, cap, cur, rfl, hg, hh, h1, h2, h3, h4⟩
  · exact ⟨none, 0, rfl, ⟨hl, fun h => absurd h (by omega)⟩, ⟨Nat.le_refl _, Nat.zero_le _, fun _ => ⟨rfl, rfl⟩⟩⟩
  · refine ⟨_, cap, rfl, ⟨hl, fun _ => ⟨g, 0, rfl, fun i hi => ?_⟩⟩, ⟨h1, h2, fun e => by cases e⟩⟩
    obtain ⟨f0, f1⟩ := flatO_at l i (by omega)
    rw [Nat.zero_add, World.ownsRow.cellAt h _ (by omega), World.ownsRow.cellAt h _ (by omega)]
    exact ⟨f0, f1⟩
/-- A copy of orders: it lies in blocks of its own. -/
theorem cloneOp_any (a : Option Addr) (n c : Nat) (l : List (Int × Int)) (w : World) (hn : n ≤ 4096) (h : OpsAt w a n l) (hs : SlOk a n c) :
    Calls Tryz.prog 150 #[.slice a n c] w fun e w' => ∃ a' c', e = .returned (.slice a' n c') ∧ Fresh w.heap.size w' (fun w2 => OpsAt w2 a' n l ∧ SlOk a' n c') ∧ Below w.heap.size w w' := by
  obtain ⟨hl, hc⟩ := h
  cases a with
  | none =>
    obtain ⟨rfl, rfl⟩ := hs.2.2 rfl
    exact (cloneOp_nil w).mono fun e w' ⟨x, y⟩ => ⟨none, 0, x, fun _ _ => ⟨⟨hl, fun h => absurd h (by omega)⟩, hs⟩, y ▸ Below.refl _ _⟩
  | some ad =>
    have hc2 : ∀ j u, (flatO l)[j]? = some u → w.cell? (ad.add j) = some u := fun j u hj => by
      have hjl : j < l.length * 2 := by rw [← flatO_len]; exact (List.getElem?_eq_some_iff.1 hj).1
      obtain ⟨b, off, e, hcell⟩ := hc (by omega)
      cases e
      rw [Addr.add_lit]
      exact flatO_cells hl hcell j u hj
    refine (cloneOp_some ad n c (flatO l) w hn (by rw [flatO_len, hl]) (flatO_one l) hc2).mono ?_
    rintro e w' ⟨v, rfl, x, y⟩
    obtain ⟨a', c', rfl, h1, h2⟩ := ops_own x
    refine ⟨a', c', rfl, fun w2 g2 => ?_, y⟩
    have x2 := g2.own x (fun k hk => by have := (x.lt k hk).1; omega)
    obtain ⟨a2, c2, e, h3, h4⟩ := ops_own x2
    cases e
    exact ⟨h3, h4⟩

theorem Tryz.infoInC : (Tryz.prog.info? 119).map (fun i => (i.zero, i.size, i.bytes)) = some (some (.agg #[.int .i64 0, .int .i64 0, .slice none 0 0]), 3, 40) := by kernel_rfl

set_option maxRecDepth 10000 in
set_option maxHeartbeats 800000 in
theorem cloneIn_nil (w : World) : Calls Tryz.prog 159 #[.slice none 0 0] w fun e w' => e = .returned (.slice none 0 0) ∧ w = w' := by
  have he := fun w => Lib.run_eql_slice_nil (P := Tryz.prog) w 56 119 none 0 0 0 0 Tryz.underlying56
  go_enter Tryz.func159, Tryz.ntmps159
  go_wp2
  go_ret
  exact ⟨rfl, rfl⟩

set_option maxRecDepth 10000 in
set_option maxHeartbeats 1600000 in
theorem cloneIn_some (ad : Addr) (n c : Nat) (F : List Value) (w : World) (hn : n ≤ 4096) (hz : F.length = n * 3) (h1 : ∀ u ∈ F, u.oneCell' = true) (hc : ∀ j u, F[j]? = some u → w.cell? (ad.add j) = some u) :
    Calls Tryz.prog 159 #[.slice (some ad) n c] w fun e w' => ∃ v, e = .returned v ∧ w'.ownsRow w.heap.size 119 3 v n F ∧ Below w.heap.size w w' := by
  obtain ⟨i0, hi, hz0, hz1, hz2⟩ := info_parts Tryz.infoInC
  have hb := bel_new w (.cells #[] 119)
  have HC : Hid (∀ j u, F[j]? = some u → (w.alloc (.cells #[] 119)).cell? (ad.add j) = some u) := fun j u hj => cell_later hb (hc j u hj)
  have HB := hide hb
  have HZ := hide hz
  have H1 := hide h1
  have HO := hide (own_nil w 119 3)
  have he := fun w => Lib.run_eql_slice_nil (P := Tryz.prog) w 56 119 (some ad) n c 0 0 Tryz.underlying56
  clear hc hb hz h1
  go_enter Tryz.func159, Tryz.ntmps159
  go_wp2_with (at_builtin; refine wpList_append_own _ rfl _ _ 56 rfl w.heap.size 119 i0 (.agg #[.int .i64 0, .int .i64 0, .slice none 0 0]) 3 40 Tryz.underlying56 hi hz0 hz1 hz2 rfl (by decide) _ _ _ rfl (unhide HO) ad n c F rfl (unhide HZ) (unhide HC) (unhide H1) (by unfold maxLen; omega) (by omega) (unhide HB).size ?_; intro v2 w3 hown3 hgrow3 _)
  have HW : Hid (w3.ownsRow w.heap.size 119 3 v2 n F) := by show World.ownsRow _ _ _ _ _ _ _; simpa using hown3
  have HB3 := hide ((unhide HB).grown hgrow3 (unhide HB).size (own_lo (unhide HO)))
  clear hown3 hgrow3
  go_wp2
  go_ret
  exact ⟨v2, rfl, unhide HW, unhide HB3⟩

theorem cloneIn_any (a : Option Addr) (n c : Nat) (L : List InD) (w0 w : World) (hn : n ≤ 4096) (h : RowsAt inR.R 3 w0 a n L) (hb : Below w0.heap.size w0 w) (hs : SlOk a n c) :
    Calls Tryz.prog 159 #[.slice a n c] w fun e w' => ∃ v, ∃ K : List (List Value), e = .returned v ∧ AllC inR w0 K L ∧ w'.ownsRow w.heap.size 119 3 v n K.flatten ∧ Below w.heap.size w w' := by
  obtain ⟨hl, hc⟩ := h
  cases a with
  | none =>
    obtain ⟨rfl, rfl⟩ := hs.2.2 rfl
    have e : L = [] := List.length_eq_zero_iff.1 hl
    subst e
    exact (cloneIn_nil w).mono fun e w' ⟨x, y⟩ => ⟨_, [], x, ⟨rfl, fun i h => absurd h (by simp)⟩, y ▸ World.ownsRow_nil _ _ _ _, y ▸ Below.refl _ _⟩
  | some ad =>
    by_cases h0 : n = 0
    · subst h0
      have e : L = [] := List.length_eq_zero_iff.1 hl
      subst e
      exact (cloneIn_some ad 0 c [] w hn rfl (fun u hu => by cases hu) (fun j u hj => by simp at hj)).mono fun e w' ⟨v, x, y, z⟩ => ⟨v, [], x, ⟨rfl, fun i h => absurd h (by simp)⟩, y, z⟩
    · obtain ⟨b, off, e, _, hcell⟩ := hc (by omega)
      obtain ⟨rfl⟩ := e
      obtain ⟨K, h1, h3⟩ := heads_of inR hcell
      have hk : K.flatten.length = n * 3 := by rw [flat_len h1, hl]; rfl
      exact (cloneIn_some ⟨b, off, none⟩ n c K.flatten w hn hk (flat_one h1) (fun j u hj => by rw [Addr.add_lit]; exact cell_later hb (h3 j u hj))).mono fun e w' ⟨v, x, y, z⟩ => ⟨v, K, x, h1, y, z⟩

theorem Tryz.infoOutC : (Tryz.prog.info? 122).map (fun i => (i.zero, i.size, i.bytes)) = some (some (.agg #[.int .i64 0, .slice none 0 0]), 2, 32) := by kernel_rfl

set_option maxRecDepth 10000 in
set_option maxHeartbeats 800000 in
theorem cloneOut_nil (w : World) : Calls Tryz.prog 160 #[.slice none 0 0] w fun e w' => e = .returned (.slice none 0 0) ∧ w = w' := by
  have he := fun w => Lib.run_eql_slice_nil (P := Tryz.prog) w 57 122 none 0 0 0 0 Tryz.underlying57
  go_enter Tryz.func160, Tryz.ntmps160
  go_wp2
  go_ret
  exact ⟨rfl, rfl⟩

set_option maxRecDepth 10000 in
set_option maxHeartbeats 1600000 in
theorem cloneOut_some (ad : Addr) (n c : Nat) (F : List Value) (w : World) (hn : n ≤ 4096) (hz : F.length = n * 2) (h1 : ∀ u ∈ F, u.oneCell' = true) (hc : ∀ j u, F[j]? = some u → w.cell? (ad.add j) = some u) :
    Calls Tryz.prog 160 #[.slice (some ad) n c] w fun e w' => ∃ v, e = .returned v ∧ w'.ownsRow w.heap.size 122 2 v n F ∧ Below w.heap.size w w' := by
  obtain ⟨i0, hi, hz0, hz1, hz2⟩ := info_parts Tryz.infoOutC
  have hb := bel_new w (.cells #[] 122)
  have HC : Hid (∀ j u, F[j]? = some u → (w.alloc (.cells #[] 122)).cell? (ad.add j) = some u) := fun j u hj => cell_later hb (hc j u hj)
  have HB := hide hb
  have HZ := hide hz
  have H1 := hide h1
  have HO := hide (own_nil w 122 2)
  have he := fun w => Lib.run_eql_slice_nil (P := Tryz.prog) w 57 122 (some ad) n c 0 0 Tryz.underlying57
  clear hc hb hz h1
  go_enter Tryz.func160, Tryz.ntmps160
  go_wp2_with (at_builtin; refine wpList_append_own _ rfl _ _ 57 rfl w.heap.size 122 i0 (.agg #[.int .i64 0, .slice none 0 0]) 2 32 Tryz.underlying57 hi hz0 hz1 hz2 rfl (by decide) _ _ _ rfl (unhide HO) ad n c F rfl (unhide HZ) (unhide HC) (unhide H1) (by unfold maxLen; omega) (by omega) (unhide HB).size ?_; intro v2 w3 hown3 hgrow3 _)
  have HW : Hid (w3.ownsRow w.heap.size 122 2 v2 n F) := by show World.ownsRow _ _ _ _ _ _ _; simpa using hown3
  have HB3 := hide ((unhide HB).grown hgrow3 (unhide HB).size (own_lo (unhide HO)))
  clear hown3 hgrow3
  go_wp2
  go_ret
  exact ⟨v2, rfl, unhide HW, unhide HB3⟩

theorem cloneOut_any (a : Option Addr) (n c : Nat) (L : List OutD) (w0 w : World) (hn : n ≤ 4096) (h : RowsAt outR.R 2 w0 a n L) (hb : Below w0.heap.size w0 w) (hs : SlOk a n c) :
    Calls Tryz.prog 160 #[.slice a n c] w fun e w' => ∃ v, ∃ K : List (List Value), e = .returned v ∧ AllC outR w0 K L ∧ w'.ownsRow w.heap.size 122 2 v n K.flatten ∧ Below w.heap.size w w' := by
  obtain ⟨hl, hc⟩ := h
  cases a with
  | none =>
    obtain ⟨rfl, rfl⟩ := hs.2.2 rfl
    have e : L = [] := List.length_eq_zero_iff.1 hl
    subst e
    exact (cloneOut_nil w).mono fun e w' ⟨x, y⟩ => ⟨_, [], x, ⟨rfl, fun i h => absurd h (by simp)⟩, y ▸ World.ownsRow_nil _ _ _ _, y ▸ Below.refl _ _⟩
  | some ad =>
    by_cases h0 : n = 0
    · subst h0
      have e : L = [] := List.length_eq_zero_iff.1 hl
      subst e
      exact (cloneOut_some ad 0 c [] w hn rfl (fun u hu => by cases hu) (fun j u hj => by simp at hj)).mono fun e w' ⟨v, x, y, z⟩ => ⟨v, [], x, ⟨rfl, fun i h => absurd h (by simp)⟩, y, z⟩
    · obtain ⟨b, off, e, _, hcell⟩ := hc (by omega)
      obtain ⟨rfl⟩ := e
      obtain ⟨K, h1, h3⟩ := heads_of outR hcell
      have hk : K.flatten.length = n * 2 := by rw [flat_len h1, hl]; rfl
      exact (cloneOut_some ⟨b, off, none⟩ n c K.flatten w hn hk (flat_one h1) (fun j u hj => by rw [Addr.add_lit]; exact cell_later hb (h3 j u hj))).mono fun e w' ⟨v, x, y, z⟩ => ⟨v, K, x, h1, y, z⟩

theorem Tryz.infoTxC : (Tryz.prog.info? 59).map (fun i => (i.zero, i.size, i.bytes)) = some (some (.agg #[.int .i64 0, .slice none 0 0, .slice none 0 0]), 3, 56) := by kernel_rfl

set_option maxRecDepth 10000 in
set_option maxHeartbeats 800000 in
theorem cloneTx_nil (w : World) : Calls Tryz.prog 199 #[.slice none 0 0] w fun e w' => e = .returned (.slice none 0 0) ∧ w = w' := by
  have he := fun w => Lib.run_eql_slice_nil (P := Tryz.prog) w 37 59 none 0 0 0 0 Tryz.underlying37
  go_enter Tryz.func199, Tryz.ntmps199
  go_wp2
  go_ret
  exact ⟨rfl, rfl⟩

set_option maxRecDepth 10000 in
set_option maxHeartbeats 1600000 in
theorem cloneTx_some (ad : Addr) (n c : Nat) (F : List Value) (w : World) (hn : n ≤ 4096) (hz : F.length = n * 3) (h1 : ∀ u ∈ F, u.oneCell' = true) (hc : ∀ j u, F[j]? = some u → w.cell? (ad.add j) = some u) :
    Calls Tryz.prog 199 #[.slice (some ad) n c] w fun e w' => ∃ v, e = .returned v ∧ w'.ownsRow w.heap.size 59 3 v n F ∧ Below w.heap.size w w' := by
  obtain ⟨i0, hi, hz0, hz1, hz2⟩ := info_parts Tryz.infoTxC
  have hb := bel_new w (.cells #[] 59)
  have HC : Hid (∀ j u, F[j]? = some u → (w.alloc (.cells #[] 59)).cell? (ad.add j) = some u) := fun j u hj => cell_later hb (hc j u hj)
  have HB := hide hb
  have HZ := hide hz
  have H1 := hide h1
  have HO := hide (own_nil w 59 3)
  have he := fun w => Lib.run_eql_slice_nil (P := Tryz.prog) w 37 59 (some ad) n c 0 0 Tryz.underlying37
  clear hc hb hz h1
  go_enter Tryz.func199, Tryz.ntmps199
  go_wp2_with (at_builtin; refine wpList_append_own _ rfl _ _ 37 rfl w.heap.size 59 i0 (.agg #[.int .i64 0, .slice none 0 0, .slice none 0 0]) 3 56 Tryz.underlying37 hi hz0 hz1 hz2 rfl (by decide) _ _ _ rfl (unhide HO) ad n c F rfl (unhide HZ) (unhide HC) (unhide H1) (by unfold maxLen; omega) (by omega) (unhide HB).size ?_; intro v2 w3 hown3 hgrow3 _)
  have HW : Hid (w3.ownsRow w.heap.size 59 3 v2 n F) := by show World.ownsRow _ _ _ _ _ _ _; simpa using hown3
  have HB3 := hide ((unhide HB).grown hgrow3 (unhide HB).size (own_lo (unhide HO)))
  clear hown3 hgrow3
  go_wp2
  go_ret
  exact ⟨v2, rfl, unhide HW, unhide HB3⟩

theorem cloneTx_any (a : Option Addr) (n c : Nat) (L : List TxD) (w0 w : World) (hn : n ≤ 4096) (h : RowsAt txR.R 3 w0 a n L) (hb : Below w0.heap.size w0 w) (hs : SlOk a n c) :
    Calls Tryz.prog 199 #[.slice a n c] w fun e w' => ∃ v, ∃ K : List (List Value), e = .returned v ∧ AllC txR w0 K L ∧ w'.ownsRow w.heap.size 59 3 v n K.flatten ∧ Below w.heap.size w w' := by
  obtain ⟨hl, hc⟩ := h
  cases a with
  | none =>
    obtain ⟨rfl, rfl⟩ := hs.2.2 rfl
    have e : L = [] := List.length_eq_zero_iff.1 hl
    subst e
    exact (cloneTx_nil w).mono fun e w' ⟨x, y⟩ => ⟨_, [], x, ⟨rfl, fun i h => absurd h (by simp)⟩, y ▸ World.ownsRow_nil _ _ _ _, y ▸ Below.refl _ _⟩
  | some ad =>
    by_cases h0 : n = 0
    · subst h0
      have e : L = [] := List.length_eq_zero_iff.1 hl
      subst e
      exact (cloneTx_some ad 0 c [] w hn rfl (fun u hu => by cases hu) (fun j u hj => by simp at hj)).mono fun e w' ⟨v, x, y, z⟩ => ⟨v, [], x, ⟨rfl, fun i h => absurd h (by simp)⟩, y, z⟩
    · obtain ⟨b, off, e, _, hcell⟩ := hc (by omega)
      obtain ⟨rfl⟩ := e
      obtain ⟨K, h1, h3⟩ := heads_of txR hcell
      have hk : K.flatten.length = n * 3 := by rw [flat_len h1, hl]; rfl
      exact (cloneTx_some ⟨b, off, none⟩ n c K.flatten w hn hk (flat_one h1) (fun j u hj => by rw [Addr.add_lit]; exact cell_later hb (h3 j u hj))).mono fun e w' ⟨v, x, y, z⟩ => ⟨v, K, x, h1, y, z⟩

theorem Tryz.infoBlkC : (Tryz.prog.info? 39).map (fun i => (i.zero, i.size, i.bytes)) = some (some (.agg #[.int .i64 0, .int .i64 0, .int .i64 0, .int .i64 0, .slice none 0 0]), 5, 56) := by kernel_rfl

set_option maxRecDepth 10000 in
set_option maxHeartbeats 800000 in
theorem cloneBlk_nil (w : World) : Calls Tryz.prog 196 #[.slice none 0 0] w fun e w' => e = .returned (.slice none 0 0) ∧ w = w' := by
  have he := fun w => Lib.run_eql_slice_nil (P := Tryz.prog) w 26 39 none 0 0 0 0 Tryz.underlying26
  go_enter Tryz.func196, Tryz.ntmps196
  go_wp2
  go_ret
  exact ⟨rfl, rfl⟩

set_option maxRecDepth 10000 in
set_option maxHeartbeats 1600000 in
theorem cloneBlk_some (ad : Addr) (n c : Nat) (F : List Value) (w : World) (hn : n ≤ 4096) (hz : F.length = n * 5) (h1 : ∀ u ∈ F, u.oneCell' = true) (hc : ∀ j u, F[j]? = some u → w.cell? (ad.add j) = some u) :
    Calls Tryz.prog 196 #[.slice (some ad) n c] w fun e w' => ∃ v, e = .returned v ∧ w'.ownsRow w.heap.size 39 5 v n F ∧ Below w.heap.size w w' := by
  obtain ⟨i0, hi, hz0, hz1, hz2⟩ := info_parts Tryz.infoBlkC
  have hb := bel_new w (.cells #[] 39)
  have HC : Hid (∀ j u, F[j]? = some u → (w.alloc (.cells #[] 39)).cell? (ad.add j) = some u) := fun j u hj => cell_later hb (hc j u hj)
  have HB := hide hb
  have HZ := hide hz
  have H1 := hide h1
  have HO := hide (own_nil w 39 5)
  have he := fun w => Lib.run_eql_slice_nil (P := Tryz.prog) w 26 39 (some ad) n c 0 0 Tryz.underlying26
  clear hc hb hz h1
  go_enter Tryz.func196, Tryz.ntmps196
  go_wp2_with (at_builtin; refine wpList_append_own _ rfl _ _ 26 rfl w.heap.size 39 i0 (.agg #[.int .i64 0, .int .i64 0, .int .i64 0, .int .i64 0, .slice none 0 0]) 5 56 Tryz.underlying26 hi hz0 hz1 hz2 rfl (by decide) _ _ _ rfl (unhide HO) ad n c F rfl (unhide HZ) (unhide HC) (unhide H1) (by unfold maxLen; omega) (by omega) (unhide HB).size ?_; intro v2 w3 hown3 hgrow3 _)
  have HW : Hid (w3.ownsRow w.heap.size 39 5 v2 n F) := by show World.ownsRow _ _ _ _ _ _ _; simpa using hown3
  have HB3 := hide ((unhide HB).grown hgrow3 (unhide HB).size (own_lo (unhide HO)))
  clear hown3 hgrow3
  go_wp2
  go_ret
  exact ⟨v2, rfl, unhide HW, unhide HB3⟩

theorem cloneBlk_any (a : Option Addr) (n c : Nat) (L : List BlkD) (w0 w : World) (hn : n ≤ 4096) (h : RowsAt blkR.R 5 w0 a n L) (hb : Below w0.heap.size w0 w) (hs : SlOk a n c) :
    Calls Tryz.prog 196 #[.slice a n c] w fun e w' => ∃ v, ∃ K : List (List Value), e = .returned v ∧ AllC blkR w0 K L ∧ w'.ownsRow w.heap.size 39 5 v n K.flatten ∧ Below w.heap.size w w' := by
  obtain ⟨hl, hc⟩ := h
  cases a with
  | none =>
    obtain ⟨rfl, rfl⟩ := hs.2.2 rfl
    have e : L = [] := List.length_eq_zero_iff.1 hl
    subst e
    exact (cloneBlk_nil w).mono fun e w' ⟨x, y⟩ => ⟨_, [], x, ⟨rfl, fun i h => absurd h (by simp)⟩, y ▸ World.ownsRow_nil _ _ _ _, y ▸ Below.refl _ _⟩
  | some ad =>
    by_cases h0 : n = 0
    · subst h0
      have e : L = [] := List.length_eq_zero_iff.1 hl
      subst e
      exact (cloneBlk_some ad 0 c [] w hn rfl (fun u hu => by cases hu) (fun j u hj => by simp at hj)).mono fun e w' ⟨v, x, y, z⟩ => ⟨v, [], x, ⟨rfl, fun i h => absurd h (by simp)⟩, y, z⟩
    · obtain ⟨b, off, e, _, hcell⟩ := hc (by omega)
      obtain ⟨rfl⟩ := e
      obtain ⟨K, h1, h3⟩ := heads_of blkR hcell
      have hk : K.flatten.length = n * 5 := by rw [flat_len h1, hl]; rfl
      exact (cloneBlk_some ⟨b, off, none⟩ n c K.flatten w hn hk (flat_one h1) (fun j u hj => by rw [Addr.add_lit]; exact cell_later hb (h3 j u hj))).mono fun e w' ⟨v, x, y, z⟩ => ⟨v, K, x, h1, y, z⟩

end Go.Proofs.YtmomfkikogbdeaaGreatDoor.Tr
