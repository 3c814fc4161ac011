/- The contract of what reads a line of a transaction. -/
import Derived.Test.YtepmnpapdknocaaGreatDoorTxNums
import Derived.Test.YtepmnpapdknocaaGreatDoorLockReadO
import Derived.OwnWalk
import Derived.Test.YtepmnpapdknocaaGreatDoorTxPrintToBlkPrint
import Derived.Deep.AppendLies
namespace Go.Proofs.YtepmnpapdknocaaGreatDoor
open Go.RowKit

/-- What stands ahead of a text's first colon, what behind it, and whether there is one. -/
def cutH (s : ByteArray) : ByteArray := ⟨(Lib.cut s.data.toList [58]).1.toArray⟩
def cutT (s : ByteArray) : ByteArray := ⟨(Lib.cut s.data.toList [58]).2.1.toArray⟩
def cutF (s : ByteArray) : Bool := (Lib.cut s.data.toList [58]).2.2

theorem cutH_size (s : ByteArray) : (cutH s).size ≤ s.size := by
  unfold cutH Lib.cut
  show (Array.size _) ≤ s.data.size
  split <;> simp
  omega
theorem cutT_size (s : ByteArray) : (cutT s).size ≤ s.size := by
  unfold cutT Lib.cut
  show (Array.size _) ≤ s.data.size
  split <;> simp

/-- The numbers and the orders of a line that opens with a word. -/
def lineOf (s word : ByteArray) (count : Nat) : Option (List Int × List (Int × Int)) :=
  if cutF s then (match rowOf (cutH s) word count with | some Z => if prE (cutT s) = 0 then some (Z, prL (cutT s)) else none | none => none) else none

theorem cut_at (s : ByteArray) (hs : s.size ≤ 4000) (w : World) (hE : EnvP w) :
    Calls Tryz.prog 54 #[.string s, .string ⟨#[58]⟩] w fun e w' => e = .returned (.tuple #[.string (cutH s), .string (cutT s), .bool (cutF s)]) ∧ Below w.heap.size w w' :=
  (Tryz.strings_Cut_shaped s ⟨#[58]⟩ w hE.shp (by omega)).mono fun e w' ⟨h1, n, h2⟩ => ⟨h1, by rw [h2]; exact ⟨rfl, rfl, rfl, Nat.le_refl _, fun _ _ => rfl⟩⟩

/-- What the reading of a line answers. -/
def LineIs (w w' : World) (e : Ending) : Option (List Int × List (Int × Int)) → Prop
  | none => e = .returned (.tuple #[.slice none 0 0, .slice none 0 0, .bool false])
  | some (Z, L) => ∃ a c v, e = .returned (.tuple #[.slice a Z.length c, v, .bool true]) ∧ RowAt w' a Z.length Z ∧ w'.ownsRow w.heap.size 148 2 v L.length (flat L) ∧ (∀ x, a = some x → w.heap.size ≤ x.block)

set_option maxRecDepth 10000 in
set_option maxHeartbeats 3200000 in
theorem parseLine_any (s word : ByteArray) (count : Nat) (ct : Int) (hct : ct = (count : Int)) (hs : s.size ≤ 4000) (hn : count ≤ 6) (hpos : 0 < count) (w : World) (hE : EnvP w) :
    Calls Tryz.prog 135 #[.string s, .string word, .int .i64 ct] w fun e w' => LineIs w w' e (lineOf s word count) ∧ Below w.heap.size w w' := by
  have CU := hide (cut_at s hs w hE)
  have hH := cutH_size s
  have hT := cutT_size s
  obtain ⟨H, eH⟩ : ∃ H, cutH s = H := ⟨_, rfl⟩
  obtain ⟨T, eT⟩ : ∃ T, cutT s = T := ⟨_, rfl⟩
  rw [eH] at CU hH
  rw [eT] at CU hT
  have HE := hide hE
  have HCT := hide hct
  cases hf : cutF s with
  | false =>
    have e : lineOf s word count = none := by unfold lineOf; rw [hf]; rfl
    rw [e]
    rw [hf] at CU
    clear hE hf e eH eT hct
    go_enter Tryz.func135, Tryz.ntmps135
    go_wp2_with fail
    refine (unhide CU).mono ?_
    rintro e w1 ⟨rfl, hb1⟩
    have HB1 := hide hb1
    clear hb1
    go_wp2
    go_ret3
    exact ⟨rfl, unhide HB1⟩
  | true =>
    rw [hf] at CU
    cases hr : rowOf H word count with
    | none =>
      have e : lineOf s word count = none := by unfold lineOf; rw [hf, eH, hr]; rfl
      rw [e]
      obtain ⟨f, hfe⟩ : ∃ f, prE T = f := ⟨_, rfl⟩
      have HR := hide hr
      have HFE := hide hfe
      clear hE hf e eH eT hct hr hfe
      go_enter Tryz.func135, Tryz.ntmps135
      go_wp2_with fail
      refine (unhide CU).mono ?_
      rintro e w1 ⟨rfl, hb1⟩
      have HB1 := hide hb1
      clear hb1
      go_wp2_with fail
      refine (parseRow_any H word count ct (unhide HCT) (by omega) hn hpos w1 ((unhide HE).later (unhide HB1)) none (unhide HR)).mono ?_
      rintro e w2 ⟨a2, c2, rfl, _, hb2, _⟩
      have HB2 := hide (bel_on (unhide HB1) hb2)
      clear hb2
      simp only [Option.getD_none, List.length_nil, Option.isSome_none]
      go_wp2_with fail
      refine (parse_own T w2 ((unhide HE).later (unhide HB2))).mono ?_
      rw [unhide HFE]
      rintro e w3 ⟨v, rfl, _, hb3⟩
      have HB3 := hide (bel_on (unhide HB2) hb3)
      clear hb3
      go_wp2
      go_ret3
      exact ⟨rfl, unhide HB3⟩
    | some Z =>
      by_cases hp : prE T = 0
      · have e : lineOf s word count = some (Z, prL T) := by
          unfold lineOf; rw [hf, eH, eT, hr]
          show (if prE T = 0 then some (Z, prL T) else none) = _
          rw [if_pos hp]
        rw [e]
        have HR := hide hr
        have HP := hide hp
        clear hE hf e eH eT hct hr hp
        go_enter Tryz.func135, Tryz.ntmps135
        go_wp2_with fail
        refine (unhide CU).mono ?_
        rintro e w1 ⟨rfl, hb1⟩
        have HB1 := hide hb1
        clear hb1
        go_wp2_with fail
        refine (parseRow_any H word count ct (unhide HCT) (by omega) hn hpos w1 ((unhide HE).later (unhide HB1)) (some Z) (unhide HR)).mono ?_
        rintro e w2 ⟨a2, c2, rfl, hrow, hb2, hfr⟩
        have HRW := hide hrow
        have HFR : Hid (∀ x, a2 = some x → w.heap.size ≤ x.block) := fun x hx => Nat.le_trans (unhide HB1).size (hfr x hx)
        have HB2 := hide (bel_on (unhide HB1) hb2)
        clear hb2 hrow hfr
        simp only [Option.getD_some, Option.isSome_some]
        go_wp2_with fail
        refine (parse_own T w2 ((unhide HE).later (unhide HB2))).mono ?_
        rw [unhide HP]
        rintro e w3 ⟨v, rfl, hown, hb3⟩
        have HRW3 := hide ((unhide HRW).later hb3)
        have HOW := hide (own_base hown (unhide HB2).size)
        have HB3 := hide (bel_on (unhide HB2) hb3)
        clear hb3 hown
        go_wp2
        go_ret3
        exact ⟨⟨a2, c2, v, rfl, unhide HRW3, unhide HOW, unhide HFR⟩, unhide HB3⟩
      · have e : lineOf s word count = none := by
          unfold lineOf; rw [hf, eH, eT, hr]
          show (if prE T = 0 then some (Z, prL T) else none) = _
          rw [if_neg hp]
        rw [e]
        obtain ⟨f, hfe⟩ : ∃ f, prE T = f := ⟨_, rfl⟩
        rw [hfe] at hp
        have gf : (f != 0) = true := by simp [hp]
        have HR := hide hr
        have HFE := hide hfe
        clear hE hf e eH eT hct hr hfe hp
        go_enter Tryz.func135, Tryz.ntmps135
        go_wp2_with fail
        refine (unhide CU).mono ?_
        rintro e w1 ⟨rfl, hb1⟩
        have HB1 := hide hb1
        clear hb1
        go_wp2_with fail
        refine (parseRow_any H word count ct (unhide HCT) (by omega) hn hpos w1 ((unhide HE).later (unhide HB1)) (some Z) (unhide HR)).mono ?_
        rintro e w2 ⟨a2, c2, rfl, _, hb2, _⟩
        have HB2 := hide (bel_on (unhide HB1) hb2)
        clear hb2
        simp only [Option.getD_some, Option.isSome_some]
        go_wp2_with fail
        refine (parse_own T w2 ((unhide HE).later (unhide HB2))).mono ?_
        rw [unhide HFE]
        rintro e w3 ⟨v, rfl, _, hb3⟩
        have HB3 := hide (bel_on (unhide HB2) hb3)
        clear hb3
        go_wp2
        go_ret3
        exact ⟨rfl, unhide HB3⟩

end Go.Proofs.YtepmnpapdknocaaGreatDoor

/- The contract of strings.CutSuffix at a line feed. -/
namespace Go.Proofs.YtepmnpapdknocaaGreatDoor
open Go.RowKit

def lastB (s : ByteArray) : ByteArray := s.extract (s.size - 1) s.size
def frontB (s : ByteArray) : ByteArray := s.extract 0 (s.size - 1)
def endsB (s : ByteArray) : Bool := decide (1 ≤ s.size) && ((lastB s).toList == [10])
def bodyB (s : ByteArray) : ByteArray := if endsB s then frontB s else s

set_option maxRecDepth 10000 in
set_option maxHeartbeats 1600000 in
theorem cutSuffix_none (s : ByteArray) (h : s.size = 0) (w : World) :
    Calls Tryz.prog 134 #[.string s, .string ⟨#[10]⟩] w fun e w' => e = .returned (.tuple #[.string s, .bool false]) ∧ w = w' := by
  go_enter Tryz.func134, Tryz.ntmps134
  go_wp2
  go_ret2
  exact ⟨rfl, rfl⟩

set_option maxRecDepth 10000 in
set_option maxHeartbeats 1600000 in
theorem cutSuffix_some (s : ByteArray) (h : 1 ≤ s.size) (hs : s.size ≤ 4000) (w : World) :
    Calls Tryz.prog 134 #[.string s, .string ⟨#[10]⟩] w fun e w' => e = .returned (.tuple #[.string (bodyB s), .bool (endsB s)]) ∧ w = w' := by
  cases hq : ((s.extract (s.size - 1) s.size).toList == [10]) with
  | true =>
    have e1 : endsB s = true := by unfold endsB lastB; rw [hq, decide_eq_true h]; rfl
    have e2 : bodyB s = s.extract 0 (s.size - 1) := by unfold bodyB; rw [e1]; rfl
    rw [e1, e2]
    clear e1 e2
    go_enter Tryz.func134, Tryz.ntmps134
    go_wp2
    go_ret2
    exact ⟨rfl, rfl⟩
  | false =>
    have e1 : endsB s = false := by unfold endsB lastB; rw [hq]; exact Bool.and_false _
    have e2 : bodyB s = s := by unfold bodyB; rw [e1]; rfl
    rw [e1, e2]
    clear e1 e2
    go_enter Tryz.func134, Tryz.ntmps134
    go_wp2
    go_ret2
    exact ⟨rfl, rfl⟩

theorem cutSuffix_any (s : ByteArray) (hs : s.size ≤ 4000) (w : World) :
    Calls Tryz.prog 134 #[.string s, .string ⟨#[10]⟩] w fun e w' => e = .returned (.tuple #[.string (bodyB s), .bool (endsB s)]) ∧ w = w' := by
  by_cases h : s.size = 0
  · have e1 : endsB s = false := by unfold endsB; rw [decide_eq_false (by omega)]; rfl
    have e2 : bodyB s = s := by unfold bodyB; rw [e1]; rfl
    rw [e1, e2]
    exact cutSuffix_none s h w
  · exact cutSuffix_some s (by omega) hs w

theorem body_size (s : ByteArray) : (bodyB s).size ≤ s.size := by
  unfold bodyB frontB
  split
  · rw [ByteArray.size_extract]; omega
  · exact Nat.le_refl _

end Go.Proofs.YtepmnpapdknocaaGreatDoor

/- What the reading of a transaction's lines builds: its box, its rows of ins and outs, their orders; told apart by their types. -/
namespace Go.Proofs.YtepmnpapdknocaaGreatDoor
open Go.RowKit

/-! What lines say. -/
def outStep (t : TxD) (s : ByteArray) : Option TxD := match lineOf s outB 1 with | some (Z, L) => some (t.1, t.2.1, t.2.2 ++ [(Z.getD 0 0, L)]) | none => none
def stepLn (t : TxD) (s : ByteArray) : Option TxD :=
  match lineOf s inB 2 with
  | some (Z, L) => if t.2.2.length = 0 then some (t.1, t.2.1 ++ [(Z.getD 0 0, Z.getD 1 0, L)], t.2.2) else outStep t s
  | none => outStep t s
def foldTx : TxD → List ByteArray → Option TxD
  | t, [] => some t
  | t, x :: r => (stepLn t x).bind fun u => foldTx u r
def linesOf (s : ByteArray) : List ByteArray := spl 10 (bodyB s)
def linesTx (s : ByteArray) : Option TxD :=
  if endsB s then (match rowOf ((linesOf s).getD 0 ⟨#[]⟩) txB 1 with | some Z => foldTx (Z.getD 0 0, [], []) ((linesOf s).drop 1) | none => none) else none

theorem rowOf_len {s word : ByteArray} {count : Nat} {Z : List Int} (h : rowOf s word count = some Z) : Z.length = count := by
  unfold rowOf at h
  split at h
  · rename_i h1
    unfold numAll at h
    split at h
    · injection h with h
      rw [← h, List.length_map, List.length_drop]; omega
    · cases h
  · cases h
theorem lineOf_len {s word : ByteArray} {count : Nat} {Z : List Int} {L : List (Int × Int)} (h : lineOf s word count = some (Z, L)) : Z.length = count := by
  unfold lineOf at h
  split at h
  · cases hr : rowOf (cutH s) word count with
    | none => rw [hr] at h; cases h
    | some Y =>
      rw [hr] at h
      change (if prE (cutT s) = 0 then some (Y, prL (cutT s)) else none) = _ at h
      split at h
      · injection h with h
        injection h with h1 h2
        rw [← h1]; exact rowOf_len hr
      · cases h
  · cases h

theorem foldTx_step {t u : TxD} {T : List ByteArray} {j : Nat} (hj : j < T.length) (h : stepLn t T[j] = some u) : foldTx t (T.drop j) = foldTx u (T.drop (j + 1)) := by
  rw [List.drop_eq_getElem_cons hj, foldTx, h]; rfl
theorem foldTx_dead {t : TxD} {T : List ByteArray} {j : Nat} (hj : j < T.length) (h : stepLn t T[j] = none) : foldTx t (T.drop j) = none := by
  rw [List.drop_eq_getElem_cons hj, foldTx, h]; rfl
theorem foldTx_end {t : TxD} {T : List ByteArray} {j : Nat} (hj : T.length ≤ j) : foldTx t (T.drop j) = some t := by
  rw [List.drop_of_length_le hj]; rfl

/-! Rows of ins and outs, with the values of their orders. -/
def inCells : List (InD × Value) → List Value
  | [] => []
  | x :: r => .int .i64 x.1.1 :: .int .i64 x.1.2.1 :: x.2 :: inCells r
def outCells : List (OutD × Value) → List Value
  | [] => []
  | x :: r => .int .i64 x.1.1 :: x.2 :: outCells r
theorem inCells_append : ∀ l m : List (InD × Value), inCells (l ++ m) = inCells l ++ inCells m
  | [], _ => rfl
  | _ :: r, m => by simp only [List.cons_append, inCells, inCells_append r m]
theorem outCells_append : ∀ l m : List (OutD × Value), outCells (l ++ m) = outCells l ++ outCells m
  | [], _ => rfl
  | _ :: r, m => by simp only [List.cons_append, outCells, outCells_append r m]
theorem inCells_at : ∀ (l : List (InD × Value)) (i : Nat) (h : i < l.length), (inCells l)[i * 3]? = some (.int .i64 (l[i]).1.1) ∧ (inCells l)[i * 3 + 1]? = some (.int .i64 (l[i]).1.2.1) ∧ (inCells l)[i * 3 + 2]? = some (l[i]).2
  | [], i, h => absurd h (by simp)
  | o :: r, 0, _ => ⟨rfl, rfl, rfl⟩
  | o :: r, i + 1, h => by
    have := inCells_at r i (by simpa using h)
    have e : (i + 1) * 3 = i * 3 + 3 := by omega
    rw [e]
    exact this
theorem outCells_at : ∀ (l : List (OutD × Value)) (i : Nat) (h : i < l.length), (outCells l)[i * 2]? = some (.int .i64 (l[i]).1.1) ∧ (outCells l)[i * 2 + 1]? = some (l[i]).2
  | [], i, h => absurd h (by simp)
  | o :: r, 0, _ => ⟨rfl, rfl⟩
  | o :: r, i + 1, h => by
    have := outCells_at r i (by simpa using h)
    have e : (i + 1) * 2 = i * 2 + 2 := by omega
    rw [e]
    exact this
/-- A row stays where blocks of its type stay. -/
theorem own_type {w w' : World} {base : Nat} {e : TypeId} {size : Nat} {v : Value} {n : Nat} {xs : List Value} (h : w.ownsRow base e size v n xs) (hk : ∀ (k : Nat) (cs : Array Value), w.heap[k]? = some (.cells cs e (0, 0)) → w'.heap[k]? = w.heap[k]?) : w'.ownsRow base e size v n xs := by
  obtain ⟨hl, h0 | ⟨g, cap, cur, hv, hg, hh, r⟩⟩ := h
  · exact ⟨hl, .inl h0⟩
  · exact ⟨hl, .inr ⟨g, cap, cur, hv, hg, (hk g cur hh).trans hh, r⟩⟩

structure PL (w : World) (q p lb : Nat) (A : Array Value) (h : Int) (wr : World) (v1 v2 : Value) (L1 : List (InD × Value)) (L2 : List (OutD × Value)) : Prop where
  box : wr.heap[p]? = some (.cells #[.int .i64 h, v1, v2] 74 (0, 0))
  res : wr.heap[q]? = some (.cells #[.int .i64 0, .slice none 0 0, .slice none 0 0] 74 (0, 0))
  pq : p ≠ q
  lin : wr.heap[lb]? = some (.cells A 9 (0, 0))
  own1 : wr.ownsRow w.heap.size 140 3 v1 L1.length (inCells L1)
  own2 : wr.ownsRow w.heap.size 84 2 v2 L2.length (outCells L2)
  keys1 : ∀ x ∈ L1, wr.ownsRow w.heap.size 148 2 x.2 x.1.2.2.length (flat x.1.2.2)
  keys2 : ∀ x ∈ L2, wr.ownsRow w.heap.size 148 2 x.2 x.1.2.length (flat x.1.2)
  bel : Below w.heap.size w wr
  pge : w.heap.size ≤ p

theorem PL.later {w : World} {q p lb : Nat} {A : Array Value} {h : Int} {wr w' : World} {v1 v2 : Value} {L1 : List (InD × Value)} {L2 : List (OutD × Value)} (s : PL w q p lb A h wr v1 v2 L1 L2) (hb : Below wr.heap.size wr w') : PL w q p lb A h w' v1 v2 L1 L2 where
  box := (hb.block _ (lt_of_block s.box)).trans s.box
  res := (hb.block _ (lt_of_block s.res)).trans s.res
  pq := s.pq
  lin := (hb.block _ (lt_of_block s.lin)).trans s.lin
  own1 := own_keep s.own1 hb
  own2 := own_keep s.own2 hb
  keys1 := fun x hx => own_keep (s.keys1 x hx) hb
  keys2 := fun x hx => own_keep (s.keys2 x hx) hb
  bel := bel_on s.bel hb
  pge := s.pge

/-- What an append to a row leaves alone: all blocks of other types. -/
theorem grow_type {w w' : World} {base : Nat} {e : TypeId} {size : Nat} {v : Value} {n : Nat} {xs : List Value} (h : w.ownsRow base e size v n xs) (hg : w.grownBy w' v.ownBlock) (k : Nat) (cs : Array Value) (t : TypeId) (hk : w.heap[k]? = some (.cells cs t (0, 0))) (ht : t ≠ e) : w'.heap[k]? = w.heap[k]? := by
  refine hg.block k (lt_of_block hk) (fun e1 => ?_)
  obtain ⟨_, ⟨rfl, _⟩ | ⟨g, cap, cur, rfl, _, hh, _⟩⟩ := h
  · cases e1
  · have e2 : k = g := by injection e1
    subst e2
    rw [hk] at hh
    injection hh with hh
    injection hh with _ hh
    exact ht hh

theorem PL.addIn {w : World} {q p lb : Nat} {A : Array Value} {h : Int} {w2 w3 : World} {v1 v2 v1' kv : Value} {L1 : List (InD × Value)} {L2 : List (OutD × Value)} {x1 x2 : Int} {key : List (Int × Int)}
    (s : PL w q p lb A h w2 v1 v2 L1 L2) (hkv : w2.ownsRow w.heap.size 148 2 kv key.length (flat key))
    (hown : w3.ownsRow w.heap.size 140 3 v1' (L1.length + 1) (inCells L1 ++ [.int .i64 x1, .int .i64 x2, kv])) (hg : w2.grownBy w3 v1.ownBlock) :
    PL w q p lb A h (w3.setCell ⟨p, 1, none⟩ v1') v1' v2 (L1 ++ [((x1, x2, key), kv)]) L2 := by
  have far : ∀ (k : Nat) (cs : Array Value) (t : TypeId), w2.heap[k]? = some (.cells cs t (0, 0)) → t ≠ 140 → w3.heap[k]? = w2.heap[k]? := fun k cs t hk ht => grow_type s.own1 hg k cs t hk ht
  have box3 : w3.heap[p]? = some (.cells #[.int .i64 h, v1, v2] 74 (0, 0)) := (far _ _ _ s.box (by decide)).trans s.box
  have far2 : ∀ (k : Nat) (cs : Array Value) (t : TypeId), w2.heap[k]? = some (.cells cs t (0, 0)) → t ≠ 140 → t ≠ 74 → (w3.setCell ⟨p, 1, none⟩ v1').heap[k]? = w2.heap[k]? := fun k cs t hk ht ht2 => by
    rw [heap_setCell_other w3 ⟨p, 1, none⟩ k v1' (fun e => by
      have e' : k = p := e
      subst e'
      rw [s.box] at hk
      injection hk with hk
      injection hk with _ hk
      exact ht2 hk.symm)]
    exact far k cs t hk ht
  have far3 : ∀ (k : Nat) (cs : Array Value) (t : TypeId), w3.heap[k]? = some (.cells cs t (0, 0)) → t ≠ 74 → (w3.setCell ⟨p, 1, none⟩ v1').heap[k]? = w3.heap[k]? := fun k cs t hk ht2 =>
    heap_setCell_other w3 ⟨p, 1, none⟩ k v1' (fun e => by
      have e' : k = p := e
      subst e'
      rw [box3] at hk
      injection hk with hk
      injection hk with _ hk
      exact ht2 hk.symm)
  have hs := s.bel.size
  refine ⟨?_, ?_, s.pq, ?_, ?_, ?_, fun x hx => ?_, fun x hx => ?_, ?_, s.pge⟩
  · rw [heap_setCell_same w3 p 1 _ 74 v1' box3]; rfl
  · rw [heap_setCell_other w3 ⟨p, 1, none⟩ q v1' (fun e => s.pq e.symm)]; exact (far _ _ _ s.res (by decide)).trans s.res
  · exact (far2 _ _ _ s.lin (by decide) (by decide)).trans s.lin
  · rw [List.length_append, inCells_append]
    exact own_type hown (fun k cs hk => far3 k cs _ hk (by decide))
  · exact own_type s.own2 (fun k cs hk => far2 k cs _ hk (by decide) (by decide))
  · rcases List.mem_append.1 hx with hx | hx
    · exact own_type (s.keys1 x hx) (fun k cs hk => far2 k cs _ hk (by decide) (by decide))
    · have e : x = ((x1, x2, key), kv) := by simpa using hx
      subst e
      exact own_type hkv (fun k cs hk => far2 k cs _ hk (by decide) (by decide))
  · exact own_type (s.keys2 x hx) (fun k cs hk => far2 k cs _ hk (by decide) (by decide))
  · exact ((s.bel.grown hg hs (fun k hk => own_ge s.own1 k hk)).setCell s.pge _)

theorem PL.addOut {w : World} {q p lb : Nat} {A : Array Value} {h : Int} {w2 w3 : World} {v1 v2 v2' kv : Value} {L1 : List (InD × Value)} {L2 : List (OutD × Value)} {x1 : Int} {key : List (Int × Int)}
    (s : PL w q p lb A h w2 v1 v2 L1 L2) (hkv : w2.ownsRow w.heap.size 148 2 kv key.length (flat key))
    (hown : w3.ownsRow w.heap.size 84 2 v2' (L2.length + 1) (outCells L2 ++ [.int .i64 x1, kv])) (hg : w2.grownBy w3 v2.ownBlock) :
    PL w q p lb A h (w3.setCell ⟨p, 2, none⟩ v2') v1 v2' L1 (L2 ++ [((x1, key), kv)]) := by
  have far : ∀ (k : Nat) (cs : Array Value) (t : TypeId), w2.heap[k]? = some (.cells cs t (0, 0)) → t ≠ 84 → w3.heap[k]? = w2.heap[k]? := fun k cs t hk ht => grow_type s.own2 hg k cs t hk ht
  have box3 : w3.heap[p]? = some (.cells #[.int .i64 h, v1, v2] 74 (0, 0)) := (far _ _ _ s.box (by decide)).trans s.box
  have far2 : ∀ (k : Nat) (cs : Array Value) (t : TypeId), w2.heap[k]? = some (.cells cs t (0, 0)) → t ≠ 84 → t ≠ 74 → (w3.setCell ⟨p, 2, none⟩ v2').heap[k]? = w2.heap[k]? := fun k cs t hk ht ht2 => by
    rw [heap_setCell_other w3 ⟨p, 2, none⟩ k v2' (fun e => by
      have e' : k = p := e
      subst e'
      rw [s.box] at hk
      injection hk with hk
      injection hk with _ hk
      exact ht2 hk.symm)]
    exact far k cs t hk ht
  have far3 : ∀ (k : Nat) (cs : Array Value) (t : TypeId), w3.heap[k]? = some (.cells cs t (0, 0)) → t ≠ 74 → (w3.setCell ⟨p, 2, none⟩ v2').heap[k]? = w3.heap[k]? := fun k cs t hk ht2 =>
    heap_setCell_other w3 ⟨p, 2, none⟩ k v2' (fun e => by
      have e' : k = p := e
      subst e'
      rw [box3] at hk
      injection hk with hk
      injection hk with _ hk
      exact ht2 hk.symm)
  have hs := s.bel.size
  refine ⟨?_, ?_, s.pq, ?_, ?_, ?_, fun x hx => ?_, fun x hx => ?_, ?_, s.pge⟩
  · rw [heap_setCell_same w3 p 2 _ 74 v2' box3]; rfl
  · rw [heap_setCell_other w3 ⟨p, 2, none⟩ q v2' (fun e => s.pq e.symm)]; exact (far _ _ _ s.res (by decide)).trans s.res
  · exact (far2 _ _ _ s.lin (by decide) (by decide)).trans s.lin
  · exact own_type s.own1 (fun k cs hk => far2 k cs _ hk (by decide) (by decide))
  · rw [List.length_append, outCells_append]
    exact own_type hown (fun k cs hk => far3 k cs _ hk (by decide))
  · exact own_type (s.keys1 x hx) (fun k cs hk => far2 k cs _ hk (by decide) (by decide))
  · rcases List.mem_append.1 hx with hx | hx
    · exact own_type (s.keys2 x hx) (fun k cs hk => far2 k cs _ hk (by decide) (by decide))
    · have e : x = ((x1, key), kv) := by simpa using hx
      subst e
      exact own_type hkv (fun k cs hk => far2 k cs _ hk (by decide) (by decide))
  · exact ((s.bel.grown hg hs (fun k hk => own_ge s.own2 k hk)).setCell s.pge _)

theorem PL.alloc {w : World} {q p lb : Nat} {A : Array Value} {h : Int} {wr : World} {v1 v2 : Value} {L1 : List (InD × Value)} {L2 : List (OutD × Value)} (s : PL w q p lb A h wr v1 v2 L1 L2) (o : Obj) : PL w q p lb A h (wr.alloc o) v1 v2 L1 L2 := s.later (bel_new wr o)
theorem PL.drewN {w : World} {q p lb : Nat} {A : Array Value} {h : Int} {wr : World} {v1 v2 : Value} {L1 : List (InD × Value)} {L2 : List (OutD × Value)} (s : PL w q p lb A h wr v1 v2 L1 L2) (n : Nat) : PL w q p lb A h (wr.drewN n) v1 v2 L1 L2 :=
  s.later ⟨rfl, rfl, rfl, Nat.le_refl _, fun _ _ => rfl⟩

/-- A value that owns orders is orders to a reader. -/
theorem ops_slice {w : World} {base : Nat} {v : Value} {L : List (Int × Int)} (h : w.ownsRow base 148 2 v L.length (flat L)) : ∃ a c, v = .slice a L.length c ∧ OpsAt w a L.length L ∧ SlOk a L.length c := by
  obtain ⟨a, c, rfl, hO⟩ := ops_of_own h
  refine ⟨a, c, rfl, hO, ?_⟩
  rcases h.2 with ⟨h1, h2⟩ | ⟨g, cap, cur, h1, _, _, h3, h4, _, _⟩
  · injection h1 with h1 h5 h6
    subst h1 h6
    exact ⟨by omega, Nat.zero_le _, fun _ => ⟨h2, rfl⟩⟩
  · injection h1 with h1 h5 h6
    subst h1 h6
    exact ⟨h3, h4, fun h => by cases h⟩

theorem sl_of_own {w : World} {base : Nat} {e : TypeId} {size : Nat} {v : Value} {n : Nat} {xs : List Value} (h : w.ownsRow base e size v n xs) : ∃ a c, v = .slice a n c ∧ SlOk a n c := by
  rcases h.2 with ⟨h1, h2⟩ | ⟨g, cap, cur, h1, _, _, h3, h4, _, _⟩
  · subst h2; exact ⟨none, 0, h1, Nat.le_refl _, Nat.zero_le _, fun _ => ⟨rfl, rfl⟩⟩
  · exact ⟨_, cap, h1, h3, h4, fun h => by cases h⟩

theorem ins_of_own {w : World} {base : Nat} {a : Option Addr} {c : Nat} {L : List (InD × Value)} (h : w.ownsRow base 140 3 (.slice a L.length c) L.length (inCells L)) (hk : ∀ x ∈ L, w.ownsRow base 148 2 x.2 x.1.2.2.length (flat x.1.2.2)) : InsAt w a L.length (L.map (·.1)) := by
  refine ⟨by rw [List.length_map], fun hpos => ?_⟩
  rcases h.2 with ⟨_, h2⟩ | ⟨g, cap, cur, h1, _, hh, _, _, _, _⟩
  · omega
  · injection h1 with h1 _ _
    subst h1
    refine ⟨g, 0, rfl, lt_of_block hh, fun i hi => ?_⟩
    rw [List.length_map] at hi
    obtain ⟨c1, c2, c3⟩ := inCells_at L i hi
    obtain ⟨ka, kc, e, hO, hS⟩ := ops_slice (hk L[i] (List.getElem_mem hi))
    rw [List.getElem_map, Nat.zero_add]
    refine ⟨?_, ?_, ka, _, kc, ?_, hO, hS⟩
    · rw [World.ownsRow.cellAt h (i * 3) (by omega)]; exact c1
    · rw [World.ownsRow.cellAt h (i * 3 + 1) (by omega)]; exact c2
    · rw [World.ownsRow.cellAt h (i * 3 + 2) (by omega), c3, e]
theorem outs_of_own {w : World} {base : Nat} {a : Option Addr} {c : Nat} {L : List (OutD × Value)} (h : w.ownsRow base 84 2 (.slice a L.length c) L.length (outCells L)) (hk : ∀ x ∈ L, w.ownsRow base 148 2 x.2 x.1.2.length (flat x.1.2)) : OutsAt w a L.length (L.map (·.1)) := by
  refine ⟨by rw [List.length_map], fun hpos => ?_⟩
  rcases h.2 with ⟨_, h2⟩ | ⟨g, cap, cur, h1, _, hh, _, _, _, _⟩
  · omega
  · injection h1 with h1 _ _
    subst h1
    refine ⟨g, 0, rfl, lt_of_block hh, fun i hi => ?_⟩
    rw [List.length_map] at hi
    obtain ⟨c1, c3⟩ := outCells_at L i hi
    obtain ⟨ka, kc, e, hO, hS⟩ := ops_slice (hk L[i] (List.getElem_mem hi))
    rw [List.getElem_map, Nat.zero_add]
    refine ⟨?_, ka, _, kc, ?_, hO, hS⟩
    · rw [World.ownsRow.cellAt h (i * 2) (by omega)]; exact c1
    · rw [World.ownsRow.cellAt h (i * 2 + 1) (by omega), c3, e]

end Go.Proofs.YtepmnpapdknocaaGreatDoor
