/- The contract of Parse: its error, and the orders of a text. -/
import Derived.Test.YtepmnpapdknocaaGreatDoorBlkConMToLockFlat
import Derived.Lib.SplitLaws
namespace Go.Proofs.YtepmnpapdknocaaGreatDoor
open Go.RowKit

def sepB : ByteArray := ⟨#[32]⟩
def wordsOf (s : ByteArray) : List ByteArray := if s.size = 0 then [] else Lib.splitB sepB 0 (Lib.countB s sepB) s

def parseAll : List ByteArray → Option (List (Int × Int))
  | [] => some []
  | x :: r => (parseW x).bind fun q => (parseAll r).map (q :: ·)

theorem parseAll_snoc : ∀ (ws : List ByteArray) (x : ByteArray), parseAll (ws ++ [x]) = (parseAll ws).bind fun l => (parseW x).map fun q => l ++ [q]
  | [], x => by simp only [List.nil_append, parseAll]; cases parseW x <;> rfl
  | y :: r, x => by
    simp only [List.cons_append, parseAll, parseAll_snoc r x]
    cases parseW y with
    | none => rfl
    | some q =>
      cases parseAll r with
      | none => rfl
      | some l => cases parseW x <;> rfl
theorem parseAll_append : ∀ (ws vs : List ByteArray), parseAll (ws ++ vs) = (parseAll ws).bind fun l => (parseAll vs).map fun m => l ++ m
  | [], vs => by simp only [List.nil_append, parseAll]; cases parseAll vs <;> rfl
  | y :: r, vs => by
    simp only [List.cons_append, parseAll, parseAll_append r vs]
    cases parseW y with
    | none => rfl
    | some q =>
      cases parseAll r with
      | none => rfl
      | some l => cases parseAll vs <;> rfl
theorem parseAll_dead {ws : List ByteArray} {k : Nat} (hk : k < ws.length) (h : parseW ws[k] = none) : parseAll ws = none := by
  have e : ws = ws.take k ++ ws[k] :: ws.drop (k + 1) := by
    rw [List.getElem_cons_drop, List.take_append_drop]
  rw [e, parseAll_append]
  cases parseAll (ws.take k) with
  | none => rfl
  | some l => simp [parseAll, h]

/-- What Parse answers. -/
def prE (s : ByteArray) : Int := if 4000 < s.size then 2 else match parseAll (wordsOf s) with | none => 1 | some l => chk l
def prL (s : ByteArray) : List (Int × Int) := if 4000 < s.size then [] else match parseAll (wordsOf s) with | none => [] | some l => if chk l = 0 then l else []

/-- A slice of texts in memory, behind block B. -/
def StrsAt (B : Nat) (w : World) (a : Option Addr) (len : Nat) (ws : List ByteArray) : Prop :=
  ws.length = len ∧ (0 < len → ∃ b, a = some ⟨b, 0, none⟩ ∧ b < B ∧ ∀ i, i < len → w.cell? ⟨b, i, none⟩ = some (.string (ws.getD i ⟨#[]⟩)))

theorem words_len (s : ByteArray) (h : s.size ≠ 0) : (wordsOf s).length = Lib.countB s sepB + 1 := by
  unfold wordsOf; rw [if_neg h]
  exact Lib.splitB_all sepB (by decide) 0 _ s rfl

theorem split_small (sep : ByteArray) : ∀ (k : Nat) (s : ByteArray) (x : ByteArray), x ∈ Lib.splitB sep 0 k s → x.size ≤ s.size
  | 0, s, x, h => by
    rw [Lib.splitB_zero] at h
    simp only [List.mem_singleton] at h
    rw [h]; exact Nat.le_refl _
  | k + 1, s, x, h => by
    unfold Lib.splitB at h
    split at h
    · simp only [List.mem_singleton] at h
      rw [h]; exact Nat.le_refl _
    · simp only [List.mem_cons] at h
      rcases h with rfl | h
      · rw [ByteArray.size_extract]; omega
      · have := split_small sep k _ x h
        rw [ByteArray.size_extract] at this
        omega
theorem words_small (s : ByteArray) (x : ByteArray) (h : x ∈ wordsOf s) : x.size ≤ s.size := by
  unfold wordsOf at h
  split at h
  · cases h
  · exact split_small _ _ _ _ h

set_option maxHeartbeats 800000 in
theorem split_any (s : ByteArray) (hs : s.size ≤ 4000) (w : World) (hE : EnvP w) :
    Calls Tryz.prog 220 #[.string s] w fun e w' => ∃ a cap, e = .returned (.slice a (wordsOf s).length cap) ∧ StrsAt w'.heap.size w' a (wordsOf s).length (wordsOf s) ∧ Below w.heap.size w w' := by
  by_cases h : s.size = 0
  · have e : s = ⟨#[]⟩ := by
      cases s with
      | mk d =>
        have : d = #[] := Array.eq_empty_of_size_eq_zero h
        rw [this]
    subst e
    clear h hE
    go_enter Tryz.func220, Tryz.ntmps220
    go_wp2
    go_ret
    exact ⟨none, 0, rfl, ⟨rfl, fun h => absurd h (by decide)⟩, Below.refl _ _⟩
  · have hl := words_len s h
    have hw : wordsOf s = Lib.splitB sepB 0 (Lib.countB s sepB) s := by unfold wordsOf; rw [if_neg h]
    have g : (s.toList == []) = false := by
      rw [beq_eq_false_iff_ne]
      intro e
      apply h
      rw [ByteArray.toList_eq] at e
      have := congrArg List.length e
      rw [Array.length_toList] at this
      exact this
    have SP := hide (Tryz.strings_Split_shaped s sepB w hE.shp (by omega) (by decide))
    rw [← hl, ← hw] at SP
    obtain ⟨ws, hws⟩ : ∃ ws, ws = wordsOf s := ⟨_, rfl⟩
    rw [← hws] at SP hl ⊢
    clear h hE hw hl hws
    go_enter Tryz.func220, Tryz.ntmps220
    go_wp2_with fail
    refine (unhide SP).mono ?_
    rintro e w1 ⟨rfl, rfl⟩
    go_wp2
    go_ret
    refine ⟨_, _, rfl, ⟨rfl, fun _ => ⟨w.heap.size, rfl, by simp, fun i hi => ?_⟩⟩, (Below.refl _ _).alloc (Nat.le_refl _) _⟩
    rw [World.cell?_alloc_at _ _ _ _ rfl]
    simp [hi]

/-- What the call owns stays owned where nothing below the heap's end has turned. -/
theorem own_keep {w w' : World} {base : Nat} {e : TypeId} {size : Nat} {v : Value} {n : Nat} {xs : List Value} (h : w.ownsRow base e size v n xs) (hb : Below w.heap.size w w') : w'.ownsRow base e size v n xs := by
  obtain ⟨hl, h0 | ⟨g, cap, cur, hv, hg, hh, r⟩⟩ := h
  · exact ⟨hl, .inl h0⟩
  · exact ⟨hl, .inr ⟨g, cap, cur, hv, hg, (hb.block g (lt_of_block hh)).trans hh, r⟩⟩

set_option maxHeartbeats 400000 in
theorem read_long (s : ByteArray) (hs : 4000 < s.size) (w : World) :
    Calls Tryz.prog 171 #[.string s] w fun e w' => e = .returned (.tuple #[.slice none 0 0, .int .i64 2]) ∧ w = w' := by
  have g : (4000 : Int) < (s.size : Int) := by omega
  clear hs
  go_enter Tryz.func171, Tryz.ntmps171
  go_wp2
  go_ret2
  exact ⟨rfl, rfl⟩

set_option maxHeartbeats 400000 in
theorem read_none (s : ByteArray) (hs : s.size ≤ 4000) (h0 : (wordsOf s).length = 0) (w : World) (hE : EnvP w) :
    Calls Tryz.prog 171 #[.string s] w fun e w' => e = .returned (.tuple #[.slice none 0 0, .int .i64 0]) ∧ Below w.heap.size w w' := by
  have SP := hide (split_any s hs w hE)
  rw [h0] at SP
  have g : ¬ (4000 : Int) < (s.size : Int) := by omega
  clear hs hE h0
  go_enter Tryz.func171, Tryz.ntmps171
  go_wp2_with fail
  refine (unhide SP).mono ?_
  rintro e w1 ⟨a, cap, rfl, _, hb1⟩
  have HB1 := hide hb1
  clear hb1
  go_wp2
  refine wp_loop_rounds 1 ?_
  rw [rounds_succ]
  go_wp2_with fail
  refine (check_none none 0 _).mono ?_
  rintro e w2 ⟨rfl, rfl⟩
  go_wp2
  go_ret2
  exact ⟨rfl, unhide HB1⟩

theorem cell_pair (w : World) (x y : Value) (t : TypeId) (j : Nat) (u : Value) (h : [x, y][j]? = some u) : (w.alloc (.cells #[x, y] t)).cell? ((⟨w.heap.size, 0, none⟩ : Addr).add j) = some u := by
  have hadd : (⟨w.heap.size, 0, none⟩ : Addr).add j = ⟨w.heap.size, j, none⟩ := by unfold Addr.add; split <;> simp_all
  rw [hadd, World.cell?_alloc_at _ _ _ _ rfl]
  simpa using h

theorem flat_snoc (l : List (Int × Int)) (q : Int × Int) : flat (l ++ [q]) = flat l ++ [.int .i64 q.1, .int .i64 q.2] := by rw [flat_append]; rfl

end Go.Proofs.YtepmnpapdknocaaGreatDoor
