/- The contract of Parse: its error, and the orders of a text. -/
import Derived.Test.YtadlakolpphgnaaGreatDoorLockWord
import Derived.Test.YtadlakolpphgnaaGreatDoorLockFlat
import Derived.Lib.SplitLaws
namespace Go.Proofs.YtadlakolpphgnaaGreatDoor
open Go.RowKit

def sepB : ByteArray := ⟨#[32]⟩
def wordsOf (s : ByteArray) : List ByteArray := if s.size = 0 then [] else Lib.splitB sepB 0 (Lib.countB s sepB) s

def parseAll : List ByteArray → Option (List (Int × Int))
  | [] => some []
  | x :: r => (parseW x).bind fun q => (parseAll r).map (q :: ·)

theorem parseAll_snoc : ∀ (ws : List ByteArray) (x : ByteArray), parseAll (ws ++ [x]) = (parseAll ws).bind fun l => (parseW x).map fun q => l ++ [q]
  | [], x => by simp only [List.nil_append, parseAll]; cases parseW x <;> rfl
  | y :: r, x => by
    simp only [List.cons_append, parseAll, parseAll_snoc r x]
    cases parseW y with
    | none => rfl
    | some q =>
      cases parseAll r with
      | none => rfl
      | some l => cases parseW x <;> rfl
theorem parseAll_append : ∀ (ws vs : List ByteArray), parseAll (ws ++ vs) = (parseAll ws).bind fun l => (parseAll vs).map fun m => l ++ m
  | [], vs => by simp only [List.nil_append, parseAll]; cases parseAll vs <;> rfl
  | y :: r, vs => by
    simp only [List.cons_append, parseAll, parseAll_append r vs]
    cases parseW y with
    | none => rfl
    | some q =>
      cases parseAll r with
      | none => rfl
      | some l => cases parseAll vs <;> rfl
theorem parseAll_dead {ws : List ByteArray} {k : Nat} (hk : k < ws.length) (h : parseW ws[k] = none) : parseAll ws = none := by
  have e : ws = ws.take k ++ ws[k] :: ws.drop (k + 1) := by
    rw [List.getElem_cons_drop, List.take_append_drop]
  rw [e, parseAll_append]
  cases parseAll (ws.take k) with
  | none => rfl
  | some l => simp [parseAll, h]

/-- What Parse answers. -/
def prE (s : ByteArray) : Int := if 4000 < s.size then 2 else match parseAll (wordsOf s) with | none => 1 | some l => chk l
def prL (s : ByteArray) : List (Int × Int) := if 4000 < s.size then [] else match parseAll (wordsOf s) with | none => [] | some l => if chk l = 0 then l else []

/-- A slice of texts in memory, behind block B. -/
def StrsAt (B : Nat) (w : World) (a : Option Addr) (len : Nat) (ws : List ByteArray) : Prop :=
  ws.length = len ∧ (0 < len → ∃ b, a = some ⟨b, 0, none⟩ ∧ b < B ∧ ∀ i, i < len → w.cell? ⟨b, i, none⟩ = some (.string (ws.getD i ⟨#[]⟩)))

theorem words_len (s : ByteArray) (h : s.size ≠ 0) : (wordsOf s).length = Lib.countB s sepB + 1 := by
  unfold wordsOf; rw [if_neg h]
  exact Lib.splitB_all sepB (by decide) 0 _ s rfl

theorem split_small (sep : ByteArray) : ∀ (k : Nat) (s : ByteArray) (x : ByteArray), x ∈ Lib.splitB sep 0 k s → x.size ≤ s.size
  | 0, s, x, h => by
    rw [Lib.splitB_zero] at h
    simp only [List.mem_singleton] at h
    rw [h]; exact Nat.le_refl _
  | k + 1, s, x, h => by
    unfold Lib.splitB at h
    split at h
    · simp only [List.mem_singleton] at h
      rw [h]; exact Nat.le_refl _
    · simp only [List.mem_cons] at h
      rcases h with rfl | h
      · rw [ByteArray.size_extract]; omega
      · have := split_small sep k _ x h
        rw [ByteArray.size_extract] at this
        omega
theorem words_small (s : ByteArray) (x : ByteArray) (h : x ∈ wordsOf s) : x.size ≤ s.size := by
  unfold wordsOf at h
  split at h
  · cases h
  · exact split_small _ _ _ _ h

set_option maxHeartbeats 800000 in
theorem split_any (s : ByteArray) (hs : s.size ≤ 4000) (w : World) (hE : EnvP w) :
    Calls Tryz.prog 87 #[.string s] w fun e w' => ∃ a cap, e = .returned (.slice a (wordsOf s).length cap) ∧ StrsAt w'.heap.size w' a (wordsOf s).length (wordsOf s) ∧ Below w.heap.size w w' := by
  by_cases h : s.size = 0
  · have e : s = ⟨#[]⟩ := by
      cases s with
      | mk d =>
        have : d = #[] := Array.eq_empty_of_size_eq_zero h
        rw [this]
    subst e
    clear h hE
    go_enter Tryz.func87, Tryz.ntmps87
    go_wp2
    go_ret
    exact ⟨none, 0, rfl, ⟨rfl, fun h => absurd h (by decide)⟩, Below.refl _ _⟩
  · have hl := words_len s h
    have hw : wordsOf s = Lib.splitB sepB 0 (Lib.countB s sepB) s := by unfold wordsOf; rw [if_neg h]
    have g : (s.toList == []) = false := by
      rw [beq_eq_false_iff_ne]
      intro e
      apply h
      rw [ByteArray.toList_eq] at e
      have := congrArg List.length e
      rw [Array.length_toList] at this
      exact this
    have SP := hide (Tryz.strings_Split_shaped s sepB w hE.shp (by omega) (by decide))
    rw [← hl, ← hw] at SP
    obtain ⟨ws, hws⟩ : ∃ ws, ws = wordsOf s := ⟨_, rfl⟩
    rw [← hws] at SP hl ⊢
    clear h hE hw hl hws
    go_enter Tryz.func87, Tryz.ntmps87
    go_wp2_with fail
    refine (unhide SP).mono ?_
    rintro e w1 ⟨rfl, rfl⟩
    go_wp2
    go_ret
    refine ⟨_, _, rfl, ⟨rfl, fun _ => ⟨w.heap.size, rfl, by simp, fun i hi => ?_⟩⟩, (Below.refl _ _).alloc (Nat.le_refl _) _⟩
    rw [World.cell?_alloc_at _ _ _ _ rfl]
    simp [hi]

/-- What the call owns stays owned where nothing below the heap's end has turned. -/
theorem own_keep {w w' : World} {base : Nat} {e : TypeId} {size : Nat} {v : Value} {n : Nat} {xs : List Value} (h : w.ownsRow base e size v n xs) (hb : Below w.heap.size w w') : w'.ownsRow base e size v n xs := by
  obtain ⟨hl, h0 | ⟨g, cap, cur, hv, hg, hh, r⟩⟩ := h
  · exact ⟨hl, .inl h0⟩
  · exact ⟨hl, .inr ⟨g, cap, cur, hv, hg, (hb.block g (lt_of_block hh)).trans hh, r⟩⟩

set_option maxHeartbeats 400000 in
theorem read_long (s : ByteArray) (hs : 4000 < s.size) (w : World) :
    Calls Tryz.prog 68 #[.string s] w fun e w' => e = .returned (.tuple #[.slice none 0 0, .int .i64 2]) ∧ w = w' := by
  have g : (4000 : Int) < (s.size : Int) := by omega
  clear hs
  go_enter Tryz.func68, Tryz.ntmps68
  go_wp2
  go_ret2
  exact ⟨rfl, rfl⟩

set_option maxHeartbeats 400000 in
theorem read_none (s : ByteArray) (hs : s.size ≤ 4000) (h0 : (wordsOf s).length = 0) (w : World) (hE : EnvP w) :
    Calls Tryz.prog 68 #[.string s] w fun e w' => e = .returned (.tuple #[.slice none 0 0, .int .i64 0]) ∧ Below w.heap.size w w' := by
  have SP := hide (split_any s hs w hE)
  rw [h0] at SP
  have g : ¬ (4000 : Int) < (s.size : Int) := by omega
  clear hs hE h0
  go_enter Tryz.func68, Tryz.ntmps68
  go_wp2_with fail
  refine (unhide SP).mono ?_
  rintro e w1 ⟨a, cap, rfl, _, hb1⟩
  have HB1 := hide hb1
  clear hb1
  go_wp2
  refine wp_loop_rounds 1 ?_
  rw [rounds_succ]
  go_wp2_with fail
  refine (check_none none 0 _).mono ?_
  rintro e w2 ⟨rfl, rfl⟩
  go_wp2
  go_ret2
  exact ⟨rfl, unhide HB1⟩

theorem cell_pair (w : World) (x y : Value) (t : TypeId) (j : Nat) (u : Value) (h : [x, y][j]? = some u) : (w.alloc (.cells #[x, y] t)).cell? ((⟨w.heap.size, 0, none⟩ : Addr).add j) = some u := by
  have hadd : (⟨w.heap.size, 0, none⟩ : Addr).add j = ⟨w.heap.size, j, none⟩ := by unfold Addr.add; split <;> simp_all
  rw [hadd, World.cell?_alloc_at _ _ _ _ rfl]
  simpa using h

theorem flat_snoc (l : List (Int × Int)) (q : Int × Int) : flat (l ++ [q]) = flat l ++ [.int .i64 q.1, .int .i64 q.2] := by rw [flat_append]; rfl

set_option maxRecDepth 10000 in
set_option maxHeartbeats 3200000 in
theorem read_some (s : ByteArray) (hs : s.size ≤ 4000) (h0 : 0 < (wordsOf s).length) (w : World) (hE : EnvP w) :
    Calls Tryz.prog 68 #[.string s] w fun e w' => ∃ a cap, e = .returned (.tuple #[.slice a (prL s).length cap, .int .i64 (prE s)]) ∧ OpsAt w' a (prL s).length (prL s) ∧ Below w.heap.size w w' := by
  obtain ⟨i0, hi, hz0, hz1, hz2⟩ := info_parts Tryz.infoOp
  have SP := hide (split_any s hs w hE)
  have eE : prE s = match parseAll (wordsOf s) with | none => 1 | some l => chk l := by unfold prE; rw [if_neg (by omega)]
  have eL : prL s = match parseAll (wordsOf s) with | none => [] | some l => if chk l = 0 then l else [] := by unfold prL; rw [if_neg (by omega)]
  have hwl : (wordsOf s).length ≤ 4002 := by
    have h1 : s.size ≠ 0 := fun e => by unfold wordsOf at h0; rw [if_pos e] at h0; simp at h0
    rw [words_len s h1]
    have : Lib.countB s sepB ≤ s.size + 1 := Lib.count_le s.data.toList sepB.data.toList
    omega
  have hsm := words_small s
  obtain ⟨ws, hws⟩ : ∃ ws, ws = wordsOf s := ⟨_, rfl⟩
  rw [← hws] at SP eE eL h0 hsm hwl
  obtain ⟨n, hn⟩ : ∃ n, ws.length = n := ⟨_, rfl⟩
  rw [hn] at SP h0 hwl
  have HEE := hide eE
  have HEL := hide eL
  have HSM := hide hsm
  have HN := hide hn
  have HE := hide hE
  have g : ¬ (4000 : Int) < (s.size : Int) := by omega
  clear hE eE eL hsm hws hn
  go_enter Tryz.func68, Tryz.ntmps68
  go_wp2_with fail
  refine (unhide SP).mono ?_
  rintro e w1 ⟨a, cap, rfl, hst, hb1⟩
  obtain ⟨bw, rfl, hbw, hcw⟩ := hst.2 h0
  have HB1 := hide hb1
  have HCW := hide hcw
  clear hb1 hst hcw
  go_wp2
  go_loopw [4, 16] (fun v i wr => ∃ (k : Nat) (l : List (Int × Int)), k ≤ n ∧ i = .int .i64 k ∧ parseAll (ws.take k) = some l ∧ wr.ownsRow w1.heap.size 56 2 v k (flat l) ∧ Below w1.heap.size w1 wr) (fun _ i _ => n - (intOf i).toNat)
  case atStart => exact ⟨0, [], Nat.zero_le _, rfl, rfl, World.ownsRow_nil _ _ _ _, Below.refl _ _⟩
  case round =>
    obtain ⟨k, l, hk, rfl, hpl, hown, hbr⟩ := hrel
    have HPL := hide hpl
    have HOWN := hide hown
    have HBR := hide hbr
    clear hpl hown
    by_cases hlt : k < n
    · have hlk : k < ws.length := by rw [unhide HN]; exact hlt
      have c1 := (unhide HCW) k hlt
      rw [← hbr.cell (p := ⟨bw, k, none⟩) hbw] at c1
      obtain ⟨x, hx⟩ : ∃ x, x = ws.getD k ⟨#[]⟩ := ⟨_, rfl⟩
      rw [← hx] at c1
      have hx' : x = ws[k] := by rw [hx]; simp [hlk]
      have hxs : x.size ≤ 4000 := Nat.le_trans ((unhide HSM) x (by rw [hx']; exact List.getElem_mem hlk)) hs
      have hbwr : Below w.heap.size w wr := bel_tw (unhide HB1) hbr
      have PO := hide (parseOrder_any x hxs wr ((unhide HE).later hbwr))
      have HX := hide hx'
      cases hq : parseW x with
      | none =>
        rw [hq] at PO
        have HQ := hide hq
        have HBW := hide hbwr
        clear hbr hx hx' hxs hbwr hq
        go_wp2_with fail
        refine (unhide PO).mono ?_
        rintro e w2 ⟨rfl, hb2⟩
        have HB2 := hide (bel_tw (unhide HBW) hb2)
        clear hb2
        go_wp2
        go_ret2
        have hd := parseAll_dead (ws := ws) hlk (by rw [← unhide HX]; exact unhide HQ)
        rw [unhide HEE, unhide HEL, hd]
        exact ⟨none, 0, rfl, ops_nil _ _, (unhide HB2).alloc (unhide HB2).size _⟩
      | some q =>
        rw [hq] at PO
        have HQ := hide hq
        obtain ⟨q1, q2⟩ := q
        clear hbr hx hx' hxs hbwr hq
        go_wp2_with fail
        refine (unhide PO).mono ?_
        rintro e w2 ⟨rfl, hb2⟩
        have hbr2 : Below w1.heap.size w1 w2 := (unhide HBR).trans (hb2.mono (unhide HBR).size)
        have hown2 : w2.ownsRow w1.heap.size 56 2 _ k (flat l) := own_keep (unhide HOWN) hb2
        have HBR2 := hide hbr2
        have HOWN2 := hide ((hown2.alloc (.cells #[.int .i64 q1, .int .i64 q2] 56)).alloc (.cells #[.int .i64 q1, .int .i64 q2] 56))
        clear hb2 hbr2 hown2
        have CP : Hid (∀ (j : Nat) (u : Value), ([.int .i64 q1, .int .i64 q2] : List Value)[j]? = some u → ((w2.alloc (.cells #[.int .i64 q1, .int .i64 q2] 56)).alloc (.cells #[.int .i64 q1, .int .i64 q2] 56)).cell? ((⟨w2.heap.size + 1, 0, none⟩ : Addr).add j) = some u) := fun j u hj => by
          have h := cell_pair (w2.alloc (.cells #[.int .i64 q1, .int .i64 q2] 56)) (.int .i64 q1) (.int .i64 q2) 56 j u hj
          rw [show (w2.alloc (.cells #[.int .i64 q1, .int .i64 q2] 56)).heap.size = w2.heap.size + 1 by simp] at h
          exact h
        have HSZ := hide (unhide HBR2).size
        go_wp2_with (at_builtin; refine wpList_append_own _ rfl _ _ 39 rfl w1.heap.size 56 i0 (.agg #[.int .i64 0, .int .i64 0]) 2 16 Tryz.underlying39 hi hz0 hz1 hz2 rfl (by decide) _ _ _ rfl (unhide HOWN2) ⟨w2.heap.size + 1, 0, none⟩ 1 1 [.int .i64 q1, .int .i64 q2] rfl rfl (unhide CP) (fun u hu => by simp at hu; rcases hu with rfl | rfl <;> rfl) (by unfold maxLen; omega) (by omega) (by have := unhide HSZ; simp; omega) ?_; intro v' w3 hown3 hgrow3 _)
        have HOWN3 : Hid (w3.ownsRow w1.heap.size 56 2 v' (k + 1) (flat (l ++ [(q1, q2)]))) := by rw [flat_snoc]; exact hown3
        have HB3 : Hid (Below w1.heap.size w1 w3) := ((((unhide HBR2).alloc (unhide HSZ) _).alloc (by have := unhide HSZ; simp; omega) _).grown hgrow3 (by have := unhide HSZ; simp; omega) (own_ge (unhide HOWN2)))
        clear hown3 hgrow3
        go_wp2
        go_roundw
        case rel =>
          refine ⟨k + 1, l ++ [(q1, q2)], by omega, by go_num, ?_, unhide HOWN3, unhide HB3⟩
          rw [List.take_succ_eq_append_getElem hlk, parseAll_snoc, unhide HPL, ← unhide HX, unhide HQ]; rfl
        case measure => simp [intOf]; omega
    · have e : k = n := by omega
      subst e
      obtain ⟨a', cap', hv, hO⟩ := ops_of_own (unhide HOWN)
      subst hv
      have hpa : parseAll ws = some l := by
        have h1 := unhide HPL
        rw [← unhide HN, List.take_length] at h1
        exact h1
      have hll : l.length = k := hO.1
      have HPA := hide hpa
      have HLL := hide hll
      have HO := hide hO
      have HBW := hide (bel_tw (unhide HB1) hbr)
      have CK := hide (check_any a' k cap' l wr hO)
      clear hk hlt hbr hO hpa hll
      by_cases hck : chk l = 0
      · rw [hck] at CK
        have HCK := hide hck
        clear hck
        go_wp2_with fail
        refine (unhide CK).mono ?_
        rintro e w2 ⟨rfl, hb2⟩
        have HO2 := hide ((unhide HO).later hb2)
        have HB2 := hide (bel_tw (unhide HBW) hb2)
        clear hb2
        go_wp2
        go_ret2
        have e1 : prE s = 0 := by rw [unhide HEE, unhide HPA]; exact unhide HCK
        have e2 : prL s = l := by rw [unhide HEL, unhide HPA]; simp [unhide HCK]
        rw [e1, e2, unhide HLL]
        exact ⟨a', cap', rfl, unhide HO2, unhide HB2⟩
      · obtain ⟨x, hx⟩ : ∃ x, x = chk l := ⟨_, rfl⟩
        rw [← hx] at CK hck
        have hx1 : (x != 0) = true := by simp [hck]
        have HX := hide hx
        have HCK := hide hck
        clear hck hx
        go_wp2_with fail
        refine (unhide CK).mono ?_
        rintro e w2 ⟨rfl, hb2⟩
        have HB2 := hide (bel_tw (unhide HBW) hb2)
        clear hb2
        go_wp2
        go_ret2
        have e1 : prE s = x := by rw [unhide HEE, unhide HPA]; exact (unhide HX).symm
        have e2 : prL s = [] := by
          rw [unhide HEL, unhide HPA]
          show (if chk l = 0 then l else []) = []
          rw [if_neg (by rw [← unhide HX]; exact unhide HCK)]
        rw [e1, e2]
        exact ⟨none, 0, rfl, ops_nil _ _, unhide HB2⟩

theorem parse_any (s : ByteArray) (w : World) (hE : EnvP w) :
    Calls Tryz.prog 68 #[.string s] w fun e w' => ∃ a cap, e = .returned (.tuple #[.slice a (prL s).length cap, .int .i64 (prE s)]) ∧ OpsAt w' a (prL s).length (prL s) ∧ Below w.heap.size w w' := by
  by_cases hs : 4000 < s.size
  · have e1 : prE s = 2 := by unfold prE; rw [if_pos hs]
    have e2 : prL s = [] := by unfold prL; rw [if_pos hs]
    rw [e1, e2]
    exact (read_long s hs w).mono fun e w' ⟨h1, h2⟩ => ⟨none, 0, h1, ops_nil _ _, h2 ▸ Below.refl _ _⟩
  · by_cases h0 : (wordsOf s).length = 0
    · have ew : wordsOf s = [] := List.length_eq_zero_iff.1 h0
      have e1 : prE s = 0 := by unfold prE; rw [if_neg hs, ew]; rfl
      have e2 : prL s = [] := by unfold prL; rw [if_neg hs, ew]; rfl
      rw [e1, e2]
      exact (read_none s (by omega) h0 w hE).mono fun e w' ⟨h1, h2⟩ => ⟨none, 0, h1, ops_nil _ _, h2⟩
    · exact read_some s (by omega) (by omega) w hE

end Go.Proofs.YtadlakolpphgnaaGreatDoor
