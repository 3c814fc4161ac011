/- The contract of put: a coin is put at its place, if there is none of its point. -/
import Derived.Test.YtmomfkikogbdeaaGreatDoorCoinPlaceToCoinTake
import Derived.Test.YtmomfkikogbdeaaGreatDoorCoinMathToCoinCmp
import Derived.Test.YtmomfkikogbdeaaGreatDoorLockMathToLockIn
import Derived.Test.YtmomfkikogbdeaaGreatDoorLockCheckToLockFill
namespace Go.Proofs.YtmomfkikogbdeaaGreatDoor
open Go.RowKit

theorem own_slice {w : World} {base : Nat} {e : TypeId} {size : Nat} {v : Value} {n : Nat} {xs : List Value} (h : w.ownsRow base e size v n xs) : ∃ a c, v = .slice a n c := by
  rcases h.2 with ⟨rfl, rfl⟩ | ⟨g, cap, cur, rfl, _⟩
  · exact ⟨none, 0, rfl⟩
  · exact ⟨_, _, rfl⟩
def sixV (y : CV) : List Value := [.int .i64 y.1.1, .int .i64 y.1.2.1, .int .i64 (cv y.1), .slice y.2.1 y.2.2.1 y.2.2.2, .int .i64 (ch y.1), .bool (cr y.1)]
theorem flat_six (y : CV) : flatC [y] = sixV y := rfl

set_option maxRecDepth 10000 in
set_option maxHeartbeats 3200000 in
theorem pput_no (w0 w : World) (p : Nat) (v : Value) (K : List CV) (y : CV) (h : Pu w0 w p v K) (hs : Srt (K.map (·.1))) (hn : K.length ≤ 4096) (hf : hasP (pt y.1) (K.map (·.1)) = true) :
    Calls Tryz.prog 207 #[.pointer (some ⟨p, 0, none⟩), cnV y.1 y.2.1 y.2.2.1 y.2.2.2] w fun e w' => e = .returned (.bool false) ∧ Below w.heap.size w w' := by
  obtain ⟨a, c, rfl, hC, hS⟩ := h.coins
  obtain ⟨n, hn'⟩ : ∃ n, K.length = n := ⟨_, rfl⟩
  obtain ⟨k, hk⟩ : ∃ k, pos (pt y.1) (K.map (·.1)) = k := ⟨_, rfl⟩
  have hbox := h.box
  rw [hn'] at hC hbox hn
  unfold cnV
  obtain ⟨X, hX⟩ : ∃ X, X = w.alloc (.cells #[.int .i64 y.1.1, .int .i64 y.1.2.1, .int .i64 (cv y.1), .slice y.2.1 y.2.2.1 y.2.2.2, .int .i64 (ch y.1), .bool (cr y.1)] 124) := ⟨_, rfl⟩
  have hbX : Below w.heap.size w X := by rw [hX]; exact bel_new _ _
  have hX1 : X.heap[w.heap.size]? = some (.cells (sixV y).toArray 124 (0, 0)) := by rw [hX]; exact six_heap _ _ _ _ _ _ _ _
  have x0 := cell_of hX1 0 _ rfl
  have x1 := cell_of hX1 1 _ rfl
  have xp : X.cell? ⟨p, 0, none⟩ = some (.slice a n c) := cell_later hbX (cell_of (X := [.slice a n c]) hbox 0 _ rfl)
  have PL := hide (fun w' (hb : Below X.heap.size X w') => place_any a n c (K.map (·.1)) (pt y.1) k true w' hs (by omega) ((hC.later hbX).later hb) hk hf)
  unfold pt at PL
  have HBX := hide hbX
  clear hk hf hC hS hs hbox hbX hX1 h hn'
  go_enter Tryz.func207, Tryz.ntmps207
  go_wp2_with fail
  rw [← hX]
  clear hX
  go_region_held3 (fun w' => Below X.heap.size X w' ∧ w'.cell? ⟨w.heap.size, 0, none⟩ = some (.int .i64 y.1.1) ∧ w'.cell? ⟨w.heap.size, 1, none⟩ = some (.int .i64 y.1.2.1) ∧ w'.cell? ⟨p, 0, none⟩ = some (.slice a n c))
    (first
    | exact ⟨bel_draw1 _, x0, x1, xp⟩
    | (go_split_ands
       refine ⟨bel_on (by assumption) hbc, cell_later hbc (by assumption), cell_later hbc (by assumption), cell_later hbc (by assumption)⟩))
    (first | (go_at_call 250; go_split_ands; refine ((unhide PL) _ (by assumption)).mono ?_; rintro e w' ⟨rfl, hbc⟩))
  rename_i hH
  have HB := hide (bel_on (unhide HBX) hH.1)
  clear hH
  go_wp2
  go_ret
  exact ⟨rfl, unhide HB⟩

set_option maxRecDepth 10000 in
set_option maxHeartbeats 6400000 in
theorem pput_yes (w0 w : World) (p : Nat) (v : Value) (K : List CV) (y : CV) (h : Pu w0 w p v K) (hs : Srt (K.map (·.1))) (hn : K.length ≤ 4096) (hf : hasP (pt y.1) (K.map (·.1)) = false) (hy : LkAt w0 y) :
    Calls Tryz.prog 207 #[.pointer (some ⟨p, 0, none⟩), cnV y.1 y.2.1 y.2.2.1 y.2.2.2] w fun e w' => ∃ (v' : Value) (K' : List CV), e = .returned (.bool true) ∧ K'.map (·.1) = putC y.1 (K.map (·.1)) ∧ (∀ z ∈ K', z = y ∨ z ∈ K) ∧ K'.length = K.length + 1 ∧
      Pu w0 w' p v' K' ∧ Gr w w' (PuS p v) ∧ (v'.ownBlock = v.ownBlock ∨ ∀ k, v'.ownBlock = some k → w.heap.size ≤ k) := by
  obtain ⟨a, c, rfl, hC, hS⟩ := h.coins
  obtain ⟨n, hn'⟩ : ∃ n, K.length = n := ⟨_, rfl⟩
  obtain ⟨k, hk⟩ : ∃ k, pos (pt y.1) (K.map (·.1)) = k := ⟨_, rfl⟩
  have hbox := h.box
  have hO := h.own
  have hne := h.ne
  have hkn : k ≤ n := by rw [← hk, ← hn']; have := pos_le (pt y.1) (K.map (·.1)); simpa using this
  have hPD := putC_at hs hf
  rw [hk, ← List.map_take, ← List.map_drop, show y.1 :: (K.drop k).map (·.1) = (y :: K.drop k).map (·.1) from rfl, ← List.map_append] at hPD
  rw [hn'] at hC hbox hn hO hne
  unfold cnV
  obtain ⟨X, hX⟩ : ∃ X, X = w.alloc (.cells #[.int .i64 y.1.1, .int .i64 y.1.2.1, .int .i64 (cv y.1), .slice y.2.1 y.2.2.1 y.2.2.2, .int .i64 (ch y.1), .bool (cr y.1)] 124) := ⟨_, rfl⟩
  have hbX : Below w.heap.size w X := by rw [hX]; exact bel_new _ _
  have hX1 : X.heap[w.heap.size]? = some (.cells (sixV y).toArray 124 (0, 0)) := by rw [hX]; exact six_heap _ _ _ _ _ _ _ _
  have x0 := cell_of hX1 0 _ rfl
  have x1 := cell_of hX1 1 _ rfl
  have xp : X.cell? ⟨p, 0, none⟩ = some (.slice a n c) := cell_later hbX (cell_of (X := [.slice a n c]) hbox 0 _ rfl)
  have PL := hide (fun w' (hb : Below X.heap.size X w') => place_any a n c (K.map (·.1)) (pt y.1) k false w' hs (by omega) ((hC.later hbX).later hb) hk hf)
  unfold pt at PL
  have HBX := hide hbX
  have HX1 := hide hX1
  have HO := hide hO
  have HNE := hide hne
  have HPD := hide hPD
  have HP := hide h
  have HY := hide hy
  have HBOX := hide hbox
  have HN' := hide hn'
  have hpw : p < w.heap.size := h.lt
  clear hk hf hC hS hs hbox hbX hX1 h hn' hO hne hPD hy
  go_enter Tryz.func207, Tryz.ntmps207
  go_wp2_with fail
  rw [← hX]
  clear hX
  go_region_held3 (fun w' => Below X.heap.size X w' ∧ w'.cell? ⟨w.heap.size, 0, none⟩ = some (.int .i64 y.1.1) ∧ w'.cell? ⟨w.heap.size, 1, none⟩ = some (.int .i64 y.1.2.1) ∧ w'.cell? ⟨p, 0, none⟩ = some (.slice a n c))
    (first
    | exact ⟨bel_draw1 _, x0, x1, xp⟩
    | (go_split_ands
       refine ⟨bel_on (by assumption) hbc, cell_later hbc (by assumption), cell_later hbc (by assumption), cell_later hbc (by assumption)⟩))
    (first | (go_at_call 250; go_split_ands; refine ((unhide PL) _ (by assumption)).mono ?_; rintro e w' ⟨rfl, hbc⟩))
  rename_i hH
  have hb2 := bel_on (unhide HBX) hH.1
  have hh2 := (hH.1.block _ (lt_of_block (unhide HX1))).trans (unhide HX1)
  have c0 := cell_of hh2 0 _ rfl
  have c1 := cell_of hh2 1 _ rfl
  have c2 := cell_of hh2 2 _ rfl
  have c3 := cell_of hh2 3 _ rfl
  have c4 := cell_of hh2 4 _ rfl
  have c5 := cell_of hh2 5 _ rfl
  have xp2 := hH.2.2.2
  have hpl := World.block_lt_of_cell? _ _ xp2
  have hhp := (hb2.block p hpw).trans (unhide HBOX)
  have HB2 := hide hb2
  have INS : Hid (∀ W, W.heap = (w'.alloc (.cells #[.int .i64 y.1.1, .int .i64 y.1.2.1, .int .i64 (cv y.1), .slice y.2.1 y.2.2.1 y.2.2.2, .int .i64 (ch y.1), .bool (cr y.1)] 124)).heap → W.os = w'.os → W.tape = w'.tape → W.output = w'.output →
      Calls Tryz.prog 254 #[.slice a n c, .int .i64 k, .slice (some ⟨w'.heap.size, 0, none⟩) 1 1] W fun e w4 => ∃ a' c', e = .returned (.slice a' (n + 1) c') ∧ w4.cell? ⟨p, 0, none⟩ = some (.slice a n c) ∧ w4.frozen? ⟨p, 0, none⟩ = false ∧ p < w4.heap.size ∧ Hid (w4.ownsRow w0.heap.size 124 6 (.slice a' (n + 1) c') (n + 1) (flatC (K.take k ++ y :: K.drop k)) ∧ Gr w w4 (PuS p (.slice a n c)) ∧ ((Value.slice a' (n + 1) c').ownBlock = (Value.slice a n c).ownBlock ∨ ∀ k, (Value.slice a' (n + 1) c').ownBlock = some k → w.heap.size ≤ k) ∧ w4.heap[p]? = some (.cells #[.slice a n c] 235 (0, 0)))) := by
    intro W hW1 hW2 hW3 hW4
    have hbw : Below w'.heap.size w' W := ⟨hW2, hW3, hW4, by rw [hW1]; simp, fun i hi => by rw [hW1]; exact Below.heap_alloc w' _ i hi⟩
    have hbw2 := bel_on hb2 hbw
    have hOW : W.ownsRow w0.heap.size 124 6 (.slice a n c) n (flatC K) := (Gr.of (S := fun _ => False) hbw2).own (unhide HO) (fun _ _ q => q)
    have hvb : W.heap[w'.heap.size]? = some (.cells (flatC [y]).toArray 124 (0, 0)) := by rw [hW1]; exact six_heap _ _ _ _ _ _ _ _
    have hsz : w.heap.size < W.heap.size := Nat.lt_of_lt_of_le (lt_of_block hh2) hbw.size
    refine (insertCoin_any w0.heap.size a n c k w'.heap.size K y W hkn hn (unhide HN') (Nat.le_trans (unhide HP).bel.size (Nat.le_of_lt hsz)) hOW hvb ?_).mono ?_
    · intro e
      have := (unhide HO).lt _ e
      have h3 := hb2.size
      omega
    · rintro e w4 ⟨v', rfl, ho4, hg4, hn4⟩
      obtain ⟨a', c', rfl⟩ := own_slice ho4
      have hp4 : w4.heap[p]? = some (.cells #[.slice a n c] 235 (0, 0)) := by
        rw [hg4.block p (Nat.lt_trans hpw hsz) (fun e => (unhide HNE) e.symm), hbw2.block p hpw]
        exact unhide HBOX
      refine ⟨a', c', rfl, cell_of (X := [.slice a n c]) hp4 0 _ rfl, frozen_of hp4 0, lt_of_block hp4, ho4, (Gr.of hbw2).grown hg4 (fun k hk => .inl (.inr hk)), ?_, hp4⟩
      · rcases hn4 with q | q
        · exact .inl q
        · exact .inr fun k hk => Nat.le_trans (Nat.le_of_lt hsz) (q k hk)
  clear hH hbc hb2 hh2 xp x0 x1 hhp
  go_wp2_with fail
  go_region_with (go_at_call 254; refine ((unhide INS) _ ?_ ?_ ?_ ?_).mono ?_; rfl; rfl; rfl; rfl; rintro e w4 ⟨a', c', rfl, p4, p4f, p4l, H4⟩)
  all_goals
    go_wp2
    go_ret
    obtain ⟨ho4, hg4, hn4, hp4⟩ := unhide H4
    have hp := unhide HP
    have hl : (K.take k ++ y :: K.drop k).length = n + 1 := by
      have := unhide HN'
      simp only [List.length_append, List.length_take, List.length_cons, List.length_drop]
      omega
    have hnp : (Value.slice a' (n + 1) c').ownBlock ≠ some p := fun e => by
      rcases hn4 with q | q
      · rw [q] at e; exact (unhide HNE) e
      · have := q p e; omega
    have hsub : ∀ z ∈ K.take k ++ y :: K.drop k, z = y ∨ z ∈ K := fun z hz => by
      rcases List.mem_append.1 hz with q | q
      · exact .inr (List.mem_of_mem_take q)
      · rcases List.mem_cons.1 q with q | q
        · exact .inl q
        · exact .inr (List.mem_of_mem_drop q)
    have hgr := hg4.one p 0 (.inl (.inl rfl)) (.slice a' (n + 1) c')
    refine ⟨.slice a' (n + 1) c', K.take k ++ y :: K.drop k, rfl, (unhide HPD).symm, hsub, by rw [hl, unhide HN'], ⟨?_, hp.ge, box_set hp4, ?_, hnp, ?_⟩, ?_, ?_⟩
    · refine hgr.below hp.bel hp.bel.size (fun k hk => ?_)
      rcases hk with rfl | hk
      · exact hp.ge
      · exact own_lo (unhide HO) k hk
    · rw [hl]
      exact ((Gr.refl w4 (fun k => k = p)).one p 0 (.inl rfl) _).own ho4 (fun k hk e => hnp (by rw [hk, e]))
    · intro z hz
      rcases hsub z hz with rfl | q
      · exact unhide HY
      · exact hp.lk z q
    · rw [unhide HN']; exact hgr
    · rw [unhide HN']; exact hn4

end Go.Proofs.YtmomfkikogbdeaaGreatDoor

/- What doing and undoing a transaction makes of coins, in plain functions. Nothing of the program. -/
namespace Go.Proofs.YtmomfkikogbdeaaGreatDoor

/-- In by in: what is wrong, what was spent, what is left. -/
def spendGo (h : Int) : List InD → List CoinD → List CoinD → Int × List CoinD × List CoinD
  | [], S, L => (0, S, L)
  | x :: r, S, L => match takeD (x.1, x.2.1) L with
    | none => (7, [], [])
    | some (c, M) => if cr c = true ∧ h < ch c + 2 then (10, [], []) else if opensB (ck c) x.2.2 h = false then (8, [], []) else spendGo h r (S ++ [c]) M
def newC (name : Int) (i : Nat) (o : OutD) (h : Int) (r : Bool) : CoinD := (name, (i : Int), o.1, o.2, h, r)
def giveGo (name h : Int) (r : Bool) : Nat → List OutD → List CoinD → Int × List CoinD
  | _, [], L => (0, L)
  | i, o :: q, L => if hasP (name, (i : Int)) L = true then (6, []) else giveGo name h r (i + 1) q (putC (newC name i o h r) L)
def okN (n : Int) : Bool := decide (1 ≤ n) && decide (n ≤ 120)
def isR (t : TxD) : Bool := decide (t.2.1.length = 0)
def ckBoth (L : List CoinD) (t : TxD) : Int := if ckCoins L ≠ 0 then ckCoins L else chkTx t
def ckApply (L : List CoinD) (t : TxD) (name h : Int) : Int :=
  if ckBoth L t ≠ 0 then ckBoth L t else if (okN name && okH h) = false then 3 else if isR t = true ∧ t.1 ≠ h then 4 else 0
def covD (S : List CoinD) (t : TxD) : Int := if sumC S - sumO t.2.2 < 0 ∧ isR t = false then 9 else 0
/-- What is wrong, what comes, what was spent. -/
def apD (L : List CoinD) (t : TxD) (name h : Int) : Int × List CoinD × List CoinD :=
  if ckApply L t name h ≠ 0 then (ckApply L t name h, [], [])
  else
    if (spendGo h t.2.1 [] L).1 ≠ 0 then ((spendGo h t.2.1 [] L).1, [], [])
    else if covD (spendGo h t.2.1 [] L).2.1 t ≠ 0 then (covD (spendGo h t.2.1 [] L).2.1 t, [], [])
    else if (giveGo name h (isR t) 0 t.2.2 (spendGo h t.2.1 [] L).2.2).1 ≠ 0 then ((giveGo name h (isR t) 0 t.2.2 (spendGo h t.2.1 [] L).2.2).1, [], [])
    else if ckCoins (giveGo name h (isR t) 0 t.2.2 (spendGo h t.2.1 [] L).2.2).2 ≠ 0 then (ckCoins (giveGo name h (isR t) 0 t.2.2 (spendGo h t.2.1 [] L).2.2).2, [], [])
    else (0, (giveGo name h (isR t) 0 t.2.2 (spendGo h t.2.1 [] L).2.2).2, (spendGo h t.2.1 [] L).2.1)
end Go.Proofs.YtmomfkikogbdeaaGreatDoor

/- The machine of package lock in memory: what its nineteen cells hold, and what a store into one of them turns. -/
namespace Go.Proofs.YtmomfkikogbdeaaGreatDoor
open Go.RowKit

def MS.cells (s : MS) : Array Value := (s.cs.map (Value.int .i64) ++ ([Value.int .i64 s.n, Value.int .i64 s.h, Value.bool s.f] : List Value)).toArray

theorem MS.cells_stack {s : MS} (hs : s.ok) (i : Nat) (hi : i < 16) : s.cells[i]? = some (.int .i64 (s.cs.getD i 0)) := by
  have hl : i < s.cs.length := by rw [hs.1]; exact hi
  simp [MS.cells, List.getElem?_append_left, hl]
theorem MS.cells_n {s : MS} (hs : s.ok) : s.cells[16]? = some (.int .i64 s.n) := by
  have hl := hs.1
  simp [MS.cells, hl]
theorem MS.cells_h {s : MS} (hs : s.ok) : s.cells[17]? = some (.int .i64 s.h) := by
  have hl := hs.1
  simp [MS.cells, hl]
theorem MS.cells_f {s : MS} (hs : s.ok) : s.cells[18]? = some (.bool s.f) := by
  have hl := hs.1
  simp [MS.cells, hl]

theorem MS.set_stack {s : MS} (hs : s.ok) (i : Nat) (hi : i < 16) (x : Int) : s.cells.setIfInBounds i (.int .i64 x) = MS.cells { s with cs := s.cs.set i x } := by
  have hl : i < (s.cs.map (Value.int .i64)).length := by rw [List.length_map, hs.1]; exact hi
  simp only [MS.cells, List.setIfInBounds_toArray, List.set_append_left _ _ hl, List.map_set]
theorem MS.set_n {s : MS} (hs : s.ok) (n : Nat) : s.cells.setIfInBounds 16 (.int .i64 n) = MS.cells { s with n := n } := by
  have hl : (s.cs.map (Value.int .i64)).length = 16 := by rw [List.length_map, hs.1]
  simp only [MS.cells, List.setIfInBounds_toArray]
  rw [List.set_append_right _ _ (by omega), hl]; rfl
theorem MS.set_f {s : MS} (hs : s.ok) (b : Bool) : s.cells.setIfInBounds 18 (.bool b) = MS.cells { s with f := b } := by
  have hl : (s.cs.map (Value.int .i64)).length = 16 := by rw [List.length_map, hs.1]
  simp only [MS.cells, List.setIfInBounds_toArray]
  rw [List.set_append_right _ _ (by omega), hl]; rfl

/-- Block p is the machine s; all other blocks of W are as they are in W. -/
structure Mach (p : Nat) (s : MS) (W w : World) : Prop where
  good : s.ok
  block : w.heap[p]? = some (.cells s.cells 360 (0, 0))
  old : ∀ k, k ≠ p → k < W.heap.size → w.heap[k]? = W.heap[k]?
  size : W.heap.size ≤ w.heap.size
  os : w.os = W.os
  tape : w.tape = W.tape
  output : w.output = W.output

theorem Mach.lt {p : Nat} {s : MS} {W w : World} (h : Mach p s W w) : p < w.heap.size := lt_of_block h.block
theorem Mach.cell {p : Nat} {s : MS} {W w : World} (h : Mach p s W w) (i : Nat) : w.cell? ⟨p, i, none⟩ = s.cells[i]? := by simp [World.cell?, h.block]
theorem Mach.cell_n {p : Nat} {s : MS} {W w : World} (h : Mach p s W w) : w.cell? ⟨p, 16, none⟩ = some (.int .i64 s.n) := by rw [h.cell, MS.cells_n h.good]
theorem Mach.cell_h {p : Nat} {s : MS} {W w : World} (h : Mach p s W w) : w.cell? ⟨p, 17, none⟩ = some (.int .i64 s.h) := by rw [h.cell, MS.cells_h h.good]
theorem Mach.cell_f {p : Nat} {s : MS} {W w : World} (h : Mach p s W w) : w.cell? ⟨p, 18, none⟩ = some (.bool s.f) := by rw [h.cell, MS.cells_f h.good]
theorem Mach.cell_s {p : Nat} {s : MS} {W w : World} (h : Mach p s W w) (i : Nat) (hi : i < 16) : w.cell? ⟨p, i, none⟩ = some (.int .i64 (s.cs.getD i 0)) := by rw [h.cell, MS.cells_stack h.good i hi]
theorem Mach.free {p : Nat} {s : MS} {W w : World} (h : Mach p s W w) (i : Nat) : w.frozen? ⟨p, i, none⟩ = false := by simp [World.frozen?, h.block]

theorem Mach.store {p : Nat} {s s' : MS} {W w : World} (h : Mach p s W w) (i : Nat) (v : Value) (e : s.cells.setIfInBounds i v = s'.cells) (g : s'.ok) : Mach p s' W (w.setCell ⟨p, i, none⟩ v) where
  good := g
  block := by
    rw [heap_setCell_same w p i s.cells 360 v h.block, e]
  old := fun k hk hl => by rw [heap_setCell_other w ⟨p, i, none⟩ k v hk]; exact h.old k hk hl
  size := by rw [World.size_setCell]; exact h.size
  os := h.os
  tape := h.tape
  output := h.output

theorem Mach.drew {p : Nat} {s : MS} {W w : World} (h : Mach p s W w) : Mach p s W w.drew := ⟨h.good, h.block, h.old, h.size, h.os, h.tape, h.output⟩
theorem Mach.drewN {p : Nat} {s : MS} {W w : World} (h : Mach p s W w) (n : Nat) : Mach p s W (w.drewN n) := ⟨h.good, h.block, h.old, h.size, h.os, h.tape, h.output⟩
theorem Mach.alloc {p : Nat} {s : MS} {W w : World} (h : Mach p s W w) (o : Obj) : Mach p s W (w.alloc o) where
  good := h.good
  block := by rw [Below.heap_alloc w o p h.lt]; exact h.block
  old := fun k hk hl => by rw [Below.heap_alloc w o k (Nat.lt_of_lt_of_le hl h.size)]; exact h.old k hk hl
  size := by have := h.size; simp; omega
  os := h.os
  tape := h.tape
  output := h.output

/-- A cell of another block reads as it did. -/
theorem Mach.past {p : Nat} {s : MS} {W w : World} (h : Mach p s W w) (q : Addr) (hq : q.block ≠ p) (hl : q.block < W.heap.size) : w.cell? q = W.cell? q := World.cell?_of_block (w := W) (h.old q.block hq hl)

theorem Mach.below {p : Nat} {s : MS} {W w : World} (h : Mach p s W w) (hp : W.heap.size ≤ p) : Below W.heap.size W w :=
  ⟨h.os, h.tape, h.output, h.size, fun k hk => h.old k (by omega) hk⟩

/-- Over a later world, told over the first. -/
theorem Mach.trans {p : Nat} {s s' : MS} {W V w : World} (h : Mach p s W V) (k : Mach p s' V w) : Mach p s' W w where
  good := k.good
  block := k.block
  old := fun j hj hl => by rw [k.old j hj (Nat.lt_of_lt_of_le hl h.size)]; exact h.old j hj hl
  size := Nat.le_trans h.size k.size
  os := k.os.trans h.os
  tape := k.tape.trans h.tape
  output := k.output.trans h.output

/-- A machine in a world, told over that world. -/
theorem Mach.self {p : Nat} {s : MS} {W w : World} (h : Mach p s W w) : Mach p s w w := ⟨h.good, h.block, fun _ _ _ => rfl, Nat.le_refl _, rfl, rfl, rfl⟩

end Go.Proofs.YtmomfkikogbdeaaGreatDoor

/- Contracts of the machine's smallest functions: bounds, put, take, fail. -/
namespace Go.Proofs.YtmomfkikogbdeaaGreatDoor
open Go.RowKit

set_option maxHeartbeats 400000 in
theorem isHeight_is (n : Int) (b : Bool) (w : World) (hb : b = hOk n) :
    Calls Tryz.prog 252 #[.int .i64 n] w fun e w' => e = .returned (.bool b) ∧ w = w' := by
  have HB := hide hb
  clear hb
  go_enter Tryz.func252, Tryz.ntmps252
  go_wp2_with (go_at_call 103; refine (within_is _ _ _ b _ (unhide HB)).mono ?_; rintro e w' ⟨rfl, rfl⟩)
  go_ret
  exact ⟨rfl, rfl⟩

set_option maxHeartbeats 400000 in
theorem fail_any (p : Nat) (s : MS) (W w : World) (hm : Mach p s W w) :
    Calls Tryz.prog 313 #[.pointer (some ⟨p, 0, none⟩)] w fun e w' => e = .returned (.tuple #[]) ∧ Mach p s.fail W w' := by
  have c1 := hm.cell_f
  have c2 := hm.free 18
  have HM := hide hm
  clear hm
  go_enter Tryz.func313, Tryz.ntmps313
  go_wp2
  go_end0
  exact ⟨rfl, (unhide HM).store 18 _ (MS.set_f (unhide HM).good true) (unhide HM).good.fail_ok⟩

theorem put_full {s : MS} {x : Int} (h : s.n = 16 ∨ fit x = false) : s.put x = s.fail := by unfold MS.put; rw [if_pos h]; rfl
theorem put_room {s : MS} {x : Int} (h1 : s.n ≠ 16) (h2 : fit x = true) : s.put x = { s with cs := s.cs.set s.n x, n := s.n + 1 } := by unfold MS.put; rw [if_neg (by simp [h1, h2])]

set_option maxHeartbeats 800000 in
theorem put_any (p : Nat) (s : MS) (x : Int) (W w : World) (hm : Mach p s W w) :
    Calls Tryz.prog 303 #[.pointer (some ⟨p, 0, none⟩), .int .i64 x] w fun e w' => e = .returned (.tuple #[]) ∧ Mach p (s.put x) W w' := by
  have hn := hm.good.2.1
  have c1 := hm.cell_n
  have HM := hide hm
  by_cases h1 : s.n = 16
  · rw [put_full (Or.inl h1)]
    rw [h1] at c1
    clear hm hn
    go_enter Tryz.func303, Tryz.ntmps303
    go_wp2_with (go_at_call 313; refine (fail_any p s W _ (unhide HM)).mono ?_; rintro e w' ⟨rfl, hm'⟩)
    first | go_end0 | (simp only [Exit.inBlock, Exit.then]; refine bodyPost_ret (results_none rfl _ _ _) rfl ?_) | refine bodyPost_ret (results_none rfl _ _ _) rfl ?_
    exact ⟨rfl, by assumption⟩
  · have g1 : ((s.n : Int) == 16) = false := by simp; omega
    by_cases h2 : fit x = true
    · rw [put_room h1 h2]
      have c2 := hm.cell_s s.n (by omega)
      have c3 := hm.free s.n
      have c4 := hm.free 16
      have c5 : ((w.setCell ⟨p, s.n, none⟩ (.int .i64 x))).cell? ⟨p, 16, none⟩ = some (.int .i64 s.n) := by
        rw [World.cell?_setCell_other]
        · exact c1
        · exact fun e => h1 (congrArg Addr.off e)
      have g2 : (s.n : Int) < 16 := by omega
      have H1 := hide h1
      have H2 := hide h2
      clear hm h1 h2
      go_enter Tryz.func303, Tryz.ntmps303
      go_wp2_with (go_at_call 302; refine (fits_is _ true _ (unhide H2).symm).mono ?_; rintro e w' ⟨rfl, rfl⟩)
      go_region
      all_goals go_wp2
      all_goals go_end0
      all_goals
        refine ⟨rfl, Mach.drew ?_⟩
        have hm := unhide HM
        have g := hm.good.put_ok x
        rw [put_room (unhide H1) (unhide H2)] at g
        have ok1 : MS.ok { s with cs := s.cs.set s.n x } := ⟨g.1, hm.good.2.1, g.2.2⟩
        exact (hm.store s.n _ (MS.set_stack hm.good s.n (by omega) x) ok1).store 16 _ (MS.set_n ok1 (s.n + 1)) g
    · have h3 : fit x = false := by simpa using h2
      rw [put_full (Or.inr h3)]
      have H3 := hide h3
      clear hm h2 h3 h1
      go_enter Tryz.func303, Tryz.ntmps303
      go_wp2_with (first | (go_at_call 302; refine (fits_is _ false _ (unhide H3).symm).mono ?_; rintro e w' ⟨rfl, rfl⟩) | (go_at_call 313; refine (fail_any p s W _ (unhide HM)).mono ?_; rintro e w' ⟨rfl, hm'⟩))
      first | go_end0 | (simp only [Exit.inBlock, Exit.then]; refine bodyPost_ret (results_none rfl _ _ _) rfl ?_) | refine bodyPost_ret (results_none rfl _ _ _) rfl ?_
      exact ⟨rfl, by assumption⟩

theorem take_none {s : MS} (h : s.n = 0) : s.take = s.fail := by unfold MS.take; rw [if_pos h]; rfl
theorem take_some {s : MS} (h : s.n ≠ 0) : s.take = { s with n := s.n - 1 } := by unfold MS.take; rw [if_neg h]
theorem top_none {s : MS} (h : s.n = 0) : s.top = 0 := by unfold MS.top; rw [if_pos h]
theorem top_some {s : MS} (h : s.n ≠ 0) : s.top = s.cs.getD (s.n - 1) 0 := by unfold MS.top; rw [if_neg h]

set_option maxHeartbeats 800000 in
theorem take_any (p : Nat) (s : MS) (W w : World) (hm : Mach p s W w) :
    Calls Tryz.prog 333 #[.pointer (some ⟨p, 0, none⟩)] w fun e w' => e = .returned (.int .i64 s.top) ∧ Mach p s.take W w' := by
  have hn := hm.good.2.1
  have c1 := hm.cell_n
  have HM := hide hm
  by_cases h1 : s.n = 0
  · rw [take_none h1, top_none h1]
    rw [h1] at c1
    clear hm hn
    go_enter Tryz.func333, Tryz.ntmps333
    go_wp2_with (go_at_call 313; refine (fail_any p s W _ (unhide HM)).mono ?_; rintro e w' ⟨rfl, hm'⟩)
    go_ret
    exact ⟨rfl, by assumption⟩
  · obtain ⟨m, hm1⟩ : ∃ m, s.n = m + 1 := ⟨s.n - 1, by omega⟩
    have e1 : s.take = { s with n := m } := by rw [take_some h1, hm1]; rfl
    have e2 : s.top = s.cs.getD m 0 := by rw [top_some h1, hm1]; rfl
    rw [e1, e2]
    have g1 : (((m : Int) + 1) == 0) = false := by simp; omega
    rw [hm1] at c1
    have c2 : (w.setCell ⟨p, 16, none⟩ (.int .i64 m)).cell? ⟨p, m, none⟩ = some (.int .i64 (s.cs.getD m 0)) := by
      rw [World.cell?_setCell_other]
      · exact hm.cell_s m (by omega)
      · exact fun e => absurd (congrArg Addr.off e) (by show ¬ (16 = m); omega)
    have c3 : (w.setCell ⟨p, 16, none⟩ (.int .i64 m)).cell? ⟨p, 16, none⟩ = some (.int .i64 m) := World.cell?_setCell_same _ _ _ hm.cell_n
    have c4 := hm.free 16
    have g2 : (m : Int) < 16 := by omega
    have H1 := hide hm1
    obtain ⟨t, ht⟩ : ∃ t, t = s.cs.getD m 0 := ⟨_, rfl⟩
    rw [← ht] at c2 ⊢
    clear hm h1 hm1 hn e1 e2 ht
    go_enter Tryz.func333, Tryz.ntmps333
    go_wp2
    go_quiet (fail)
    go_wp2
    go_ret
    refine ⟨rfl, Mach.drewN ?_ _⟩
    have hm := unhide HM
    have h1 := unhide H1
    exact hm.store 16 _ (MS.set_n hm.good m) ⟨hm.good.1, by show m ≤ 16; omega, hm.good.2.2⟩

end Go.Proofs.YtmomfkikogbdeaaGreatDoor

/- Contracts of putAll: a stack is put on the machine. -/
namespace Go.Proofs.YtmomfkikogbdeaaGreatDoor
open Go.RowKit

set_option maxHeartbeats 400000 in
theorem putAll_none (p : Nat) (s : MS) (a : Option Addr) (cap : Nat) (W w : World) (hm : Mach p s W w) :
    Calls Tryz.prog 280 #[.pointer (some ⟨p, 0, none⟩), .slice a 0 cap] w fun e w' => e = .returned (.tuple #[]) ∧ Mach p s W w' := by
  have HM := hide hm
  clear hm
  go_enter Tryz.func280, Tryz.ntmps280
  go_wp2
  refine wp_loop_rounds 1 ?_
  rw [rounds_succ]
  go_wp2
  go_end0
  exact ⟨rfl, unhide HM⟩

set_option maxHeartbeats 800000 in
theorem putAll_some (p : Nat) (s : MS) (b off len cap : Nat) (Z : List Int) (W w : World) (hm : Mach p s W w) (hp : W.heap.size ≤ p) (hz : Z.length = len) (hl : len ≤ maxLen)
    (hb : b < W.heap.size) (hc : ∀ i, i < len → W.cell? ⟨b, off + i, none⟩ = some (.int .i64 (Z.getD i 0))) :
    Calls Tryz.prog 280 #[.pointer (some ⟨p, 0, none⟩), .slice (some ⟨b, off, none⟩) len cap] w fun e w' => e = .returned (.tuple #[]) ∧ ∃ s', Mach p s' W w' ∧ s'.h = s.h ∧ s'.rep = s.rep.bind (fun L => putsL L Z) := by
  have HM := hide hm
  have HC := hide hc
  have HZ := hide hz
  unfold maxLen at hl
  clear hm hc hz
  go_enter Tryz.func280, Tryz.ntmps280
  go_wp2
  go_loopw [8] (fun i wr => ∃ (k : Nat) (s' : MS), k ≤ len ∧ i = .int .i64 k ∧ Mach p s' W wr ∧ s'.h = s.h ∧ s'.rep = s.rep.bind (fun L => putsL L (Z.take k))) (fun i _ => len - (intOf i).toNat)
  case atStart => exact ⟨0, s, Nat.zero_le _, rfl, unhide HM, rfl, by cases s.rep <;> rfl⟩
  case round =>
    obtain ⟨k, s', hk, rfl, hm, hh, hr⟩ := hrel
    have HM' := hide hm
    have HH := hide hh
    have HR := hide hr
    clear hh hr
    by_cases hlt : k < len
    · have c1 : wr.cell? ⟨b, off + k, none⟩ = some (.int .i64 (Z.getD k 0)) := (hm.past ⟨b, off + k, none⟩ (by show b ≠ p; omega) hb).trans ((unhide HC) k hlt)
      obtain ⟨x, hx⟩ : ∃ x, x = Z.getD k 0 := ⟨_, rfl⟩
      rw [← hx] at c1
      have HX := hide hx
      clear hm hx
      go_wp2_with fail
      refine (put_any p s' x W _ (unhide HM')).mono ?_
      rintro e w1 ⟨rfl, hm1⟩
      have HM1 := hide hm1
      clear hm1
      go_wp2
      go_roundw
      case rel =>
        refine ⟨k + 1, s'.put x, by omega, by go_num, unhide HM1, (MS.put_h _ _).trans (unhide HH), ?_⟩
        have hkl : k < Z.length := by rw [unhide HZ]; exact hlt
        have ex : x = Z[k] := by rw [unhide HX]; simp [hkl]
        rw [MS.rep_put (unhide HM').good, unhide HR, List.take_succ_eq_append_getElem hkl, ex]
        cases s.rep with
        | none => rfl
        | some L => exact (putsL_snoc _ _ _).symm
      case measure => simp [intOf]; omega
    · clear hm
      go_wp2
      go_end0
      have e : k = len := by omega
      subst e
      refine ⟨rfl, s', unhide HM', unhide HH, ?_⟩
      rw [unhide HR, ← unhide HZ, List.take_length]

/-- What a machine holds behind putAll: the stack, if it may be one. -/
theorem putAll_any (p : Nat) (s : MS) (a : Option Addr) (len cap : Nat) (Z : List Int) (W w : World) (hm : Mach p s W w) (hp : W.heap.size ≤ p) (hR : RowAt W a len Z) :
    Calls Tryz.prog 280 #[.pointer (some ⟨p, 0, none⟩), .slice a len cap] w fun e w' => e = .returned (.tuple #[]) ∧ ∃ s', Mach p s' W w' ∧ s'.h = s.h ∧ s'.rep = s.rep.bind (fun L => putsL L Z) := by
  obtain ⟨hz, hl, hc⟩ := hR
  by_cases h : len = 0
  · subst h
    have e : Z = [] := List.length_eq_zero_iff.1 hz
    subst e
    exact (putAll_none p s a cap W w hm).mono fun e w' ⟨x, y⟩ => ⟨x, s, y, rfl, by cases s.rep <;> rfl⟩
  · obtain ⟨b, off, rfl, hcell⟩ := hc (by omega)
    exact putAll_some p s b off len cap Z W w hm hp hz hl (World.block_lt_of_cell? _ _ (hcell 0 (by omega))) hcell

end Go.Proofs.YtmomfkikogbdeaaGreatDoor
