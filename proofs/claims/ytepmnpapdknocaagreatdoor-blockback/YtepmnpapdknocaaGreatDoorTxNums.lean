/- The contract of what reads a row of numbers. -/
import Derived.Test.YtepmnpapdknocaaGreatDoorTxCheckCToTxCheckD
import Derived.Test.YtepmnpapdknocaaGreatDoorLockRead
namespace Go.Proofs.YtepmnpapdknocaaGreatDoor
open Go.RowKit

/-- The pieces of a text between signs c. -/
def spl (c : UInt8) (s : ByteArray) : List ByteArray := Lib.splitB ⟨#[c]⟩ 0 (Lib.countB s ⟨#[c]⟩) s
theorem spl_len (c : UInt8) (s : ByteArray) : (spl c s).length = Lib.countB s ⟨#[c]⟩ + 1 := Lib.splitB_all ⟨#[c]⟩ (Nat.le_refl 1) 0 _ s rfl
theorem spl_pos (c : UInt8) (s : ByteArray) : 0 < (spl c s).length := by rw [spl_len]; omega
theorem spl_many (c : UInt8) (s : ByteArray) (hs : s.size ≤ 4000) : (spl c s).length ≤ 4002 := by
  rw [spl_len]
  have : Lib.countB s ⟨#[c]⟩ ≤ s.size + 1 := Lib.count_le s.data.toList [c]
  omega
theorem spl_small (c : UInt8) (s x : ByteArray) (h : x ∈ spl c s) : x.size ≤ s.size := split_small _ _ _ _ h

def numAll (r : List ByteArray) : Option (List Int) := if r.all (fun x => (numOf x).isSome) then some (r.map fun x => (numOf x).getD 0) else none
/-- The numbers of a row that opens with a word. -/
def rowOf (s word : ByteArray) (count : Nat) : Option (List Int) := if (spl 32 s).getD 0 ⟨#[]⟩ = word ∧ (spl 32 s).length = count + 1 then numAll ((spl 32 s).drop 1) else none

theorem ba_list {a b : ByteArray} (h : a.toList = b.toList) : a = b := by
  rw [ByteArray.toList_eq, ByteArray.toList_eq] at h
  cases a with | mk d => cases b with | mk e => cases d; cases e; simp at h; rw [h]

theorem split_at (c : UInt8) (s : ByteArray) (hs : s.size ≤ 4000) (w : World) (hE : EnvP w) :
    Calls Tryz.prog 98 #[.string s, .string ⟨#[c]⟩] w fun e w' => e = .returned (.slice (some ⟨w.heap.size, 0, none⟩) (spl c s).length (spl c s).length) ∧ w' = w.alloc (.cells ((spl c s).map Value.string).toArray 9) := by
  have h := Tryz.strings_Split_shaped s ⟨#[c]⟩ w hE.shp (by omega) (Nat.le_refl 1)
  rw [← spl_len] at h
  exact h
theorem strs_new (w : World) (ws : List ByteArray) (i : Nat) (hi : i < ws.length) : (w.alloc (.cells (ws.map Value.string).toArray 9)).cell? ⟨w.heap.size, i, none⟩ = some (.string (ws.getD i ⟨#[]⟩)) := by
  rw [World.cell?_alloc_at _ _ _ _ rfl]
  simp [hi]

def numV (r : List ByteArray) (j : Nat) : Value := .int .i64 ((r.map fun x => (numOf x).getD 0).getD j 0)

theorem numAll_none {r : List ByteArray} {k : Nat} (hk : k < r.length) (h : numOf r[k] = none) : numAll r = none := by
  unfold numAll
  rw [if_neg]
  intro ha
  have := List.all_eq_true.1 ha r[k] (List.getElem_mem hk)
  rw [h] at this
  cases this
theorem numAll_some {r : List ByteArray} (h : ∀ j, j < r.length → (numOf (r.getD j ⟨#[]⟩)).isSome = true) : numAll r = some (r.map fun x => (numOf x).getD 0) := by
  unfold numAll
  rw [if_pos]
  rw [List.all_eq_true]
  intro x hx
  obtain ⟨j, hj, rfl⟩ := List.getElem_of_mem hx
  have := h j hj
  simpa [hj] using this

set_option maxRecDepth 10000 in
set_option maxHeartbeats 3200000 in
theorem parseRow_bad (s word : ByteArray) (count : Nat) (ct : Int) (hct : ct = (count : Int)) (hs : s.size ≤ 4000) (hn : count ≤ 6) (w : World) (hE : EnvP w)
    (hno : ¬ ((spl 32 s).getD 0 ⟨#[]⟩ = word ∧ (spl 32 s).length = count + 1)) :
    Calls Tryz.prog 55 #[.string s, .string word, .int .i64 ct] w fun e w' => e = .returned (.tuple #[.slice none 0 0, .bool false]) ∧ Below w.heap.size w w' := by
  subst hct
  have SP := hide (split_at 32 s hs w hE)
  have hm := spl_many 32 s hs
  have h0 := strs_new w (spl 32 s) 0 (spl_pos 32 s)
  have hp := spl_pos 32 s
  obtain ⟨ws, hws⟩ : ∃ ws, spl 32 s = ws := ⟨_, rfl⟩
  rw [hws] at SP hno hm h0 hp
  obtain ⟨n, hn2⟩ : ∃ n, ws.length = n := ⟨_, rfl⟩
  obtain ⟨x, hx⟩ : ∃ x, ws.getD 0 ⟨#[]⟩ = x := ⟨_, rfl⟩
  rw [hn2] at SP hno hm hp
  rw [hx] at hno h0
  have HC0 := hide h0
  clear hE hws hn2 hx h0
  by_cases h1 : x = word
  · subst h1
    have h2 : n ≠ count + 1 := fun e => hno ⟨rfl, e⟩
    have g1 : (x.toList == x.toList) = true := by simp
    have g2 : ((n : Int) != (count : Int) + 1) = true := by simp; omega
    clear hno h2
    go_enter Tryz.func55, Tryz.ntmps55
    go_wp2_with fail
    refine (unhide SP).mono ?_
    rintro e w1 ⟨rfl, hw1⟩
    have c0 := unhide HC0
    rw [← hw1] at c0
    have HB : Hid (Below w.heap.size w w1) := by rw [hw1]; exact bel_new _ _
    clear hw1
    go_wp2
    go_ret2
    exact ⟨rfl, unhide HB⟩
  · have g1 : (x.toList == word.toList) = false := by
      rw [beq_eq_false_iff_ne]; exact fun e => h1 (ba_list e)
    clear hno h1
    go_enter Tryz.func55, Tryz.ntmps55
    go_wp2_with fail
    refine (unhide SP).mono ?_
    rintro e w1 ⟨rfl, hw1⟩
    have c0 := unhide HC0
    rw [← hw1] at c0
    have HB : Hid (Below w.heap.size w w1) := by rw [hw1]; exact bel_new _ _
    clear hw1
    go_wp2
    go_ret2
    exact ⟨rfl, unhide HB⟩

set_option maxRecDepth 10000 in
set_option maxHeartbeats 3200000 in
theorem parseRow_good (s word : ByteArray) (count : Nat) (ct : Int) (hct : ct = (count : Int)) (hs : s.size ≤ 4000) (hn : count ≤ 6) (hpos : 0 < count) (w : World) (hE : EnvP w)
    (h1 : (spl 32 s).getD 0 ⟨#[]⟩ = word) (h2 : (spl 32 s).length = count + 1) :
    Calls Tryz.prog 55 #[.string s, .string word, .int .i64 ct] w fun e w' => ∃ a c, e = .returned (.tuple #[.slice a ((numAll ((spl 32 s).drop 1)).getD []).length c, .bool (numAll ((spl 32 s).drop 1)).isSome]) ∧ RowAt w' a ((numAll ((spl 32 s).drop 1)).getD []).length ((numAll ((spl 32 s).drop 1)).getD []) ∧ Below w.heap.size w w' ∧ (∀ x, a = some x → w.heap.size ≤ x.block) := by
  subst hct
  obtain ⟨i0, hi, hz0, hz1, hz2⟩ := info_parts Tryz.infoInt
  have SP := hide (split_at 32 s hs w hE)
  have hc0 := strs_new w (spl 32 s)
  have hsm := spl_small 32 s
  obtain ⟨ws, hws⟩ : ∃ ws, spl 32 s = ws := ⟨_, rfl⟩
  rw [hws] at SP h1 h2 hc0 hsm ⊢
  rw [h2] at SP
  have hdl : (ws.drop 1).length = count := by rw [List.length_drop]; omega
  have HDL := hide hdl
  have HCW := hide hc0
  have HSM := hide hsm
  have H2 := hide h2
  have H1 := hide h1
  have HE := hide hE
  have g1 : (word.toList == word.toList) = true := by simp
  have g2 : (((count + 1 : Nat) : Int) != (count : Int) + 1) = false := by simp
  clear hE hws hdl hc0 hsm h1 h2
  go_enter Tryz.func55, Tryz.ntmps55
  go_wp2_with fail
  refine (unhide SP).mono ?_
  rintro e w1 ⟨rfl, hw1⟩
  have HC : Hid (∀ i, i < count + 1 → w1.cell? ⟨w.heap.size, i, none⟩ = some (.string (ws.getD i ⟨#[]⟩))) := by rw [hw1]; exact fun i hi => (unhide HCW) i (by rw [unhide H2]; exact hi)
  have HB : Hid (Below w.heap.size w w1) := by rw [hw1]; exact bel_new _ _
  have hsz : w.heap.size < w1.heap.size := by rw [hw1]; simp
  have c0 := (unhide HC) 0 (by omega)
  rw [unhide H1] at c0
  clear hw1
  go_wp2_with (at_make; refine wpList_make_full _ rfl _ _ 30 rfl w1.heap.size 3 i0 (.int .i64 0) 1 Tryz.underlying30 hi hz0 hz1 .i64 .i64 _ _ count rfl rfl rfl rfl (by rw [hz2]; omega) (by unfold maxLen; omega) (Nat.le_refl _) ?_; intro w2 hown2 hgrow2)
  have hst : FillV w1.heap.size 3 count (numV (ws.drop 1)) w1 w2 0 := ⟨⟨_, hown2, fun j hj => absurd hj (by omega)⟩, (Below.refl _ _).grown hgrow2 (Nat.le_refl _) (fun k h => by cases h)⟩
  have HST := hide hst
  clear hst hown2 hgrow2 c0
  go_loopw [30] (fun i wr => ∃ k : Nat, k ≤ count ∧ i = .int .i64 k ∧ Hid (∀ j, j < k → (numOf ((ws.drop 1).getD j ⟨#[]⟩)).isSome = true) ∧ FillV w1.heap.size 3 count (numV (ws.drop 1)) w1 wr k) (fun i _ => count - (intOf i).toNat)
  case atStart => exact ⟨0, Nat.zero_le _, rfl, fun j hj => absurd hj (by omega), unhide HST⟩
  case round =>
    obtain ⟨k, hk, rfl, A, hfl⟩ := hrel
    have HF := hide hfl
    have hbw : Below w.heap.size w wr := (unhide HB).trans (hfl.bel.mono (unhide HB).size)
    have HBW := hide hbw
    by_cases hlt : k < count
    · have hlk : k < (ws.drop 1).length := by rw [unhide HDL]; exact hlt
      have c1 := (unhide HC) (k + 1) (by omega)
      rw [← hfl.bel.cell (p := ⟨w.heap.size, k + 1, none⟩) hsz] at c1
      have ex : ws.getD (k + 1) ⟨#[]⟩ = (ws.drop 1).getD k ⟨#[]⟩ := by simp
      have ex2 : (ws.drop 1).getD k ⟨#[]⟩ = (ws.drop 1)[k] := by rw [List.getD_eq_getElem?_getD, List.getElem?_eq_getElem hlk]; rfl
      rw [ex] at c1
      have hxs : ((ws.drop 1).getD k ⟨#[]⟩).size ≤ 4000 := Nat.le_trans ((unhide HSM) _ (by rw [ex2]; exact List.mem_of_mem_drop (List.getElem_mem hlk))) hs
      have NV : Hid (numV (ws.drop 1) k = .int .i64 ((numOf ((ws.drop 1).getD k ⟨#[]⟩)).getD 0)) := by
        show _ = _
        unfold numV
        rw [List.getD_eq_getElem?_getD, List.getElem?_map, List.getElem?_eq_getElem hlk, ex2]; rfl
      have HD := hide (numAll_none hlk)
      rw [← ex2] at HD
      obtain ⟨x, hx⟩ : ∃ x, (ws.drop 1).getD k ⟨#[]⟩ = x := ⟨_, rfl⟩
      rw [hx] at c1 hxs NV HD
      have HX := hide hx
      have NP := hide (numParse_any x hxs wr ((unhide HE).later hbw))
      have hlw : w.heap.size < wr.heap.size := Nat.lt_of_lt_of_le hsz (Nat.le_of_lt hfl.lt)
      clear hfl hbw ex ex2 hx hxs
      cases hq : numOf x with
      | none =>
        have R := hide ((unhide HD) hq)
        rw [hq] at NP
        clear hq HD
        go_wp2_with fail
        refine (unhide NP).mono ?_
        rintro e w3 ⟨rfl, hb3⟩
        have HB3 := hide (bel_on (unhide HBW) hb3)
        clear hb3
        go_wp2
        go_ret2
        rw [unhide R]
        exact ⟨none, 0, rfl, RowAt.nil _ _, unhide HB3, fun x h => by cases h⟩
      | some v =>
        rw [hq] at NP NV
        have HQ := hide hq
        clear hq HD
        go_wp2_with fail
        refine (unhide NP).mono ?_
        rintro e w3 ⟨rfl, hb3⟩
        have hf3 := (unhide HF).keep hb3
        obtain ⟨u, hold⟩ := hf3.old hlt
        have hfree := hf3.free k
        have HF3 := hide hf3
        clear hb3 hf3
        go_wp2
        go_roundw
        case rel =>
          refine ⟨k + 1, by omega, by go_num, (show Hid _ from fun j hj => ?_), (unhide HF3).step hlt (unhide NV).symm⟩
          by_cases e : j = k
          · subst e; rw [unhide HX, unhide HQ]; rfl
          · exact (unhide A) j (by omega)
        case measure => simp [intOf]; omega
    · have e : k = count := by omega
      subst e
      have R := hide (numAll_some (r := ws.drop 1) (by rw [unhide HDL]; exact unhide A))
      have hl : ((ws.drop 1).map fun x => (numOf x).getD 0).length = k := by rw [List.length_map]; exact unhide HDL
      have HL := hide hl
      have HR : Hid (RowAt wr (some ⟨w1.heap.size, 0, none⟩) k ((ws.drop 1).map fun x => (numOf x).getD 0)) := by
        refine ⟨hl, by unfold maxLen; omega, fun _ => ⟨w1.heap.size, 0, rfl, fun i hi => ?_⟩⟩
        rw [Nat.zero_add, hfl.cells (Nat.le_refl _) i hi]; rfl
      clear hfl hbw A hl
      go_wp2
      go_ret2
      rw [unhide R]
      simp only [Option.getD_some, Option.isSome_some]
      rw [unhide HL]
      exact ⟨_, _, rfl, unhide HR, unhide HBW, fun x h => by cases h; exact (unhide HB).size⟩

theorem parseRow_any (s word : ByteArray) (count : Nat) (ct : Int) (hct : ct = (count : Int)) (hs : s.size ≤ 4000) (hn : count ≤ 6) (hpos : 0 < count) (w : World) (hE : EnvP w) (r : Option (List Int)) (hr : rowOf s word count = r) :
    Calls Tryz.prog 55 #[.string s, .string word, .int .i64 ct] w fun e w' => ∃ a c, e = .returned (.tuple #[.slice a (r.getD []).length c, .bool r.isSome]) ∧ RowAt w' a (r.getD []).length (r.getD []) ∧ Below w.heap.size w w' ∧ (∀ x, a = some x → w.heap.size ≤ x.block) := by
  subst hr
  by_cases h : (spl 32 s).getD 0 ⟨#[]⟩ = word ∧ (spl 32 s).length = count + 1
  · have e : rowOf s word count = numAll ((spl 32 s).drop 1) := by unfold rowOf; rw [if_pos h]
    rw [e]
    exact parseRow_good s word count ct hct hs hn hpos w hE h.1 h.2
  · have e : rowOf s word count = none := by unfold rowOf; rw [if_neg h]
    rw [e]
    exact (parseRow_bad s word count ct hct hs hn w hE h).mono fun e w' ⟨h1, h2⟩ => ⟨none, 0, h1, RowAt.nil _ _, h2, fun x h => by cases h⟩

end Go.Proofs.YtepmnpapdknocaaGreatDoor
