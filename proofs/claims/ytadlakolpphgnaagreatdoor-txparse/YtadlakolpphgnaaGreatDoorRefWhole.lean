/- Contracts of the reference's reading of a number, and of its words. -/
import Derived.Test.YtadlakolpphgnaaGreatDoorLockWord
import Derived.Lib.ParseIntBTie
namespace Go.Proofs.YtadlakolpphgnaaGreatDoor
open Go.RowKit

/-- What the variables hold, the table of blanks among them. -/
structure EnvF (w : World) : Prop where
  envp : EnvP w
  spc : Lib.TabIs Tryz.prog w "strings.asciiSpace" .u8 Lib.asciiSpaceTab

theorem Tryz.gSpc : Tryz.prog.globalNamed "strings.asciiSpace" = some 0 := by kernel_rfl

theorem EnvF.later {w w' : World} (h : EnvF w) (hb : Below w.heap.size w w') : EnvF w' :=
  ⟨h.envp.later hb, Joins.var_stays Tryz.gSpc h.spc hb (Nat.le_refl _)⟩

theorem EnvP.synCell {w : World} (h : EnvP w) : ∃ tp p, w.cell? ⟨5, 0, none⟩ = some (.iface tp p) := by
  obtain ⟨tp, p, e⟩ := h.syn
  exact ⟨tp, p, by rw [World.var?_cell Tryz.gSyn e 0]; rfl⟩
theorem EnvP.ranCell {w : World} (h : EnvP w) : ∃ tp p, w.cell? ⟨6, 0, none⟩ = some (.iface tp p) := by
  obtain ⟨tp, p, e⟩ := h.ran
  exact ⟨tp, p, by rw [World.var?_cell Tryz.gRan e 0]; rfl⟩

set_option maxHeartbeats 800000 in
theorem whole_bad (s : ByteArray) (x : Int) (w : World)
    (hA : Calls Tryz.prog 53 #[.string s, .int .i64 10, .int .i64 64] w fun e w' => ∃ N, e = .returned (.tuple #[.int .i64 x, .iface 139 (.pointer (some ⟨N, 0, none⟩))]) ∧ Below w.heap.size w w') :
    Calls Tryz.prog 34 #[.string s] w fun e w' => e = .returned (.tuple #[.int .i64 x, .bool false]) ∧ Below w.heap.size w w' := by
  have HA := hide hA
  clear hA
  go_enter Tryz.func34, Tryz.ntmps34
  go_wp2_with fail
  refine (unhide HA).mono ?_
  rintro e w1 ⟨N, rfl, hb1⟩
  have HB1 := hide hb1
  clear hb1
  go_wp2
  go_ret2
  exact ⟨rfl, unhide HB1⟩

set_option maxHeartbeats 800000 in
theorem whole_ok (s : ByteArray) (v : Int) (hs : s.size ≤ 4000) (hv : Lib.atoiAll s.data.toList = .ok v) (w : World) (hE : EnvP w) :
    Calls Tryz.prog 34 #[.string s] w fun e w' => e = .returned (.tuple #[.int .i64 v, .bool (numOf s).isSome]) ∧ Below w.heap.size w w' := by
  have hbd := atoi_bd hv
  have AO := hide (Tryz.strconv_ParseInt_10_at64_ok s (by omega) v (by rw [Lib.parseIntB_64]; exact hv) w)
  have HE := hide hE
  obtain ⟨t, ht⟩ : ∃ t, t = textB v := ⟨_, rfl⟩
  obtain ⟨q, hq⟩ : ∃ q, q = (numOf s).isSome := ⟨_, rfl⟩
  have g : (t.toList == s.toList) = q := by
    rw [hq, ht]
    by_cases h : (textB v).toList = s.toList
    · have e : numOf s = some v := by unfold numOf; rw [hv]; simp [h]
      rw [e]; simp [h]
    · have e : numOf s = none := by unfold numOf; rw [hv]; simp [h]
      rw [e]; simp [h]
  have IT : Hid (∀ w, Env w → Calls Tryz.prog 54 #[.int .i64 v, .int .i64 10] w fun e w' => e = .returned (.string t) ∧ Below w.heap.size w w') := fun w hw =>
    (Tryz.strconv_FormatInt_10 v hbd.1 hbd.2 w hw.tab).mono fun e w' ⟨h1, k, os, h2⟩ => ⟨by rw [ht]; exact h1, by rw [h2]; exact Lib.below_grow _ _ (Nat.le_refl _) k os⟩
  rw [← hq]
  clear hE hv hbd ht hq
  go_enter Tryz.func34, Tryz.ntmps34
  go_wp2_with fail
  refine (unhide AO).mono ?_
  rintro e w1 ⟨rfl, hw1⟩
  have hb1 : Below w.heap.size w w1 := by
    rcases hw1 with rfl | ⟨u, rfl⟩
    · exact Below.refl _ _
    · exact Joins.below_bytesWorld _ _ _ _ (Nat.le_refl _)
  have HB1 := hide hb1
  clear hb1 hw1
  go_wp2_with fail
  refine ((unhide IT) _ ((unhide HE).later (unhide HB1)).env).mono ?_
  rintro e w2 ⟨rfl, hb2⟩
  have HB2 := hide (bel_tw (unhide HB1) hb2)
  clear hb2
  go_wp2
  go_ret2
  exact ⟨rfl, unhide HB2⟩

theorem whole_any (s : ByteArray) (hs : s.size ≤ 4000) (w : World) (hE : EnvP w) :
    ∃ x, (∀ v, numOf s = some v → x = v) ∧ Calls Tryz.prog 34 #[.string s] w fun e w' => e = .returned (.tuple #[.int .i64 x, .bool (numOf s).isSome]) ∧ Below w.heap.size w w' := by
  cases hv : Lib.atoiAll s.data.toList with
  | ok v =>
    refine ⟨v, fun u hu => ?_, whole_ok s v hs hv w hE⟩
    unfold numOf at hu
    rw [hv] at hu
    dsimp only at hu
    split at hu
    · cases hu; rfl
    · cases hu
  | «syntax» =>
    have e : numOf s = none := by unfold numOf; rw [hv]
    rw [e]
    obtain ⟨tp, p, hc⟩ := hE.synCell
    exact ⟨0, (fun _ h => by cases h), whole_bad s 0 w ((Tryz.strconv_ParseInt_10_at64_syntax s (by omega) (by rw [Lib.parseIntB_64]; exact hv) _ w hc (Or.inr ⟨tp, p, rfl⟩)).mono fun e w' ⟨N, h1, _, _, h2⟩ => ⟨N, h1, h2⟩)⟩
  | range =>
    have e : numOf s = none := by unfold numOf; rw [hv]
    rw [e]
    obtain ⟨tp, p, hc⟩ := hE.ranCell
    exact ⟨_, (fun _ h => by cases h), whole_bad s _ w ((Tryz.strconv_ParseInt_10_at64_range s (by omega) (by rw [Lib.parseIntB_64]; exact hv) _ w hc (Or.inr ⟨tp, p, rfl⟩)).mono fun e w' ⟨N, h1, _, _, h2⟩ => ⟨N, h1, h2⟩)⟩

/-! The reference's words. -/
def refB : ByteArray := ⟨#[45, 32, 45, 32, 100, 117, 112, 32, 115, 119, 97, 112, 32, 100, 114, 111, 112, 32, 97, 100, 100, 32, 115, 117, 98, 32, 115, 97, 109, 101, 32, 108, 101, 115, 115, 32, 110, 111, 116, 32, 97, 110, 100, 32, 118, 101, 114, 105, 102, 121, 32, 104, 101, 105, 103, 104, 116, 32, 109, 105, 120]⟩
def refL : List ByteArray := [⟨#[45]⟩, ⟨#[45]⟩] ++ namesL.drop 2
theorem refL_len : refL.length = 14 := rfl
theorem fields_ref : (Lib.fields refB.data.toList).map (fun l => Value.string ⟨l.toArray⟩) = refL.map Value.string := by
  have h : Lib.fields refB.data.toList = refL.map (·.data.toList) := by decide +kernel
  rw [h, List.map_map]
  rfl
theorem fields_len : (Lib.fields refB.data.toList).length = 14 := by decide +kernel
theorem ref_ascii : ∀ (j : Nat) b, refB.data.toList[j]? = some b → b.toNat < 128 := by
  have h : refB.data.toList.all (fun b => decide (b.toNat < 128)) = true := by decide +kernel
  intro j b hb
  simpa using List.all_eq_true.1 h b (List.mem_of_getElem? hb)

theorem fields_any (w : World) (hE : EnvF w) :
    Calls Tryz.prog 47 #[.string refB] w fun e w' => e = .returned (.slice (some ⟨w.heap.size, 0, none⟩) 14 14) ∧ w' = w.alloc (.cells (refL.map Value.string).toArray 9) := by
  have h := Tryz.strings_Fields refB w (by decide) ref_ascii hE.spc
  rw [fields_ref, fields_len] at h
  exact h
theorem ref_cell (w : World) (k : Nat) (hk : k < 14) : (w.alloc (.cells (refL.map Value.string).toArray 9)).cell? ⟨w.heap.size, k, none⟩ = some (.string (refL.getD k ⟨#[]⟩)) := by
  rw [World.cell?_alloc_at _ _ _ _ rfl]
  have hl : k < refL.length := hk
  simp [hl]
theorem refL_name (k : Nat) (h2 : 2 ≤ k) (hk : k < 14) : refL.getD k ⟨#[]⟩ = nameB k := by
  have : ∀ m : Fin 14, 2 ≤ m.val → refL.getD m.val ⟨#[]⟩ = nameB m.val := by decide +kernel
  exact this ⟨k, hk⟩ h2

/-- The place of a word among the reference's. -/
def idxR (s : ByteArray) : Int := Lib.idxOfS (refL.take 14) s
def refW (s : ByteArray) : Option (Int × Int) := if 2 ≤ idxR s then some (idxR s, 0) else (numOf s).map fun n => (1, n)

theorem idxR_name : ∀ k : Fin 14, 2 ≤ k.val → idxR (nameB k.val) = k.val := by decide +kernel
theorem kindR_name : ∀ k : Fin 14, 2 ≤ k.val → kindOf (nameB k.val) = some k.val := by decide +kernel
theorem atoiR_name (k : Nat) (h2 : 2 ≤ k) (hk : k < 14) : numOf (nameB k) = none := by
  have : ∀ m : Fin 14, 2 ≤ m.val → (match Lib.atoiAll (nameB m.val).data.toList with | .ok _ => false | _ => true) = true := by decide +kernel
  have h := this ⟨k, hk⟩ h2
  simp only at h
  unfold numOf
  cases hv : Lib.atoiAll (nameB k).data.toList with
  | ok v => rw [hv] at h; cases h
  | «syntax» => rfl
  | range => rfl

theorem refW_eq (s : ByteArray) : refW s = parseW s := by
  by_cases h : ∃ k, 2 ≤ k ∧ k < 14 ∧ nameB k = s
  · obtain ⟨k, h2, hk, rfl⟩ := h
    have e1 := idxR_name ⟨k, hk⟩ h2
    have e2 := kindR_name ⟨k, hk⟩ h2
    simp only at e1 e2
    unfold refW parseW
    rw [e1, e2, atoiR_name k h2 hk, if_pos (by omega)]
    rfl
  · have hno : ∀ i, 2 ≤ i → i < 14 → ((nameB i).toList == s.toList) = false := fun i h2 hi => by
      rw [beq_eq_false_iff_ne]
      intro e
      apply h
      refine ⟨i, h2, hi, ?_⟩
      rw [ByteArray.toList_eq, ByteArray.toList_eq] at e
      cases hx : nameB i with
      | mk d =>
        cases s with
        | mk d' =>
          rw [hx] at e
          have : d = d' := by
            cases d; cases d'; simpa using e
          rw [this]
    have hi : ¬ 2 ≤ idxR s := by
      intro h2
      unfold idxR at h2
      by_cases hm : ⟨#[45]⟩ = s
      · subst hm
        revert h2
        decide +kernel
      · rw [show refL.take 14 = refL.take 14 from rfl, Lib.idxOfS_miss refL 14 s (fun j hj => ?_)] at h2
        · omega
        · intro e
          by_cases h2 : 2 ≤ j
          · exact h ⟨j, h2, hj, by rw [← refL_name j h2 hj]; exact e⟩
          · have : j = 0 ∨ j = 1 := by omega
            rcases this with rfl | rfl <;> exact hm e
    unfold refW parseW
    rw [if_neg hi, kindOf_miss s hno]
    cases numOf s <;> rfl

end Go.Proofs.YtadlakolpphgnaaGreatDoor
