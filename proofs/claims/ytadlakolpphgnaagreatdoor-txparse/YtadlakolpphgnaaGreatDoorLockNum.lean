/- Contracts of what reads a number, an order. -/
import Derived.Test.YtadlakolpphgnaaGreatDoorLockPrint
import Derived.ChangeAgain
namespace Go.Proofs.YtadlakolpphgnaaGreatDoor
open Go.RowKit

/-- What the variables hold, the errors' among them. -/
structure EnvP (w : World) : Prop where
  env : Env w
  syn : ∃ tp p, w.var? Tryz.prog "strconv.ErrSyntax" = some #[.iface tp p]
  ran : ∃ tp p, w.var? Tryz.prog "strconv.ErrRange" = some #[.iface tp p]
  shp : w.ShapedOpen Tryz.prog

theorem Tryz.gSyn : Tryz.prog.globalNamed "strconv.ErrSyntax" = some 5 := by kernel_rfl
theorem Tryz.gRan : Tryz.prog.globalNamed "strconv.ErrRange" = some 6 := by kernel_rfl

theorem EnvP.later {w w' : World} (h : EnvP w) (hb : Below w.heap.size w w') : EnvP w' where
  env := h.env.later hb
  syn := by obtain ⟨tp, p, e⟩ := h.syn; exact ⟨tp, p, Joins.var_stays Tryz.gSyn e hb (Nat.le_refl _)⟩
  ran := by obtain ⟨tp, p, e⟩ := h.ran; exact ⟨tp, p, Joins.var_stays Tryz.gRan e hb (Nat.le_refl _)⟩
  shp := h.shp.keptBut (hb.frame (fun _ => False)) (fun _ h => h.elim)

theorem atoi_bd {l : List UInt8} {v : Int} (h : Lib.atoiAll l = .ok v) : -9223372036854775808 ≤ v ∧ v ≤ 9223372036854775807 := by
  cases l with
  | nil => cases h
  | cons c r =>
    unfold Lib.atoiAll at h
    dsimp only at h
    cases hm : Lib.parseMag (if c.toNat = 43 ∨ c.toNat = 45 then r else c :: r) with
    | «syntax» => rw [hm] at h; cases h
    | range => rw [hm] at h; cases h
    | ok u =>
      rw [hm] at h
      dsimp only at h
      split at h
      · cases h
      · split at h
        · cases h
        · rename_i h1 h2
          cases h
          split <;> omega

def textB (v : Int) : ByteArray := ⟨(Lib.itoa v).toArray⟩

/-- The number of a text. -/
def numOf (s : ByteArray) : Option Int :=
  match Lib.atoiAll s.data.toList with
  | .ok v => if (textB v).toList = s.toList then some v else none
  | _ => none

set_option maxHeartbeats 800000 in
theorem num_bad (s : ByteArray) (x : Int) (w : World)
    (hA : Calls Tryz.prog 85 #[.string s] w fun e w' => ∃ N, e = .returned (.tuple #[.int .i64 x, .iface 139 (.pointer (some ⟨N, 0, none⟩))]) ∧ Below w.heap.size w w') :
    Calls Tryz.prog 66 #[.string s] w fun e w' => e = .returned (.tuple #[.int .i64 0, .bool false]) ∧ Below w.heap.size w w' := by
  have HA := hide hA
  clear hA
  go_enter Tryz.func66, Tryz.ntmps66
  go_wp2_with fail
  refine (unhide HA).mono ?_
  rintro e w1 ⟨N, rfl, hb1⟩
  have HB1 := hide hb1
  clear hb1
  go_wp2
  go_ret2
  exact ⟨rfl, unhide HB1⟩

set_option maxHeartbeats 800000 in
theorem num_ok (s : ByteArray) (v : Int) (hs : s.size ≤ 4000) (hv : Lib.atoiAll s.data.toList = .ok v) (w : World) (hE : EnvP w) :
    Calls Tryz.prog 66 #[.string s] w fun e w' => e = .returned (.tuple #[.int .i64 ((numOf s).getD 0), .bool (numOf s).isSome]) ∧ Below w.heap.size w w' := by
  have hbd := atoi_bd hv
  have AO := hide (Tryz.strconv_Atoi_ok s (by omega) v hv w)
  have HE := hide hE
  obtain ⟨t, ht⟩ : ∃ t, t = textB v := ⟨_, rfl⟩
  by_cases hq : (textB v).toList = s.toList
  · have e : numOf s = some v := by unfold numOf; rw [hv]; simp [hq]
    rw [e]
    have g : (t.toList == s.toList) = true := by rw [ht, hq]; simp
    have IT : Hid (∀ w, Env w → Calls Tryz.prog 28 #[.int .i64 v] w fun e w' => e = .returned (.string t) ∧ Below w.heap.size w w') := fun w hw =>
      (Tryz.strconv_Itoa v hbd.1 hbd.2 w hw.tab).mono fun e w' ⟨h1, k, os, h2⟩ => ⟨by rw [ht]; exact h1, by rw [h2]; exact Lib.below_grow _ _ (Nat.le_refl _) k os⟩
    clear hE hv hbd ht hq e
    go_enter Tryz.func66, Tryz.ntmps66
    go_wp2_with fail
    refine (unhide AO).mono ?_
    rintro e w1 ⟨rfl, hw1⟩
    have hb1 : Below w.heap.size w w1 := by
      rcases hw1 with rfl | ⟨u, rfl⟩
      · exact Below.refl _ _
      · exact Joins.below_bytesWorld _ _ _ _ (Nat.le_refl _)
    have HB1 := hide hb1
    clear hb1 hw1
    go_wp2_with fail
    refine ((unhide IT) _ ((unhide HE).later (unhide HB1)).env).mono ?_
    rintro e w2 ⟨rfl, hb2⟩
    have HB2 := hide (bel_tw (unhide HB1) hb2)
    clear hb2
    go_wp2
    go_ret2
    exact ⟨rfl, unhide HB2⟩
  · have e : numOf s = none := by unfold numOf; rw [hv]; simp [hq]
    rw [e]
    have g : (t.toList == s.toList) = false := by rw [ht]; simp [hq]
    have IT : Hid (∀ w, Env w → Calls Tryz.prog 28 #[.int .i64 v] w fun e w' => e = .returned (.string t) ∧ Below w.heap.size w w') := fun w hw =>
      (Tryz.strconv_Itoa v hbd.1 hbd.2 w hw.tab).mono fun e w' ⟨h1, k, os, h2⟩ => ⟨by rw [ht]; exact h1, by rw [h2]; exact Lib.below_grow _ _ (Nat.le_refl _) k os⟩
    clear hE hv hbd ht hq e
    go_enter Tryz.func66, Tryz.ntmps66
    go_wp2_with fail
    refine (unhide AO).mono ?_
    rintro e w1 ⟨rfl, hw1⟩
    have hb1 : Below w.heap.size w w1 := by
      rcases hw1 with rfl | ⟨u, rfl⟩
      · exact Below.refl _ _
      · exact Joins.below_bytesWorld _ _ _ _ (Nat.le_refl _)
    have HB1 := hide hb1
    clear hb1 hw1
    go_wp2_with fail
    refine ((unhide IT) _ ((unhide HE).later (unhide HB1)).env).mono ?_
    rintro e w2 ⟨rfl, hb2⟩
    have HB2 := hide (bel_tw (unhide HB1) hb2)
    clear hb2
    go_wp2
    go_ret2
    exact ⟨rfl, unhide HB2⟩

theorem numParse_any (s : ByteArray) (hs : s.size ≤ 4000) (w : World) (hE : EnvP w) :
    Calls Tryz.prog 66 #[.string s] w fun e w' => e = .returned (.tuple #[.int .i64 ((numOf s).getD 0), .bool (numOf s).isSome]) ∧ Below w.heap.size w w' := by
  cases hv : Lib.atoiAll s.data.toList with
  | ok v => exact num_ok s v hs hv w hE
  | «syntax» =>
    have e : numOf s = none := by unfold numOf; rw [hv]
    rw [e]
    obtain ⟨tp, p, hvar⟩ := hE.syn
    exact num_bad s 0 w ((Tryz.strconv_Atoi_syntax_var s (by omega) hv tp p w hvar).mono fun e w' ⟨N, h1, _, _, h2⟩ => ⟨N, h1, h2⟩)
  | range =>
    have e : numOf s = none := by unfold numOf; rw [hv]
    rw [e]
    obtain ⟨tp, p, hvar⟩ := hE.ran
    exact num_bad s _ w ((Tryz.strconv_Atoi_range_var s (by omega) hv tp p w hvar).mono fun e w' ⟨N, h1, _, _, h2⟩ => ⟨N, h1, h2⟩)

end Go.Proofs.YtadlakolpphgnaaGreatDoor
