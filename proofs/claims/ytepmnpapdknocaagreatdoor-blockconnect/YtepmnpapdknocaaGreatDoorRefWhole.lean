/- Contracts of the reference's reading of a number, and of its words. -/
import Derived.Test.YtepmnpapdknocaaGreatDoorLockNum
import Derived.Test.YtepmnpapdknocaaGreatDoorShelfC
import Derived.Lib.ParseIntBTie
namespace Go.Proofs.YtepmnpapdknocaaGreatDoor
open Go.RowKit

/-- What the variables hold, the table of blanks among them. -/
structure EnvE (w : World) : Prop where
  env : Env w
theorem EnvE.later {w w' : World} (h : EnvE w) (hb : Below w.heap.size w w') : EnvE w' := ⟨h.env.later hb⟩
structure EnvF (w : World) : Prop where
  envp : EnvE w
  spc : Lib.TabIs Tryz.prog w "strings.asciiSpace" .u8 Lib.asciiSpaceTab

theorem Tryz.gSpc : Tryz.prog.globalNamed "strings.asciiSpace" = some 0 := by kernel_rfl

theorem EnvF.later {w w' : World} (h : EnvF w) (hb : Below w.heap.size w w') : EnvF w' :=
  ⟨h.envp.later hb, Joins.var_stays Tryz.gSpc h.spc hb (Nat.le_refl _)⟩

/-! The reference's words. -/
def refB : ByteArray := ⟨#[45, 32, 45, 32, 100, 117, 112, 32, 115, 119, 97, 112, 32, 100, 114, 111, 112, 32, 97, 100, 100, 32, 115, 117, 98, 32, 115, 97, 109, 101, 32, 108, 101, 115, 115, 32, 110, 111, 116, 32, 97, 110, 100, 32, 118, 101, 114, 105, 102, 121, 32, 104, 101, 105, 103, 104, 116, 32, 109, 105, 120]⟩
def refL : List ByteArray := [⟨#[45]⟩, ⟨#[45]⟩] ++ namesL.drop 2
theorem fields_ref : (Lib.fields refB.data.toList).map (fun l => Value.string ⟨l.toArray⟩) = refL.map Value.string := by
  have h : Lib.fields refB.data.toList = refL.map (·.data.toList) := by decide +kernel
  rw [h, List.map_map]
  rfl
theorem fields_len : (Lib.fields refB.data.toList).length = 14 := by decide +kernel
theorem ref_ascii : ∀ (j : Nat) b, refB.data.toList[j]? = some b → b.toNat < 128 := by
  have h : refB.data.toList.all (fun b => decide (b.toNat < 128)) = true := by decide +kernel
  intro j b hb
  simpa using List.all_eq_true.1 h b (List.mem_of_getElem? hb)

theorem fields_any (w : World) (hE : EnvF w) :
    Calls Tryz.prog 118 #[.string refB] w fun e w' => e = .returned (.slice (some ⟨w.heap.size, 0, none⟩) 14 14) ∧ w' = w.alloc (.cells (refL.map Value.string).toArray 9) := by
  have h := Tryz.strings_Fields refB w (by decide) ref_ascii hE.spc
  rw [fields_ref, fields_len] at h
  exact h
theorem ref_cell (w : World) (k : Nat) (hk : k < 14) : (w.alloc (.cells (refL.map Value.string).toArray 9)).cell? ⟨w.heap.size, k, none⟩ = some (.string (refL.getD k ⟨#[]⟩)) := by
  rw [World.cell?_alloc_at _ _ _ _ rfl]
  have hl : k < refL.length := hk
  simp [hl]
theorem refL_name (k : Nat) (h2 : 2 ≤ k) (hk : k < 14) : refL.getD k ⟨#[]⟩ = nameB k := by
  have : ∀ m : Fin 14, 2 ≤ m.val → refL.getD m.val ⟨#[]⟩ = nameB m.val := by decide +kernel
  exact this ⟨k, hk⟩ h2

end Go.Proofs.YtepmnpapdknocaaGreatDoor
