/- The contract of what reads a line of a transaction. -/
import Derived.Test.YtadlakolpphgnaaGreatDoorTxNums
import Derived.Test.YtadlakolpphgnaaGreatDoorLockReadO
import Derived.OwnWalk
namespace Go.Proofs.YtadlakolpphgnaaGreatDoor
open Go.RowKit

/-- What stands ahead of a text's first colon, what behind it, and whether there is one. -/
def cutH (s : ByteArray) : ByteArray := ⟨(Lib.cut s.data.toList [58]).1.toArray⟩
def cutT (s : ByteArray) : ByteArray := ⟨(Lib.cut s.data.toList [58]).2.1.toArray⟩
def cutF (s : ByteArray) : Bool := (Lib.cut s.data.toList [58]).2.2

theorem cutH_size (s : ByteArray) : (cutH s).size ≤ s.size := by
  unfold cutH Lib.cut
  show (Array.size _) ≤ s.data.size
  split <;> simp
  omega
theorem cutT_size (s : ByteArray) : (cutT s).size ≤ s.size := by
  unfold cutT Lib.cut
  show (Array.size _) ≤ s.data.size
  split <;> simp

/-- The numbers and the orders of a line that opens with a word. -/
def lineOf (s word : ByteArray) (count : Nat) : Option (List Int × List (Int × Int)) :=
  if cutF s then (match rowOf (cutH s) word count with | some Z => if prE (cutT s) = 0 then some (Z, prL (cutT s)) else none | none => none) else none

theorem cut_at (s : ByteArray) (hs : s.size ≤ 4000) (w : World) (hE : EnvP w) :
    Calls Tryz.prog 67 #[.string s, .string ⟨#[58]⟩] w fun e w' => e = .returned (.tuple #[.string (cutH s), .string (cutT s), .bool (cutF s)]) ∧ Below w.heap.size w w' :=
  (Tryz.strings_Cut_shaped s ⟨#[58]⟩ w hE.shp (by omega)).mono fun e w' ⟨h1, n, h2⟩ => ⟨h1, by rw [h2]; exact ⟨rfl, rfl, rfl, Nat.le_refl _, fun _ _ => rfl⟩⟩

/-- What the reading of a line answers. -/
def LineIs (w w' : World) (e : Ending) : Option (List Int × List (Int × Int)) → Prop
  | none => e = .returned (.tuple #[.slice none 0 0, .slice none 0 0, .bool false])
  | some (Z, L) => ∃ a c v, e = .returned (.tuple #[.slice a Z.length c, v, .bool true]) ∧ RowAt w' a Z.length Z ∧ w'.ownsRow w.heap.size 56 2 v L.length (flat L) ∧ (∀ x, a = some x → w.heap.size ≤ x.block)

set_option maxRecDepth 10000 in
set_option maxHeartbeats 3200000 in
theorem parseLine_any (s word : ByteArray) (count : Nat) (ct : Int) (hct : ct = (count : Int)) (hs : s.size ≤ 4000) (hn : count ≤ 6) (hpos : 0 < count) (w : World) (hE : EnvP w) :
    Calls Tryz.prog 50 #[.string s, .string word, .int .i64 ct] w fun e w' => LineIs w w' e (lineOf s word count) ∧ Below w.heap.size w w' := by
  have CU := hide (cut_at s hs w hE)
  have hH := cutH_size s
  have hT := cutT_size s
  obtain ⟨H, eH⟩ : ∃ H, cutH s = H := ⟨_, rfl⟩
  obtain ⟨T, eT⟩ : ∃ T, cutT s = T := ⟨_, rfl⟩
  rw [eH] at CU hH
  rw [eT] at CU hT
  have HE := hide hE
  have HCT := hide hct
  cases hf : cutF s with
  | false =>
    have e : lineOf s word count = none := by unfold lineOf; rw [hf]; rfl
    rw [e]
    rw [hf] at CU
    clear hE hf e eH eT hct
    go_enter Tryz.func50, Tryz.ntmps50
    go_wp2_with fail
    refine (unhide CU).mono ?_
    rintro e w1 ⟨rfl, hb1⟩
    have HB1 := hide hb1
    clear hb1
    go_wp2
    go_ret3
    exact ⟨rfl, unhide HB1⟩
  | true =>
    rw [hf] at CU
    cases hr : rowOf H word count with
    | none =>
      have e : lineOf s word count = none := by unfold lineOf; rw [hf, eH, hr]; rfl
      rw [e]
      obtain ⟨f, hfe⟩ : ∃ f, prE T = f := ⟨_, rfl⟩
      have HR := hide hr
      have HFE := hide hfe
      clear hE hf e eH eT hct hr hfe
      go_enter Tryz.func50, Tryz.ntmps50
      go_wp2_with fail
      refine (unhide CU).mono ?_
      rintro e w1 ⟨rfl, hb1⟩
      have HB1 := hide hb1
      clear hb1
      go_wp2_with fail
      refine (parseRow_any H word count ct (unhide HCT) (by omega) hn hpos w1 ((unhide HE).later (unhide HB1)) none (unhide HR)).mono ?_
      rintro e w2 ⟨a2, c2, rfl, _, hb2, _⟩
      have HB2 := hide (bel_on (unhide HB1) hb2)
      clear hb2
      simp only [Option.getD_none, List.length_nil, Option.isSome_none]
      go_wp2_with fail
      refine (parse_own T w2 ((unhide HE).later (unhide HB2))).mono ?_
      rw [unhide HFE]
      rintro e w3 ⟨v, rfl, _, hb3⟩
      have HB3 := hide (bel_on (unhide HB2) hb3)
      clear hb3
      go_wp2
      go_ret3
      exact ⟨rfl, unhide HB3⟩
    | some Z =>
      by_cases hp : prE T = 0
      · have e : lineOf s word count = some (Z, prL T) := by
          unfold lineOf; rw [hf, eH, eT, hr]
          show (if prE T = 0 then some (Z, prL T) else none) = _
          rw [if_pos hp]
        rw [e]
        have HR := hide hr
        have HP := hide hp
        clear hE hf e eH eT hct hr hp
        go_enter Tryz.func50, Tryz.ntmps50
        go_wp2_with fail
        refine (unhide CU).mono ?_
        rintro e w1 ⟨rfl, hb1⟩
        have HB1 := hide hb1
        clear hb1
        go_wp2_with fail
        refine (parseRow_any H word count ct (unhide HCT) (by omega) hn hpos w1 ((unhide HE).later (unhide HB1)) (some Z) (unhide HR)).mono ?_
        rintro e w2 ⟨a2, c2, rfl, hrow, hb2, hfr⟩
        have HRW := hide hrow
        have HFR : Hid (∀ x, a2 = some x → w.heap.size ≤ x.block) := fun x hx => Nat.le_trans (unhide HB1).size (hfr x hx)
        have HB2 := hide (bel_on (unhide HB1) hb2)
        clear hb2 hrow hfr
        simp only [Option.getD_some, Option.isSome_some]
        go_wp2_with fail
        refine (parse_own T w2 ((unhide HE).later (unhide HB2))).mono ?_
        rw [unhide HP]
        rintro e w3 ⟨v, rfl, hown, hb3⟩
        have HRW3 := hide ((unhide HRW).later hb3)
        have HOW := hide (own_base hown (unhide HB2).size)
        have HB3 := hide (bel_on (unhide HB2) hb3)
        clear hb3 hown
        go_wp2
        go_ret3
        exact ⟨⟨a2, c2, v, rfl, unhide HRW3, unhide HOW, unhide HFR⟩, unhide HB3⟩
      · have e : lineOf s word count = none := by
          unfold lineOf; rw [hf, eH, eT, hr]
          show (if prE T = 0 then some (Z, prL T) else none) = _
          rw [if_neg hp]
        rw [e]
        obtain ⟨f, hfe⟩ : ∃ f, prE T = f := ⟨_, rfl⟩
        rw [hfe] at hp
        have gf : (f != 0) = true := by simp [hp]
        have HR := hide hr
        have HFE := hide hfe
        clear hE hf e eH eT hct hr hfe hp
        go_enter Tryz.func50, Tryz.ntmps50
        go_wp2_with fail
        refine (unhide CU).mono ?_
        rintro e w1 ⟨rfl, hb1⟩
        have HB1 := hide hb1
        clear hb1
        go_wp2_with fail
        refine (parseRow_any H word count ct (unhide HCT) (by omega) hn hpos w1 ((unhide HE).later (unhide HB1)) (some Z) (unhide HR)).mono ?_
        rintro e w2 ⟨a2, c2, rfl, _, hb2, _⟩
        have HB2 := hide (bel_on (unhide HB1) hb2)
        clear hb2
        simp only [Option.getD_some, Option.isSome_some]
        go_wp2_with fail
        refine (parse_own T w2 ((unhide HE).later (unhide HB2))).mono ?_
        rw [unhide HFE]
        rintro e w3 ⟨v, rfl, _, hb3⟩
        have HB3 := hide (bel_on (unhide HB2) hb3)
        clear hb3
        go_wp2
        go_ret3
        exact ⟨rfl, unhide HB3⟩

end Go.Proofs.YtadlakolpphgnaaGreatDoor
