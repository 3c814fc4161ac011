/- Opened: RunOps twice. -/
import Derived.Test.YtepmnpapdknocaaGreatDoorRefRunC
namespace Go.Proofs.YtepmnpapdknocaaGreatDoor
open Go.RowKit Go.Maps

def openedB (l k : List (Int × Int)) (h : Int) : Bool := match (runL h k []).bind (runL h l) with | some L => one1 L | none => false

set_option maxRecDepth 10000 in
set_option maxHeartbeats 1600000 in
theorem opened_any (a b : Option Addr) (lena capa lenb capb : Nat) (l k : List (Int × Int)) (h : Int) (w : World) (hO : OpsAt w a lena l) (hK : OpsAt w b lenb k) (hcl : chk l = 0) (hck : chk k = 0) (hh : hOk h = true) :
    Calls Tryz.prog 86 #[.slice a lena capa, .slice b lenb capb, .int .i64 h] w fun e w' => e = .returned (.bool (openedB l k h)) ∧ Below w.heap.size w w' := by
  have r1 := runops_any b lenb capb k none 0 0 [] h w hK hck (RowAt.nil _ _) (fun _ => rfl) rfl hh
  cases h1 : runL h k [] with
  | none =>
    rw [h1] at r1
    simp only [Option.getD_none, Option.isSome_none, List.length_nil] at r1
    have R1 := hide r1
    have e : openedB l k h = false := by unfold openedB; rw [h1]; rfl
    rw [e]
    clear e h1 r1 hO hK hcl hck hh
    go_enter Tryz.func86, Tryz.ntmps86
    go_wp2_with fail
    refine (unhide R1).mono ?_
    rintro e w1 ⟨a', cap', rfl, _, hb, _⟩
    have HB := hide hb
    clear hb
    go_wp2
    go_ret
    exact ⟨rfl, unhide HB⟩
  | some S =>
    rw [h1] at r1
    simp only [Option.getD_some, Option.isSome_some] at r1
    have R1 := hide r1
    have r2 : ∀ (a' : Option Addr) (cap' : Nat) (w1 : World), RowAt w1 a' S.length S → Below w.heap.size w w1 → (a' = none → cap' = 0) → _ := fun a' cap' w1 hr hb hc => runops_any a lena capa l a' S.length cap' S h w1 (hO.later hb) hcl hr hc (runL_ok (L := []) rfl h1) hh
    cases h2 : runL h l S with
    | none =>
      rw [h2] at r2
      simp only [Option.getD_none, Option.isSome_none, List.length_nil] at r2
      have R2 := hide r2
      have e : openedB l k h = false := by unfold openedB; rw [h1]; simp only [Option.bind_some]; rw [h2]
      rw [e]
      clear e h1 h2 r1 r2 hO hK hcl hck hh
      go_enter Tryz.func86, Tryz.ntmps86
      go_wp2_with fail
      refine (unhide R1).mono ?_
      rintro e w1 ⟨a', cap', rfl, hr, hb, hc⟩
      have C2 := hide ((unhide R2) a' cap' w1 hr hb hc)
      have HB := hide hb
      clear hr hb hc
      go_wp2_with fail
      refine (unhide C2).mono ?_
      rintro e w2 ⟨a2, cap2, rfl, _, hb2, _⟩
      have HB2 := hide ((unhide HB).trans (hb2.mono (unhide HB).size))
      clear hb2
      go_wp2
      go_ret
      exact ⟨rfl, unhide HB2⟩
    | some L =>
      rw [h2] at r2
      simp only [Option.getD_some, Option.isSome_some] at r2
      have R2 := hide r2
      have e : openedB l k h = one1 L := by unfold openedB; rw [h1]; simp only [Option.bind_some]; rw [h2]
      rw [e]
      clear e h1 h2 r1 r2 hO hK hcl hck hh
      by_cases h3 : L.length = 1
      · obtain ⟨x, rfl⟩ := List.length_eq_one_iff.1 h3
        have e : one1 [x] = (x != 0) := by simp [one1, topL]
        rw [e]
        clear h3 e
        go_enter Tryz.func86, Tryz.ntmps86
        go_wp2_with fail
        refine (unhide R1).mono ?_
        rintro e w1 ⟨a', cap', rfl, hr, hb, hc⟩
        have C2 := hide ((unhide R2) a' cap' w1 hr hb hc)
        have HB := hide hb
        clear hr hb hc
        go_wp2_with fail
        refine (unhide C2).mono ?_
        rintro e w2 ⟨a2, cap2, rfl, hr2, hb2, _⟩
        obtain ⟨b2, off2, rfl, hc2⟩ := hr2.2.2 (Nat.zero_lt_one)
        have c2 := hc2 0 (Nat.zero_lt_one)
        have c3 : w2.cell? ⟨b2, off2, none⟩ = some (.int .i64 x) := c2
        have HB2 := hide ((unhide HB).trans (hb2.mono (unhide HB).size))
        clear hb2 hr2 hc2 c2
        simp only [List.length_cons, List.length_nil]
        go_wp2
        go_ret
        exact ⟨rfl, unhide HB2⟩
      · have e : one1 L = false := by simp [one1, h3]
        rw [e]
        obtain ⟨n, hn⟩ : ∃ n, L.length = n := ⟨_, rfl⟩
        rw [hn] at R2 h3
        have h4 : ((n : Int) == 1) = false := by simp; omega
        clear hn e h3
        go_enter Tryz.func86, Tryz.ntmps86
        go_wp2_with fail
        refine (unhide R1).mono ?_
        rintro e w1 ⟨a', cap', rfl, hr, hb, hc⟩
        have C2 := hide ((unhide R2) a' cap' w1 hr hb hc)
        have HB := hide hb
        clear hr hb hc
        go_wp2_with fail
        refine (unhide C2).mono ?_
        rintro e w2 ⟨a2, cap2, rfl, _, hb2, _⟩
        have HB2 := hide ((unhide HB).trans (hb2.mono (unhide HB).size))
        clear hb2
        go_wp2
        go_ret
        exact ⟨rfl, unhide HB2⟩

end Go.Proofs.YtepmnpapdknocaaGreatDoor
