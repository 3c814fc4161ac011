/- The contracts of All, Name, Check and Look. -/
import Derived.Test.YtfbckhaimobbmaaBookOpen
namespace Go.Proofs.Ytfbckhaimobbmaa
open Go.RowKit Go.Maps

set_option maxHeartbeats 800000 in
theorem check_is (a : Option Addr) (n c : Nat) (L : List ByteArray) (w : World) (h : TextsAt w a n L) (x : Int) (hx : bkChk L = x) :
    Calls Try.prog 10 #[.agg #[.slice a n c]] w fun e w' => e = .returned (.int .i64 x) ∧ Below w.heap.size w w' := by
  have hb := bel_new w (.cells #[.slice a n c] 24)
  have O := hide (open_is a n c L _ (h.later hb) x hx)
  have HB := hide hb
  clear h hx hb
  go_enter Try.func10, Try.ntmps10
  go_wp2_with fail
  refine (unhide O).mono ?_
  rintro e w2 ⟨v, rfl, -, hb2⟩
  have HB2 := hide (bel_on (unhide HB) hb2)
  clear hb2
  go_wp2
  go_ret
  exact ⟨rfl, unhide HB2⟩

set_option maxHeartbeats 1600000 in
theorem look_bad (a : Option Addr) (n c : Nat) (L : List ByteArray) (m : Int) (w : World) (h : TextsAt w a n L) (x : Int) (hx : bkChk L = x) (h0 : x ≠ 0) :
    Calls Try.prog 7 #[.agg #[.slice a n c], .int .i64 m] w fun e w' => e = .returned (.tuple #[.string ⟨#[]⟩, .int .i64 x]) ∧ Below w.heap.size w w' := by
  have hb := bel_new w (.cells #[.slice a n c] 24)
  have O := hide (check_is a n c L _ (h.later hb) x hx)
  have HB := hide hb
  have g : (x != 0) = true := by simp [h0]
  clear h hx hb
  go_enter Try.func7, Try.ntmps7
  go_wp2_with fail
  refine (unhide O).mono ?_
  rintro e w2 ⟨rfl, hb2⟩
  have HB2 := hide (bel_on (unhide HB) hb2)
  clear hb2
  go_wp2
  go_ret2
  exact ⟨rfl, unhide HB2⟩

/-- What Look answers of a right book. -/
def lookT (L : List ByteArray) (m : Int) : ByteArray := if 1 ≤ m ∧ m ≤ L.length then L.getD (m.toNat - 1) ⟨#[]⟩ else ⟨#[]⟩
def lookE (L : List ByteArray) (m : Int) : Int := if 1 ≤ m ∧ m ≤ L.length then 0 else 5

set_option maxHeartbeats 1600000 in
theorem look_is (a : Option Addr) (n c : Nat) (L : List ByteArray) (m : Int) (w : World) (h : TextsAt w a n L) (hx : bkChk L = 0) :
    Calls Try.prog 7 #[.agg #[.slice a n c], .int .i64 m] w fun e w' => e = .returned (.tuple #[.string (lookT L m), .int .i64 (lookE L m)]) ∧ Below w.heap.size w w' := by
  have hb := bel_new w (.cells #[.slice a n c] 24)
  have c0 := one_new w (.slice a n c) 24
  have hx1 := h.later hb
  have O := hide (check_is a n c L _ hx1 0 hx)
  have HB := hide hb
  have hz := h.1
  have h120 := ((right_iff L).1 hx).1
  have HT := hide hx1
  have C0 := hide c0
  clear h hx hb hx1 c0
  by_cases h1 : 1 ≤ m ∧ m ≤ L.length
  · obtain ⟨k, hk⟩ : ∃ k : Nat, m = (k : Int) + 1 := ⟨(m - 1).toNat, by omega⟩
    subst hk
    have hkl : k < L.length := by omega
    have e1 : lookT L ((k : Int) + 1) = L[k] := by
      unfold lookT; rw [if_pos h1]
      have : ((k : Int) + 1).toNat - 1 = k := by omega
      rw [this]; simp [hkl]
    have e2 : lookE L ((k : Int) + 1) = 0 := by unfold lookE; rw [if_pos h1]
    rw [e1, e2]
    obtain ⟨s, hs⟩ : ∃ s, L[k] = s := ⟨_, rfl⟩
    rw [hs]
    have Wt := hide (fun w => within_is ((k : Int) + 1) 1 (n : Int) true w (by simp; omega))
    have HL := hide hkl
    have HS := hide hs
    have g1 : (k : Int) < (n : Int) := by omega
    have g3 : (k : Int) < 120 := by omega
    clear h120
    have g2 : (0 : Int) ≤ (k : Int) := by omega
    clear e1 e2 h1 hs
    go_enter Try.func7, Try.ntmps7
    go_wp2_with fail
    refine (unhide O).mono ?_
    rintro e w2 ⟨rfl, hb2⟩
    have HB2 := hide (bel_on (unhide HB) hb2)
    have c0 := cell_later hb2 (unhide C0)
    have hl2 : w.heap.size < w2.heap.size := World.block_lt_of_cell? _ _ c0
    obtain ⟨b, off, rfl, hc⟩ := ((unhide HT).later hb2).2 (by omega)
    have f := hc k (unhide HL)
    rw [unhide HS] at f
    clear hb2 hc
    go_wp2_with fail
    refine ((unhide Wt) _).mono ?_
    rintro e w3 ⟨rfl, rfl⟩
    go_wp2
    go_ret2
    exact ⟨rfl, unhide HB2⟩
  · have e1 : lookT L m = ⟨#[]⟩ := by unfold lookT; rw [if_neg h1]
    have e2 : lookE L m = 5 := by unfold lookE; rw [if_neg h1]
    rw [e1, e2]
    have Wt := hide (fun w => within_is m 1 (n : Int) false w (by rw [← hz]; simp; omega))
    clear e1 e2 h1 hz
    go_enter Try.func7, Try.ntmps7
    go_wp2_with fail
    refine (unhide O).mono ?_
    rintro e w2 ⟨rfl, hb2⟩
    have HB2 := hide (bel_on (unhide HB) hb2)
    have c0 := cell_later hb2 (unhide C0)
    have hl2 : w.heap.size < w2.heap.size := World.block_lt_of_cell? _ _ c0
    clear hb2
    go_wp2_with fail
    refine ((unhide Wt) _).mono ?_
    rintro e w3 ⟨rfl, rfl⟩
    go_wp2
    go_ret2
    exact ⟨rfl, unhide HB2⟩

end Go.Proofs.Ytfbckhaimobbmaa
