/- Contracts of what writes a row of numbers, and a line of a transaction. -/
import Derived.Test.YtepmnpapdknocaaGreatDoorTxMem
import Derived.Test.YtepmnpapdknocaaGreatDoorTxParts
import Derived.Test.YtepmnpapdknocaaGreatDoorLockNum
namespace Go.Proofs.YtepmnpapdknocaaGreatDoor
open Go.RowKit

theorem ba_ext {a b : ByteArray} (h : a.data.toList = b.data.toList) : a = b := by
  cases a with | mk d => cases b with | mk e => cases d; cases e; simp at h; rw [h]

/-- A word and numbers behind it. -/
def rowB (word : ByteArray) (Z : List Int) : ByteArray := Z.foldl (fun t z => t ++ (⟨#[32]⟩ ++ textB z)) word
theorem rowB_snoc (word : ByteArray) (Z : List Int) (z : Int) : rowB word (Z ++ [z]) = rowB word Z ++ (⟨#[32]⟩ ++ textB z) := by unfold rowB; rw [List.foldl_append]; rfl

theorem textB_size (n : Int) (h : -10000000000 ≤ n ∧ n ≤ 10000000000) : (textB n).size ≤ 21 := by
  have := Lib.itoa_length_le n (by omega) (by omega)
  simpa [textB, ByteArray.size] using this
theorem one_size (x : ByteArray) (c : UInt8) : ((⟨#[c]⟩ : ByteArray) ++ x).size = x.size + 1 := by rw [ByteArray.size_append]; show 1 + x.size = _; omega
theorem size_one (x : ByteArray) (c : UInt8) : (x ++ (⟨#[c]⟩ : ByteArray)).size = x.size + 1 := by rw [ByteArray.size_append]; rfl

theorem foldl_size {α : Type} (f : α → ByteArray) (m : Nat) : ∀ (Z : List α) (t : ByteArray), (∀ z ∈ Z, (f z).size ≤ m) → (Z.foldl (fun t z => t ++ f z) t).size ≤ t.size + m * Z.length
  | [], t, _ => by simp
  | z :: r, t, h => by
    have h1 := foldl_size f m r (t ++ f z) (fun y hy => h y (by simp [hy]))
    have h2 := h z (by simp)
    rw [ByteArray.size_append] at h1
    simp only [List.foldl_cons, List.length_cons, Nat.mul_add, Nat.mul_one]
    omega

theorem rowB_size (word : ByteArray) (Z : List Int) (h : ∀ z ∈ Z, -10000000000 ≤ z ∧ z ≤ 10000000000) : (rowB word Z).size ≤ word.size + 22 * Z.length :=
  foldl_size (fun z => (⟨#[32]⟩ : ByteArray) ++ textB z) 22 Z word (fun z hz => by rw [one_size]; have := textB_size z (h z hz); omega)

set_option maxRecDepth 10000 in
set_option maxHeartbeats 1600000 in
theorem printRow_some (word : ByteArray) (b off n c : Nat) (Z : List Int) (w : World) (hE : Env w) (hw : word.size ≤ 10) (hn : n ≤ 6) (hz : Z.length = n) (hl : b < w.heap.size)
    (hc : ∀ i, i < n → w.cell? ⟨b, off + i, none⟩ = some (.int .i64 (Z.getD i 0))) (hr : ∀ z ∈ Z, -10000000000 ≤ z ∧ z ≤ 10000000000) :
    Calls Tryz.prog 52 #[.string word, .slice (some ⟨b, off, none⟩) n c] w fun e w' => e = .returned (.string (rowB word Z)) ∧ Below w.heap.size w w' := by
  have HE := hide hE
  have HC := hide hc
  have HZ := hide hz
  have HR := hide hr
  clear hE hc hz hr
  go_enter Tryz.func52, Tryz.ntmps52
  go_wp2
  go_loopw [5, 11] (fun s i wr => ∃ k : Nat, k ≤ n ∧ i = .int .i64 k ∧ s = .string (rowB word (Z.take k)) ∧ Below w.heap.size w wr) (fun _ i _ => n - (intOf i).toNat)
  case atStart => exact ⟨0, Nat.zero_le _, rfl, rfl, Below.refl _ _⟩
  case round =>
    obtain ⟨k, hk, rfl, rfl, hb⟩ := hrel
    have HB := hide hb
    by_cases hlt : k < n
    · have hlk : k < Z.length := by rw [unhide HZ]; exact hlt
      have c1 := (unhide HC) k hlt
      rw [← hb.cell (p := ⟨b, off + k, none⟩) hl] at c1
      have e1 : Z.getD k 0 = Z[k] := by simp [hlk]
      rw [e1] at c1
      have hzr := (unhide HR) Z[k] (List.getElem_mem hlk)
      have hS := rowB_snoc word (Z.take k) Z[k]
      rw [← List.take_succ_eq_append_getElem hlk] at hS
      have hTs : (rowB word (Z.take k)).size ≤ 200 := by
        have := rowB_size word (Z.take k) (fun z hz => (unhide HR) z (List.mem_of_mem_take hz))
        rw [List.length_take] at this
        omega
      obtain ⟨z, hz⟩ : ∃ z, Z[k] = z := ⟨_, rfl⟩
      rw [hz] at c1 hzr hS
      obtain ⟨T, hT⟩ : ∃ T, rowB word (Z.take k) = T := ⟨_, rfl⟩
      rw [hT] at hS hTs ⊢
      have HS := hide hS
      have hXs := textB_size z hzr
      have hXs1 : ((⟨#[32]⟩ : ByteArray) ++ textB z).size ≤ 22 := by rw [one_size]; omega
      have IT : Hid (∀ w, Env w → Calls Tryz.prog 80 #[.int .i64 z] w fun e w' => e = .returned (.string (textB z)) ∧ Below w.heap.size w w') := fun w hw =>
        (Tryz.strconv_Itoa z (by omega) (by omega) w hw.tab).mono fun e w' ⟨h1, k, os, h2⟩ => ⟨h1, by rw [h2]; exact Lib.below_grow _ _ (Nat.le_refl _) k os⟩
      have EE := hide ((unhide HE).later hb)
      clear hb hz hT hS e1 hzr
      go_wp2_with fail
      refine ((unhide IT) _ (unhide EE)).mono ?_
      rintro e w3 ⟨rfl, hb3⟩
      have HB3 := hide (bel_on (unhide HB) hb3)
      clear hb3
      go_wp2
      go_roundw
      case rel => exact ⟨k + 1, by omega, by go_num, by rw [unhide HS], unhide HB3⟩
      case measure => simp [intOf]; omega
    · have e : k = n := by omega
      subst e
      have HT : Hid (rowB word (Z.take k) = rowB word Z) := by show _ = _; rw [List.take_of_length_le (by rw [unhide HZ]; exact Nat.le_refl _)]
      clear hb
      go_wp2
      go_ret
      exact ⟨ret_str (unhide HT), unhide HB⟩

/-- A line: a word, numbers, orders. -/
def lineB (word : ByteArray) (Z : List Int) (l : List (Int × Int)) : ByteArray := ((rowB word Z ++ ⟨#[58]⟩) ++ opsText l) ++ ⟨#[10]⟩

theorem opsText_size' (l : List (Int × Int)) (h : chk l = 0) : (opsText l).size ≤ 400 := by
  unfold chk at h
  split at h
  · cases h
  · have := opsText_len l (by omega) h
    simpa [opsText, ByteArray.size] using this

theorem lineB_size (word : ByteArray) (Z : List Int) (l : List (Int × Int)) (hw : word.size ≤ 10) (hz : Z.length ≤ 2) (hr : ∀ z ∈ Z, -10000000000 ≤ z ∧ z ≤ 10000000000) (hl : chk l = 0) : (lineB word Z l).size ≤ 460 := by
  unfold lineB
  have h1 := rowB_size word Z hr
  have h2 := opsText_size' l hl
  rw [size_one, ByteArray.size_append, size_one]
  have h3 : 22 * Z.length ≤ 44 := by omega
  omega

set_option maxRecDepth 10000 in
set_option maxHeartbeats 1600000 in
theorem printLine_is (a : Option Addr) (len cap : Nat) (l : List (Int × Int)) (word : ByteArray) (b off n c : Nat) (Z : List Int) (t : ByteArray) (w : World) (hE : Env w) (hO : OpsAt w a len l) (hck : chk l = 0) (hw : word.size ≤ 10) (hn : n ≤ 2) (hz : Z.length = n) (hl : b < w.heap.size)
    (hc : ∀ i, i < n → w.cell? ⟨b, off + i, none⟩ = some (.int .i64 (Z.getD i 0))) (hr : ∀ z ∈ Z, -10000000000 ≤ z ∧ z ≤ 10000000000) (ht : lineB word Z l = t) :
    Calls Tryz.prog 107 #[.slice a len cap, .string word, .slice (some ⟨b, off, none⟩) n c] w fun e w' => e = .returned (.string t) ∧ Below w.heap.size w w' := by
  have PR := hide (print_any a len cap l w hE hO)
  have e : prT l = opsText l := by unfold prT; rw [if_pos hck]
  rw [e, hck] at PR
  have R : Hid (∀ w', Below w.heap.size w w' → Calls Tryz.prog 52 #[.string word, .slice (some ⟨b, off, none⟩) n c] w' fun e w2 => e = .returned (.string (rowB word Z)) ∧ Below w'.heap.size w' w2) := fun w' hb =>
    printRow_some word b off n c Z w' (hE.later hb) hw (by omega) hz (Nat.lt_of_lt_of_le hl hb.size) (fun i hi => by rw [hb.cell (p := ⟨b, off + i, none⟩) hl]; exact hc i hi) hr
  have s1 : (rowB word Z).size ≤ 54 := by have := rowB_size word Z hr; omega
  have s2 := opsText_size' l hck
  unfold lineB at ht
  obtain ⟨A, hA⟩ : ∃ A, rowB word Z = A := ⟨_, rfl⟩
  obtain ⟨B, hB⟩ : ∃ B, opsText l = B := ⟨_, rfl⟩
  rw [hA] at R s1 ht
  rw [hB] at PR s2 ht
  have s3 : (A ++ (⟨#[58]⟩ : ByteArray)).size ≤ 55 := by rw [size_one]; omega
  have s4 : ((A ++ (⟨#[58]⟩ : ByteArray)) ++ B).size ≤ 455 := by rw [ByteArray.size_append]; omega
  have HT := hide ht
  clear hE hO hck hz hc hr e hA hB ht
  go_enter Tryz.func107, Tryz.ntmps107
  go_wp2_with fail
  refine (unhide PR).mono ?_
  rintro e w1 ⟨rfl, hb1⟩
  have HB1 := hide hb1
  clear hb1
  go_wp2_with fail
  refine ((unhide R) w1 (unhide HB1)).mono ?_
  rintro e w2 ⟨rfl, hb2⟩
  have HB2 := hide (bel_on (unhide HB1) hb2)
  clear hb2
  go_wp2
  go_ret
  exact ⟨ret_str (unhide HT), unhide HB2⟩

end Go.Proofs.YtepmnpapdknocaaGreatDoor
