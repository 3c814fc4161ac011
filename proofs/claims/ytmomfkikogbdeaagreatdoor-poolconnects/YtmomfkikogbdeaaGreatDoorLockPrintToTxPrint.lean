/- The contract of Print: its error, and the text of right orders. -/
import Derived.Test.YtmomfkikogbdeaaGreatDoorLockMathToLockRow
import Derived.Test.YtmomfkikogbdeaaGreatDoorTxMemToTxCheckB
import Derived.Test.YtmomfkikogbdeaaGreatDoorShelf
import Derived.Lib.SmallJoins
import Derived.Lib.AppendIntMem
import Derived.Lib.ItoaLen
import Derived.Lib.LaidTab
import Derived.ChangeAgain
import Derived.Lib.AtoiAll
import Derived.Test.YtmomfkikogbdeaaGreatDoorCoinSpendBToTxParts
import Derived.Test.YtmomfkikogbdeaaGreatDoorTxCheckCToCoinMath
namespace Go.Proofs.YtmomfkikogbdeaaGreatDoor
open Go.RowKit

def namesL : List ByteArray := [⟨#[]⟩, ⟨#[]⟩, ⟨#[100, 117, 112]⟩, ⟨#[115, 119, 97, 112]⟩, ⟨#[100, 114, 111, 112]⟩, ⟨#[97, 100, 100]⟩, ⟨#[115, 117, 98]⟩, ⟨#[115, 97, 109, 101]⟩, ⟨#[108, 101, 115, 115]⟩, ⟨#[110, 111, 116]⟩, ⟨#[97, 110, 100]⟩, ⟨#[118, 101, 114, 105, 102, 121]⟩, ⟨#[104, 101, 105, 103, 104, 116]⟩, ⟨#[109, 105, 120]⟩]
def nameB (k : Nat) : ByteArray := namesL.getD k ⟨#[]⟩
def namesA : Array Value := (namesL.map Value.string).toArray

/-- The text of an order; of orders. -/
def opText (o : Int × Int) : ByteArray := if o.1 = 1 then ⟨(Lib.itoa o.2).toArray⟩ else nameB o.1.toNat
def opsText (l : List (Int × Int)) : ByteArray := ⟨(Lib.join ((l.map opText).map (·.data.toList)) [32]).toArray⟩

/-- What the package's variables hold. -/
structure Env (w : World) : Prop where
  tab : Lib.TabIs Tryz.prog w "internal/strconv.uint64pow10" .u64 Lib.pow10Tab
  nam : w.var? Tryz.prog "cairn/lock.names" = some namesA

theorem Tryz.gTab : Tryz.prog.globalNamed "internal/strconv.uint64pow10" = some 2 := by kernel_rfl
theorem Tryz.gNam : Tryz.prog.globalNamed "cairn/lock.names" = some 1 := by kernel_rfl

theorem Env.later {w w' : World} (h : Env w) (hb : Below w.heap.size w w') : Env w' :=
  ⟨Joins.var_stays Tryz.gTab h.tab hb (Nat.le_refl _), Joins.var_stays Tryz.gNam h.nam hb (Nat.le_refl _)⟩

theorem Env.name {w : World} (h : Env w) (k : Nat) (hk : k < 14) : w.cell? ⟨1, k, none⟩ = some (.string (nameB k)) := by
  have := World.var?_cell Tryz.gNam h.nam k
  rw [this]
  have hl : k < namesL.length := hk
  simp [namesA, nameB, hl]
theorem Env.lt {w : World} (h : Env w) : 1 < w.heap.size := World.block_lt_of_cell? _ _ (h.name 0 (by decide))

theorem ret_str {a b : ByteArray} (h : a = b) : Ending.returned (.string a) = .returned (.string b) := by rw [h]

set_option maxHeartbeats 400000 in
theorem printOrder_any (k n : Int) (w : World) (hE : Env w) (hc : chk1 (k, n) = 0) :
    Calls Tryz.prog 286 #[.agg #[.int .i64 k, .int .i64 n]] w fun e w' => e = .returned (.string (opText (k, n))) ∧ Below w.heap.size w w' := by
  have hb : Below w.heap.size w (w.alloc (.cells #[.int .i64 k, .int .i64 n] 164)) := (Below.refl _ _).alloc (Nat.le_refl _) _
  have HB := hide hb
  have HE := hide hE
  by_cases h1 : k = 1
  · subst h1
    have hn : -1000000 ≤ n ∧ n ≤ 1000000 := by
      have : fit n = true := by
        simp only [chk1] at hc
        cases h : fit n with
        | true => rfl
        | false => simp [h] at hc
      exact (fit_iff n).1 this
    have g0 : -9223372036854775808 ≤ n := by omega
    have g1 : n ≤ 9223372036854775807 := by omega
    have e : opText (1, n) = ⟨(Lib.itoa n).toArray⟩ := by simp [opText]
    rw [e]
    have HT := hide (hE.later hb).tab
    clear hE hc hb e hn
    go_enter Tryz.func286, Tryz.ntmps286
    go_wp2_with fail
    refine (Tryz.strconv_Itoa n g0 g1 _ (unhide HT)).mono ?_
    rintro e w1 ⟨rfl, k, os, rfl⟩
    have HB2 := hide ((unhide HB).trans ((Lib.below_grow _ _ (Nat.le_refl _) k os).mono (unhide HB).size))
    go_wp2
    go_ret
    exact ⟨rfl, unhide HB2⟩
  · have hk : 1 ≤ k ∧ k ≤ 13 := by
      simp only [chk1] at hc
      split at hc
      · cases hc
      · omega
    obtain ⟨m, rfl⟩ := Int.eq_ofNat_of_zero_le (show 0 ≤ k by omega)
    have e : opText ((m : Int), n) = nameB m := by simp [opText]; intro h; omega
    have c1 := hE.name m (by omega)
    have hl := hE.lt
    have g1 : ((m : Int) == 1) = false := by simp; omega
    have g2 : (m : Int) < 14 := by omega
    rw [e]
    obtain ⟨x, hx⟩ : ∃ x, x = nameB m := ⟨_, rfl⟩
    rw [← hx] at c1 ⊢
    clear hE hc hb e h1 hk hx
    go_enter Tryz.func286, Tryz.ntmps286
    go_wp2
    go_ret
    exact ⟨rfl, unhide HB⟩

theorem ret_text {a b : ByteArray} {v : Value} (h : a = b) : Ending.returned (.tuple #[.string a, v]) = .returned (.tuple #[.string b, v]) := by rw [h]

theorem Tryz.info9 : (Tryz.prog.info? 9).map (fun i => (i.zero, i.size, i.bytes)) = some (some (.string ⟨#[]⟩), 1, 16) := by kernel_rfl

theorem opText_len (o : Int × Int) (h : chk1 o = 0) : (opText o).data.toList.length ≤ 21 := by
  obtain ⟨k, n⟩ := o
  unfold opText
  split
  · rename_i h1
    have h1 : k = 1 := h1
    subst h1
    have hn : -1000000 ≤ n ∧ n ≤ 1000000 := by
      have : fit n = true := by
        simp only [chk1] at h
        cases hf : fit n with
        | true => rfl
        | false => simp [hf] at h
      exact (fit_iff n).1 this
    simpa using Lib.itoa_length_le n (by omega) (by omega)
  · have hk : 1 ≤ k ∧ k ≤ 13 := by
      simp only [chk1] at h
      split at h
      · cases h
      · omega
    show (nameB k.toNat).data.toList.length ≤ 21
    have hk2 : k.toNat < 14 := by omega
    have all : ∀ j : Fin 14, (nameB j.val).data.toList.length ≤ 21 := by decide
    exact all ⟨k.toNat, hk2⟩

theorem lens_le : ∀ (xs : List (List UInt8)), (∀ x ∈ xs, x.length ≤ 21) → Lib.lens xs ≤ 21 * xs.length
  | [], _ => by simp [Lib.lens]
  | x :: r, h => by
    have h1 := h x (by simp)
    have h2 := lens_le r (fun y hy => h y (by simp [hy]))
    simp only [Lib.lens, List.length_cons] at h2 ⊢
    simp at h2 ⊢
    omega

theorem opsText_len (l : List (Int × Int)) (h16 : l.length ≤ 16) (h : chkL l = 0) : (Lib.join ((l.map opText).map (·.data.toList)) [32]).length ≤ 400 := by
  cases l with
  | nil => simp [Lib.join_nil]
  | cons o r =>
    rw [List.map_cons, List.map_cons, Lib.join_length]
    have hl := lens_le (((o :: r).map opText).map (·.data.toList)) (fun x hx => by
      simp only [List.map_map, List.mem_map, Function.comp] at hx
      obtain ⟨q, hq, rfl⟩ := hx
      obtain ⟨i, hi, rfl⟩ := List.getElem_of_mem hq
      exact opText_len _ (chkL_all h i hi))
    simp only [List.map_cons, List.length_cons, List.length_map, List.length_nil] at hl h16 ⊢
    omega

set_option maxHeartbeats 400000 in
theorem print_bad (a : Option Addr) (len cap : Nat) (l : List (Int × Int)) (w : World) (hO : OpsAt w a len l) (hc : chk l ≠ 0) :
    Calls Tryz.prog 257 #[.slice a len cap] w fun e w' => e = .returned (.tuple #[.string ⟨#[]⟩, .int .i64 (chk l)]) ∧ Below w.heap.size w w' := by
  have CK := hide (check_any a len cap l w hO)
  obtain ⟨x, hx⟩ : ∃ x, x = chk l := ⟨_, rfl⟩
  rw [← hx] at hc CK ⊢
  have hx1 : (x != 0) = true := by simp [hc]
  clear hO hc hx
  go_enter Tryz.func257, Tryz.ntmps257
  go_wp2_with fail
  refine (unhide CK).mono ?_
  rintro e w1 ⟨rfl, hb1⟩
  have HB1 := hide hb1
  clear hb1
  go_wp2
  go_ret2
  exact ⟨rfl, unhide HB1⟩

/-- The words of the orders, as values. -/
def wordV (l : List (Int × Int)) (j : Nat) : Value := .string (opText (l.getD j (0, 0)))

set_option maxRecDepth 10000 in
set_option maxHeartbeats 1600000 in
theorem print_some (b off len cap : Nat) (l : List (Int × Int)) (w : World) (hE : Env w) (hz : l.length = len) (hpos : 0 < len) (hck : chk l = 0) (hbl : b < w.heap.size)
    (hc : ∀ i, i < len → w.cell? ⟨b, off + i * 2, none⟩ = some (.int .i64 (l.getD i (0, 0)).1) ∧ w.cell? ⟨b, off + i * 2 + 1, none⟩ = some (.int .i64 (l.getD i (0, 0)).2)) :
    Calls Tryz.prog 257 #[.slice (some ⟨b, off, none⟩) len cap] w fun e w' => e = .returned (.tuple #[.string (opsText l), .int .i64 0]) ∧ Below w.heap.size w w' := by
  obtain ⟨i0, hi, hz0, hz1, hz2⟩ := info_parts Tryz.info9
  have h16 : len ≤ 16 := by
    unfold chk at hck
    split at hck
    · cases hck
    · omega
  have hck' : chkL l = 0 := by
    unfold chk at hck
    split at hck
    · cases hck
    · exact hck
  have HK := hide (chkL_all hck')
  have HTL := hide (opsText_len l (by omega) hck')
  have CK := hide (check_any (some ⟨b, off, none⟩) len cap l w ⟨hz, fun _ => ⟨b, off, rfl, hc⟩⟩)
  rw [hck] at CK
  have HE := hide hE
  have HC := hide hc
  have HZ := hide hz
  clear hE hc hz hck hck'
  go_enter Tryz.func257, Tryz.ntmps257
  go_wp2_with fail
  refine (unhide CK).mono ?_
  rintro e w1 ⟨rfl, hb1⟩
  have HB1 := hide hb1
  clear hb1
  go_wp2_with (at_make; refine wpList_make_full _ rfl _ _ 22 rfl w1.heap.size 9 i0 (.string ⟨#[]⟩) 1 Tryz.underlying22 hi hz0 hz1 .i64 .i64 _ _ len rfl rfl rfl rfl (by rw [hz2]; omega) (by unfold maxLen; omega) (Nat.le_refl _) ?_; intro w2 hown2 hgrow2)
  have hst : FillV w1.heap.size 9 len (wordV l) w1 w2 0 := ⟨⟨_, hown2, fun j hj => absurd hj (by omega)⟩, (Below.refl _ _).grown hgrow2 (Nat.le_refl _) (fun k h => by cases h)⟩
  have HST := hide hst
  clear hst hown2 hgrow2
  go_loopw [18] (fun i wr => ∃ k : Nat, k ≤ len ∧ i = .int .i64 k ∧ FillV w1.heap.size 9 len (wordV l) w1 wr k) (fun i _ => len - (intOf i).toNat)
  case atStart => exact ⟨0, Nat.zero_le _, rfl, unhide HST⟩
  case round =>
    obtain ⟨k, hk, rfl, hfl⟩ := hrel
    have HF := hide hfl
    have hbw : Below w.heap.size w wr := (unhide HB1).trans (hfl.bel.mono (unhide HB1).size)
    have HBW := hide hbw
    by_cases hlt : k < len
    · have hlk : k < l.length := by rw [unhide HZ]; exact hlt
      obtain ⟨c1, c2⟩ := (unhide HC) k hlt
      rw [← hbw.cell (p := ⟨b, off + k * 2, none⟩) hbl] at c1
      rw [← hbw.cell (p := ⟨b, off + k * 2 + 1, none⟩) hbl] at c2
      obtain ⟨q, hq⟩ : ∃ q, q = l.getD k (0, 0) := ⟨_, rfl⟩
      rw [← hq] at c1 c2
      have hq' : q = l[k] := by rw [hq]; simp [hlk]
      have hkk := (unhide HK) k hlk
      rw [← hq'] at hkk
      have HQ := hide hq
      obtain ⟨kd, n⟩ := q
      have hba : Below wr.heap.size wr (wr.alloc (.cells #[.int .i64 kd, .int .i64 n] 164)) := (Below.refl _ _).alloc (Nat.le_refl _) _
      have PO := hide (printOrder_any kd n _ (((unhide HE).later hbw).later hba) hkk)
      obtain ⟨x, hx⟩ : ∃ x, x = opText (kd, n) := ⟨_, rfl⟩
      rw [← hx] at PO
      have HX := hide hx
      have HBA := hide hba
      clear hfl hbw hq hq' hkk hx hba
      go_wp2_with fail
      refine (unhide PO).mono ?_
      rintro e w3 ⟨rfl, hb3⟩
      have hf3 := ((unhide HF).keep (unhide HBA)).keep hb3
      obtain ⟨v, hold⟩ := hf3.old hlt
      have hfree := hf3.free k
      have HF3 := hide hf3
      clear hb3 hf3
      go_wp2
      go_roundw
      case rel =>
        refine ⟨k + 1, by omega, by go_num, (unhide HF3).step hlt ?_⟩
        show Value.string x = wordV l k
        rw [unhide HX, unhide HQ]; rfl
      case measure => simp [intOf]; omega
    · clear hfl hbw
      have e : k = len := by omega
      subst e
      clear hk hlt
      have HJ : Hid (∀ (j : Nat) x, (l.map opText)[j]? = some x → wr.cell? ⟨w1.heap.size, 0 + j, none⟩ = some (.string x)) := fun j x hj => by
        have hjl : j < l.length := by
          rcases Nat.lt_or_ge j l.length with h | h
          · exact h
          · rw [List.getElem?_eq_none (by simpa using h)] at hj; cases hj
        rw [Nat.zero_add, (unhide HF).cells (Nat.le_refl _) j (by rw [← unhide HZ]; exact hjl)]
        simp [hjl] at hj
        simp [wordV, hjl, hj]
      have HL : Hid ((l.map opText).length = k) := by rw [List.length_map]; exact unhide HZ
      have JN := hide (Tryz.strings_Join w1.heap.size 0 k (l.map opText) ⟨#[32]⟩ wr (unhide HJ) (unhide HF).lt (by rw [unhide HL]; omega) (by rw [unhide HL]; exact Nat.le_refl _) (Nat.le_trans (unhide HTL) (by decide)))
      rw [unhide HL] at JN
      change Hid (Calls _ _ _ _ fun e w' => e = .returned (.string (opsText l)) ∧ _) at JN
      obtain ⟨t, ht⟩ : ∃ t, t = opsText l := ⟨_, rfl⟩
      rw [← ht] at JN
      have HT := hide ht
      clear ht
      go_wp2_with fail
      refine (unhide JN).mono ?_
      rintro e w4 ⟨rfl, hb4⟩
      have HB4 := hide (bel_tw (unhide HBW) hb4)
      clear hb4
      go_wp2
      go_ret2
      exact ⟨ret_text (unhide HT), unhide HB4⟩

set_option maxHeartbeats 400000 in
theorem print_none (a : Option Addr) (cap : Nat) (w : World) :
    Calls Tryz.prog 257 #[.slice a 0 cap] w fun e w' => e = .returned (.tuple #[.string ⟨#[]⟩, .int .i64 0]) ∧ Below w.heap.size w w' := by
  obtain ⟨i0, hi, hz0, hz1, hz2⟩ := info_parts Tryz.info9
  go_enter Tryz.func257, Tryz.ntmps257
  go_wp2_with fail
  refine (check_none a cap w).mono ?_
  rintro e w1 ⟨rfl, rfl⟩
  go_wp2_with (at_make; refine wpList_make_full _ rfl _ _ 22 rfl w.heap.size 9 i0 (.string ⟨#[]⟩) 1 Tryz.underlying22 hi hz0 hz1 .i64 .i64 _ _ 0 rfl rfl rfl rfl (by rw [hz2]; omega) (by unfold maxLen; omega) (Nat.le_refl _) ?_; intro w2 hown2 hgrow2)
  have HB : Hid (Below w.heap.size w w2) := (Below.refl _ _).grown hgrow2 (Nat.le_refl _) (fun k h => by cases h)
  clear hown2 hgrow2
  refine wp_loop_rounds 1 ?_
  rw [rounds_succ]
  go_wp2_with fail
  refine (Tryz.strings_Join_none _ _ _ _).mono ?_
  rintro e w3 ⟨rfl, rfl⟩
  go_wp2
  go_ret2
  exact ⟨rfl, unhide HB⟩

/-- What Print says. -/
def prT (l : List (Int × Int)) : ByteArray := if chk l = 0 then opsText l else ⟨#[]⟩

theorem print_any (a : Option Addr) (len cap : Nat) (l : List (Int × Int)) (w : World) (hE : Env w) (hO : OpsAt w a len l) :
    Calls Tryz.prog 257 #[.slice a len cap] w fun e w' => e = .returned (.tuple #[.string (prT l), .int .i64 (chk l)]) ∧ Below w.heap.size w w' := by
  unfold prT
  by_cases hck : chk l = 0
  · rw [if_pos hck, hck]
    obtain ⟨hz, hc⟩ := hO
    by_cases h : len = 0
    · subst h
      have e : l = [] := List.length_eq_zero_iff.1 hz
      subst e
      exact print_none a cap w
    · obtain ⟨b, off, rfl, hcell⟩ := hc (by omega)
      exact print_some b off len cap l w hE hz (by omega) hck (World.block_lt_of_cell? _ _ (hcell 0 (by omega)).1) hcell
  · rw [if_neg hck]
    exact print_bad a len cap l w hO hck

end Go.Proofs.YtmomfkikogbdeaaGreatDoor

/- Contracts of what reads a number, an order. -/
namespace Go.Proofs.YtmomfkikogbdeaaGreatDoor
open Go.RowKit

def textB (v : Int) : ByteArray := ⟨(Lib.itoa v).toArray⟩

end Go.Proofs.YtmomfkikogbdeaaGreatDoor

/- Contracts of what writes a row of numbers, and a line of a transaction. -/
namespace Go.Proofs.YtmomfkikogbdeaaGreatDoor
open Go.RowKit

theorem ba_ext {a b : ByteArray} (h : a.data.toList = b.data.toList) : a = b := by
  cases a with | mk d => cases b with | mk e => cases d; cases e; simp at h; rw [h]

/-- A word and numbers behind it. -/
def rowB (word : ByteArray) (Z : List Int) : ByteArray := Z.foldl (fun t z => t ++ (⟨#[32]⟩ ++ textB z)) word
theorem rowB_snoc (word : ByteArray) (Z : List Int) (z : Int) : rowB word (Z ++ [z]) = rowB word Z ++ (⟨#[32]⟩ ++ textB z) := by unfold rowB; rw [List.foldl_append]; rfl

theorem textB_size (n : Int) (h : -10000000000 ≤ n ∧ n ≤ 10000000000) : (textB n).size ≤ 21 := by
  have := Lib.itoa_length_le n (by omega) (by omega)
  simpa [textB, ByteArray.size] using this
theorem one_size (x : ByteArray) (c : UInt8) : ((⟨#[c]⟩ : ByteArray) ++ x).size = x.size + 1 := by rw [ByteArray.size_append]; show 1 + x.size = _; omega
theorem size_one (x : ByteArray) (c : UInt8) : (x ++ (⟨#[c]⟩ : ByteArray)).size = x.size + 1 := by rw [ByteArray.size_append]; rfl

theorem foldl_size {α : Type} (f : α → ByteArray) (m : Nat) : ∀ (Z : List α) (t : ByteArray), (∀ z ∈ Z, (f z).size ≤ m) → (Z.foldl (fun t z => t ++ f z) t).size ≤ t.size + m * Z.length
  | [], t, _ => by simp
  | z :: r, t, h => by
    have h1 := foldl_size f m r (t ++ f z) (fun y hy => h y (by simp [hy]))
    have h2 := h z (by simp)
    rw [ByteArray.size_append] at h1
    simp only [List.foldl_cons, List.length_cons, Nat.mul_add, Nat.mul_one]
    omega

theorem rowB_size (word : ByteArray) (Z : List Int) (h : ∀ z ∈ Z, -10000000000 ≤ z ∧ z ≤ 10000000000) : (rowB word Z).size ≤ word.size + 22 * Z.length :=
  foldl_size (fun z => (⟨#[32]⟩ : ByteArray) ++ textB z) 22 Z word (fun z hz => by rw [one_size]; have := textB_size z (h z hz); omega)

set_option maxRecDepth 10000 in
set_option maxHeartbeats 1600000 in
theorem printRow_some (word : ByteArray) (b off n c : Nat) (Z : List Int) (w : World) (hE : Env w) (hw : word.size ≤ 10) (hn : n ≤ 6) (hz : Z.length = n) (hl : b < w.heap.size)
    (hc : ∀ i, i < n → w.cell? ⟨b, off + i, none⟩ = some (.int .i64 (Z.getD i 0))) (hr : ∀ z ∈ Z, -10000000000 ≤ z ∧ z ≤ 10000000000) :
    Calls Tryz.prog 105 #[.string word, .slice (some ⟨b, off, none⟩) n c] w fun e w' => e = .returned (.string (rowB word Z)) ∧ Below w.heap.size w w' := by
  have HE := hide hE
  have HC := hide hc
  have HZ := hide hz
  have HR := hide hr
  clear hE hc hz hr
  go_enter Tryz.func105, Tryz.ntmps105
  go_wp2
  go_loopw [5, 11] (fun s i wr => ∃ k : Nat, k ≤ n ∧ i = .int .i64 k ∧ s = .string (rowB word (Z.take k)) ∧ Below w.heap.size w wr) (fun _ i _ => n - (intOf i).toNat)
  case atStart => exact ⟨0, Nat.zero_le _, rfl, rfl, Below.refl _ _⟩
  case round =>
    obtain ⟨k, hk, rfl, rfl, hb⟩ := hrel
    have HB := hide hb
    by_cases hlt : k < n
    · have hlk : k < Z.length := by rw [unhide HZ]; exact hlt
      have c1 := (unhide HC) k hlt
      rw [← hb.cell (p := ⟨b, off + k, none⟩) hl] at c1
      have e1 : Z.getD k 0 = Z[k] := by simp [hlk]
      rw [e1] at c1
      have hzr := (unhide HR) Z[k] (List.getElem_mem hlk)
      have hS := rowB_snoc word (Z.take k) Z[k]
      rw [← List.take_succ_eq_append_getElem hlk] at hS
      have hTs : (rowB word (Z.take k)).size ≤ 200 := by
        have := rowB_size word (Z.take k) (fun z hz => (unhide HR) z (List.mem_of_mem_take hz))
        rw [List.length_take] at this
        omega
      obtain ⟨z, hz⟩ : ∃ z, Z[k] = z := ⟨_, rfl⟩
      rw [hz] at c1 hzr hS
      obtain ⟨T, hT⟩ : ∃ T, rowB word (Z.take k) = T := ⟨_, rfl⟩
      rw [hT] at hS hTs ⊢
      have HS := hide hS
      have hXs := textB_size z hzr
      have hXs1 : ((⟨#[32]⟩ : ByteArray) ++ textB z).size ≤ 22 := by rw [one_size]; omega
      have IT : Hid (∀ w, Env w → Calls Tryz.prog 167 #[.int .i64 z] w fun e w' => e = .returned (.string (textB z)) ∧ Below w.heap.size w w') := fun w hw =>
        (Tryz.strconv_Itoa z (by omega) (by omega) w hw.tab).mono fun e w' ⟨h1, k, os, h2⟩ => ⟨h1, by rw [h2]; exact Lib.below_grow _ _ (Nat.le_refl _) k os⟩
      have EE := hide ((unhide HE).later hb)
      clear hb hz hT hS e1 hzr
      go_wp2_with fail
      refine ((unhide IT) _ (unhide EE)).mono ?_
      rintro e w3 ⟨rfl, hb3⟩
      have HB3 := hide (bel_on (unhide HB) hb3)
      clear hb3
      go_wp2
      go_roundw
      case rel => exact ⟨k + 1, by omega, by go_num, by rw [unhide HS], unhide HB3⟩
      case measure => simp [intOf]; omega
    · have e : k = n := by omega
      subst e
      have HT : Hid (rowB word (Z.take k) = rowB word Z) := by show _ = _; rw [List.take_of_length_le (by rw [unhide HZ]; exact Nat.le_refl _)]
      clear hb
      go_wp2
      go_ret
      exact ⟨ret_str (unhide HT), unhide HB⟩

/-- A line: a word, numbers, orders. -/
def lineB (word : ByteArray) (Z : List Int) (l : List (Int × Int)) : ByteArray := ((rowB word Z ++ ⟨#[58]⟩) ++ opsText l) ++ ⟨#[10]⟩

theorem opsText_size' (l : List (Int × Int)) (h : chk l = 0) : (opsText l).size ≤ 400 := by
  unfold chk at h
  split at h
  · cases h
  · have := opsText_len l (by omega) h
    simpa [opsText, ByteArray.size] using this

theorem lineB_size (word : ByteArray) (Z : List Int) (l : List (Int × Int)) (hw : word.size ≤ 10) (hz : Z.length ≤ 2) (hr : ∀ z ∈ Z, -10000000000 ≤ z ∧ z ≤ 10000000000) (hl : chk l = 0) : (lineB word Z l).size ≤ 460 := by
  unfold lineB
  have h1 := rowB_size word Z hr
  have h2 := opsText_size' l hl
  rw [size_one, ByteArray.size_append, size_one]
  have h3 : 22 * Z.length ≤ 44 := by omega
  omega

set_option maxRecDepth 10000 in
set_option maxHeartbeats 1600000 in
theorem printLine_is (a : Option Addr) (len cap : Nat) (l : List (Int × Int)) (word : ByteArray) (b off n c : Nat) (Z : List Int) (t : ByteArray) (w : World) (hE : Env w) (hO : OpsAt w a len l) (hck : chk l = 0) (hw : word.size ≤ 10) (hn : n ≤ 2) (hz : Z.length = n) (hl : b < w.heap.size)
    (hc : ∀ i, i < n → w.cell? ⟨b, off + i, none⟩ = some (.int .i64 (Z.getD i 0))) (hr : ∀ z ∈ Z, -10000000000 ≤ z ∧ z ≤ 10000000000) (ht : lineB word Z l = t) :
    Calls Tryz.prog 211 #[.slice a len cap, .string word, .slice (some ⟨b, off, none⟩) n c] w fun e w' => e = .returned (.string t) ∧ Below w.heap.size w w' := by
  have PR := hide (print_any a len cap l w hE hO)
  have e : prT l = opsText l := by unfold prT; rw [if_pos hck]
  rw [e, hck] at PR
  have R : Hid (∀ w', Below w.heap.size w w' → Calls Tryz.prog 105 #[.string word, .slice (some ⟨b, off, none⟩) n c] w' fun e w2 => e = .returned (.string (rowB word Z)) ∧ Below w'.heap.size w' w2) := fun w' hb =>
    printRow_some word b off n c Z w' (hE.later hb) hw (by omega) hz (Nat.lt_of_lt_of_le hl hb.size) (fun i hi => by rw [hb.cell (p := ⟨b, off + i, none⟩) hl]; exact hc i hi) hr
  have s1 : (rowB word Z).size ≤ 54 := by have := rowB_size word Z hr; omega
  have s2 := opsText_size' l hck
  unfold lineB at ht
  obtain ⟨A, hA⟩ : ∃ A, rowB word Z = A := ⟨_, rfl⟩
  obtain ⟨B, hB⟩ : ∃ B, opsText l = B := ⟨_, rfl⟩
  rw [hA] at R s1 ht
  rw [hB] at PR s2 ht
  have s3 : (A ++ (⟨#[58]⟩ : ByteArray)).size ≤ 55 := by rw [size_one]; omega
  have s4 : ((A ++ (⟨#[58]⟩ : ByteArray)) ++ B).size ≤ 455 := by rw [ByteArray.size_append]; omega
  have HT := hide ht
  clear hE hO hck hz hc hr e hA hB ht
  go_enter Tryz.func211, Tryz.ntmps211
  go_wp2_with fail
  refine (unhide PR).mono ?_
  rintro e w1 ⟨rfl, hb1⟩
  have HB1 := hide hb1
  clear hb1
  go_wp2_with fail
  refine ((unhide R) w1 (unhide HB1)).mono ?_
  rintro e w2 ⟨rfl, hb2⟩
  have HB2 := hide (bel_on (unhide HB1) hb2)
  clear hb2
  go_wp2
  go_ret
  exact ⟨ret_str (unhide HT), unhide HB2⟩

end Go.Proofs.YtmomfkikogbdeaaGreatDoor

/- The contract of Print of transactions: its error, and the text of a right one. -/
namespace Go.Proofs.YtmomfkikogbdeaaGreatDoor
open Go.RowKit

def txB : ByteArray := ⟨#[116, 120]⟩
def inB : ByteArray := ⟨#[105, 110]⟩
def outB : ByteArray := ⟨#[111, 117, 116]⟩

def headText (h : Int) : ByteArray := rowB txB [h] ++ ⟨#[10]⟩
def inText (x : InD) : ByteArray := lineB inB [x.1, x.2.1] x.2.2
def outText (x : OutD) : ByteArray := lineB outB [x.1] x.2
def insText (h : Int) (I : List InD) : ByteArray := I.foldl (fun t x => t ++ inText x) (headText h)
def outsText (t : ByteArray) (O : List OutD) : ByteArray := O.foldl (fun t x => t ++ outText x) t
/-- The text of a transaction. -/
def txText (t : TxD) : ByteArray := outsText (insText t.1 t.2.1) t.2.2

theorem insText_snoc (h : Int) (I : List InD) (x : InD) : insText h (I ++ [x]) = insText h I ++ inText x := by unfold insText; rw [List.foldl_append]; rfl
theorem outsText_snoc (t : ByteArray) (O : List OutD) (x : OutD) : outsText t (O ++ [x]) = outsText t O ++ outText x := by unfold outsText; rw [List.foldl_append]; rfl

theorem headText_size (h : Int) (hh : 0 ≤ h ∧ h ≤ 1000) : (headText h).size ≤ 30 := by
  unfold headText
  have := rowB_size txB [h] (fun z hz => by simp at hz; omega)
  rw [size_one]
  have e : txB.size = 2 := rfl
  simp only [List.length_cons, List.length_nil] at this
  omega
theorem inText_size (x : InD) (h : ptOk x = true ∧ chk x.2.2 = 0) : (inText x).size ≤ 460 := by
  have hp := (ptOk_iff x).1 h.1
  exact lineB_size inB [x.1, x.2.1] x.2.2 (by decide) (by simp) (fun z hz => by simp at hz; omega) h.2
theorem outText_size (x : OutD) (h : (1 ≤ x.1 ∧ x.1 ≤ 1000000000) ∧ chk x.2 = 0) : (outText x).size ≤ 460 :=
  lineB_size outB [x.1] x.2 (by decide) (by simp) (fun z hz => by simp at hz; omega) h.2
theorem insText_size (h : Int) (I : List InD) (hh : 0 ≤ h ∧ h ≤ 1000) (hI : ∀ x ∈ I, ptOk x = true ∧ chk x.2.2 = 0) : (insText h I).size ≤ 30 + 460 * I.length := by
  have h1 := foldl_size inText 460 I (headText h) (fun x hx => inText_size x (hI x hx))
  have h2 := headText_size h hh
  have h3 : (insText h I).size ≤ (headText h).size + 460 * I.length := h1
  omega
theorem outsText_size (t : ByteArray) (O : List OutD) (hO : ∀ x ∈ O, (1 ≤ x.1 ∧ x.1 ≤ 1000000000) ∧ chk x.2 = 0) : (outsText t O).size ≤ t.size + 460 * O.length :=
  foldl_size outText 460 O t (fun x hx => outText_size x (hO x hx))

theorem one_new (w : World) (x : Value) (t : TypeId) : (w.alloc (.cells #[x] t)).cell? ⟨w.heap.size, 0, none⟩ = some x := by rw [World.cell?_alloc_at _ _ _ _ rfl]; rfl

/-- What Print says. -/
def txT (t : TxD) : ByteArray := if chkTx t = 0 then txText t else ⟨#[]⟩

set_option maxRecDepth 10000 in
set_option maxHeartbeats 1600000 in
theorem txPrint_bad (h : Int) (ai ao : Option Addr) (ni ci no co : Nat) (I : List InD) (O : List OutD) (x : Int) (w : World) (hI : InsAt w ai ni I) (hO : OutsAt w ao no O) (sI : SlOk ai ni ci) (hx : chkTx (h, I, O) = x) (h0 : x ≠ 0) :
    Calls Tryz.prog 155 #[.agg #[.int .i64 h, .slice ai ni ci, .slice ao no co]] w fun e w' => e = .returned (.tuple #[.string ⟨#[]⟩, .int .i64 x]) ∧ Below w.heap.size w w' := by
  have hb := bel_new w (.cells #[.int .i64 h, .slice ai ni ci, .slice ao no co] 59)
  have HB := hide hb
  have C := hide (txCheck_any h ai ao ni ci no co I O _ (hI.later hb) (hO.later hb) sI)
  rw [hx] at C
  have g : (x != 0) = true := by simp [h0]
  clear hb hI hO sI hx h0
  go_enter Tryz.func155, Tryz.ntmps155
  go_wp2_with fail
  refine (unhide C).mono ?_
  rintro e w2 ⟨rfl, hb2⟩
  have HB2 := hide (bel_on (unhide HB) hb2)
  clear hb2
  go_wp2
  go_ret2
  exact ⟨rfl, unhide HB2⟩

end Go.Proofs.YtmomfkikogbdeaaGreatDoor
