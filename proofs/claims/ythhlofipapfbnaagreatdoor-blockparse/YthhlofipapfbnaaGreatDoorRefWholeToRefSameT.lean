/- Contracts of the reference's reading of a number, and of its words. -/
import Derived.Test.YthhlofipapfbnaaGreatDoorCoinCopyCToLockFlat
import Derived.Test.YthhlofipapfbnaaGreatDoorShelfC
import Derived.Lib.ParseIntBTie
import Derived.Test.YthhlofipapfbnaaGreatDoorTxSameToBlkArr
import Derived.Deep.RegionHeld3
namespace Go.Proofs.YthhlofipapfbnaaGreatDoor
open Go.RowKit

/-- What the variables hold, the table of blanks among them. -/
structure EnvF (w : World) : Prop where
  envp : EnvP w
  spc : Lib.TabIs Tryz.prog w "strings.asciiSpace" .u8 Lib.asciiSpaceTab

theorem Tryz.gSpc : Tryz.prog.globalNamed "strings.asciiSpace" = some 1 := by kernel_rfl

theorem EnvF.later {w w' : World} (h : EnvF w) (hb : Below w.heap.size w w') : EnvF w' :=
  ⟨h.envp.later hb, Joins.var_stays Tryz.gSpc h.spc hb (Nat.le_refl _)⟩

theorem EnvP.synCell {w : World} (h : EnvP w) : ∃ tp p, w.cell? ⟨4, 0, none⟩ = some (.iface tp p) := by
  obtain ⟨tp, p, e⟩ := h.syn
  exact ⟨tp, p, by rw [World.var?_cell Tryz.gSyn e 0]; rfl⟩
theorem EnvP.ranCell {w : World} (h : EnvP w) : ∃ tp p, w.cell? ⟨5, 0, none⟩ = some (.iface tp p) := by
  obtain ⟨tp, p, e⟩ := h.ran
  exact ⟨tp, p, by rw [World.var?_cell Tryz.gRan e 0]; rfl⟩

set_option maxHeartbeats 800000 in
theorem whole_bad (s : ByteArray) (x : Int) (w : World)
    (hA : Calls Tryz.prog 104 #[.string s, .int .i64 10, .int .i64 64] w fun e w' => ∃ N, e = .returned (.tuple #[.int .i64 x, .iface 241 (.pointer (some ⟨N, 0, none⟩))]) ∧ Below w.heap.size w w') :
    Calls Tryz.prog 54 #[.string s] w fun e w' => e = .returned (.tuple #[.int .i64 x, .bool false]) ∧ Below w.heap.size w w' := by
  have HA := hide hA
  clear hA
  go_enter Tryz.func54, Tryz.ntmps54
  go_wp2_with fail
  refine (unhide HA).mono ?_
  rintro e w1 ⟨N, rfl, hb1⟩
  have HB1 := hide hb1
  clear hb1
  go_wp2
  go_ret2
  exact ⟨rfl, unhide HB1⟩

set_option maxHeartbeats 800000 in
theorem whole_ok (s : ByteArray) (v : Int) (hs : s.size ≤ 4000) (hv : Lib.atoiAll s.data.toList = .ok v) (w : World) (hE : EnvP w) :
    Calls Tryz.prog 54 #[.string s] w fun e w' => e = .returned (.tuple #[.int .i64 v, .bool (numOf s).isSome]) ∧ Below w.heap.size w w' := by
  have hbd := atoi_bd hv
  have AO := hide (Tryz.strconv_ParseInt_10_at64_ok s (by omega) v (by rw [Lib.parseIntB_64]; exact hv) w)
  have HE := hide hE
  obtain ⟨t, ht⟩ : ∃ t, t = textB v := ⟨_, rfl⟩
  obtain ⟨q, hq⟩ : ∃ q, q = (numOf s).isSome := ⟨_, rfl⟩
  have g : (t.toList == s.toList) = q := by
    rw [hq, ht]
    by_cases h : (textB v).toList = s.toList
    · have e : numOf s = some v := by unfold numOf; rw [hv]; simp [h]
      rw [e]; simp [h]
    · have e : numOf s = none := by unfold numOf; rw [hv]; simp [h]
      rw [e]; simp [h]
  have IT : Hid (∀ w, Env w → Calls Tryz.prog 105 #[.int .i64 v, .int .i64 10] w fun e w' => e = .returned (.string t) ∧ Below w.heap.size w w') := fun w hw =>
    (Tryz.strconv_FormatInt_10 v hbd.1 hbd.2 w hw.tab).mono fun e w' ⟨h1, k, os, h2⟩ => ⟨by rw [ht]; exact h1, by rw [h2]; exact Lib.below_grow _ _ (Nat.le_refl _) k os⟩
  rw [← hq]
  clear hE hv hbd ht hq
  go_enter Tryz.func54, Tryz.ntmps54
  go_wp2_with fail
  refine (unhide AO).mono ?_
  rintro e w1 ⟨rfl, hw1⟩
  have hb1 : Below w.heap.size w w1 := by
    rcases hw1 with rfl | ⟨u, rfl⟩
    · exact Below.refl _ _
    · exact Joins.below_bytesWorld _ _ _ _ (Nat.le_refl _)
  have HB1 := hide hb1
  clear hb1 hw1
  go_wp2_with fail
  refine ((unhide IT) _ ((unhide HE).later (unhide HB1)).env).mono ?_
  rintro e w2 ⟨rfl, hb2⟩
  have HB2 := hide (bel_tw (unhide HB1) hb2)
  clear hb2
  go_wp2
  go_ret2
  exact ⟨rfl, unhide HB2⟩

theorem whole_any (s : ByteArray) (hs : s.size ≤ 4000) (w : World) (hE : EnvP w) :
    ∃ x, (∀ v, numOf s = some v → x = v) ∧ Calls Tryz.prog 54 #[.string s] w fun e w' => e = .returned (.tuple #[.int .i64 x, .bool (numOf s).isSome]) ∧ Below w.heap.size w w' := by
  cases hv : Lib.atoiAll s.data.toList with
  | ok v =>
    refine ⟨v, fun u hu => ?_, whole_ok s v hs hv w hE⟩
    unfold numOf at hu
    rw [hv] at hu
    dsimp only at hu
    split at hu
    · cases hu; rfl
    · cases hu
  | «syntax» =>
    have e : numOf s = none := by unfold numOf; rw [hv]
    rw [e]
    obtain ⟨tp, p, hc⟩ := hE.synCell
    exact ⟨0, (fun _ h => by cases h), whole_bad s 0 w ((Tryz.strconv_ParseInt_10_at64_syntax s (by omega) (by rw [Lib.parseIntB_64]; exact hv) _ w hc (Or.inr ⟨tp, p, rfl⟩)).mono fun e w' ⟨N, h1, _, _, h2⟩ => ⟨N, h1, h2⟩)⟩
  | range =>
    have e : numOf s = none := by unfold numOf; rw [hv]
    rw [e]
    obtain ⟨tp, p, hc⟩ := hE.ranCell
    exact ⟨_, (fun _ h => by cases h), whole_bad s _ w ((Tryz.strconv_ParseInt_10_at64_range s (by omega) (by rw [Lib.parseIntB_64]; exact hv) _ w hc (Or.inr ⟨tp, p, rfl⟩)).mono fun e w' ⟨N, h1, _, _, h2⟩ => ⟨N, h1, h2⟩)⟩

/-! The reference's words. -/
def refB : ByteArray := ⟨#[45, 32, 45, 32, 100, 117, 112, 32, 115, 119, 97, 112, 32, 100, 114, 111, 112, 32, 97, 100, 100, 32, 115, 117, 98, 32, 115, 97, 109, 101, 32, 108, 101, 115, 115, 32, 110, 111, 116, 32, 97, 110, 100, 32, 118, 101, 114, 105, 102, 121, 32, 104, 101, 105, 103, 104, 116, 32, 109, 105, 120]⟩
def refL : List ByteArray := [⟨#[45]⟩, ⟨#[45]⟩] ++ namesL.drop 2
theorem fields_ref : (Lib.fields refB.data.toList).map (fun l => Value.string ⟨l.toArray⟩) = refL.map Value.string := by
  have h : Lib.fields refB.data.toList = refL.map (·.data.toList) := by decide +kernel
  rw [h, List.map_map]
  rfl
theorem fields_len : (Lib.fields refB.data.toList).length = 14 := by decide +kernel
theorem ref_ascii : ∀ (j : Nat) b, refB.data.toList[j]? = some b → b.toNat < 128 := by
  have h : refB.data.toList.all (fun b => decide (b.toNat < 128)) = true := by decide +kernel
  intro j b hb
  simpa using List.all_eq_true.1 h b (List.mem_of_getElem? hb)

theorem fields_any (w : World) (hE : EnvF w) :
    Calls Tryz.prog 144 #[.string refB] w fun e w' => e = .returned (.slice (some ⟨w.heap.size, 0, none⟩) 14 14) ∧ w' = w.alloc (.cells (refL.map Value.string).toArray 9) := by
  have h := Tryz.strings_Fields refB w (by decide) ref_ascii hE.spc
  rw [fields_ref, fields_len] at h
  exact h
theorem ref_cell (w : World) (k : Nat) (hk : k < 14) : (w.alloc (.cells (refL.map Value.string).toArray 9)).cell? ⟨w.heap.size, k, none⟩ = some (.string (refL.getD k ⟨#[]⟩)) := by
  rw [World.cell?_alloc_at _ _ _ _ rfl]
  have hl : k < refL.length := hk
  simp [hl]
theorem refL_name (k : Nat) (h2 : 2 ≤ k) (hk : k < 14) : refL.getD k ⟨#[]⟩ = nameB k := by
  have : ∀ m : Fin 14, 2 ≤ m.val → refL.getD m.val ⟨#[]⟩ = nameB m.val := by decide +kernel
  exact this ⟨k, hk⟩ h2

/-- The place of a word among the reference's. -/
def idxR (s : ByteArray) : Int := Lib.idxOfS (refL.take 14) s
def refW (s : ByteArray) : Option (Int × Int) := if 2 ≤ idxR s then some (idxR s, 0) else (numOf s).map fun n => (1, n)

theorem idxR_name : ∀ k : Fin 14, 2 ≤ k.val → idxR (nameB k.val) = k.val := by decide +kernel
theorem kindR_name : ∀ k : Fin 14, 2 ≤ k.val → kindOf (nameB k.val) = some k.val := by decide +kernel
theorem atoiR_name (k : Nat) (h2 : 2 ≤ k) (hk : k < 14) : numOf (nameB k) = none := by
  have : ∀ m : Fin 14, 2 ≤ m.val → (match Lib.atoiAll (nameB m.val).data.toList with | .ok _ => false | _ => true) = true := by decide +kernel
  have h := this ⟨k, hk⟩ h2
  simp only at h
  unfold numOf
  cases hv : Lib.atoiAll (nameB k).data.toList with
  | ok v => rw [hv] at h; cases h
  | «syntax» => rfl
  | range => rfl

theorem refW_eq (s : ByteArray) : refW s = parseW s := by
  by_cases h : ∃ k, 2 ≤ k ∧ k < 14 ∧ nameB k = s
  · obtain ⟨k, h2, hk, rfl⟩ := h
    have e1 := idxR_name ⟨k, hk⟩ h2
    have e2 := kindR_name ⟨k, hk⟩ h2
    simp only at e1 e2
    unfold refW parseW
    rw [e1, e2, atoiR_name k h2 hk, if_pos (by omega)]
    rfl
  · have hno : ∀ i, 2 ≤ i → i < 14 → ((nameB i).toList == s.toList) = false := fun i h2 hi => by
      rw [beq_eq_false_iff_ne]
      intro e
      apply h
      refine ⟨i, h2, hi, ?_⟩
      rw [ByteArray.toList_eq, ByteArray.toList_eq] at e
      cases hx : nameB i with
      | mk d =>
        cases s with
        | mk d' =>
          rw [hx] at e
          have : d = d' := by
            cases d; cases d'; simpa using e
          rw [this]
    have hi : ¬ 2 ≤ idxR s := by
      intro h2
      unfold idxR at h2
      by_cases hm : ⟨#[45]⟩ = s
      · subst hm
        revert h2
        decide +kernel
      · rw [show refL.take 14 = refL.take 14 from rfl, Lib.idxOfS_miss refL 14 s (fun j hj => ?_)] at h2
        · omega
        · intro e
          by_cases h2 : 2 ≤ j
          · exact h ⟨j, h2, hj, by rw [← refL_name j h2 hj]; exact e⟩
          · have : j = 0 ∨ j = 1 := by omega
            rcases this with rfl | rfl <;> exact hm e
    unfold refW parseW
    rw [if_neg hi, kindOf_miss s hno]
    cases numOf s <;> rfl

end Go.Proofs.YthhlofipapfbnaaGreatDoor

/- The contract of the reference's OpsText: the text of right orders. -/
namespace Go.Proofs.YthhlofipapfbnaaGreatDoor
open Go.RowKit

theorem join_snoc (xs : List (List UInt8)) (x sep : List UInt8) (h : xs ≠ []) : Lib.join (xs ++ [x]) sep = Lib.join xs sep ++ (sep ++ x) := by
  cases xs with
  | nil => exact absurd rfl h
  | cons y r => rw [List.cons_append, Lib.join_cons, Lib.join_cons, Lib.joinTail, Lib.joinTail, List.map_append, List.flatten_append, List.append_assoc]; simp

theorem opsText_one (q : Int × Int) : opsText [q] = ⟨#[]⟩ ++ opText q := by
  apply ba_ext
  simp [opsText, Lib.join_one, ByteArray.data_append]
theorem opsText_snoc (l : List (Int × Int)) (q : Int × Int) (h : l ≠ []) : opsText (l ++ [q]) = (opsText l ++ ⟨#[32]⟩) ++ opText q := by
  apply ba_ext
  unfold opsText
  rw [List.map_append, List.map_append, List.map_cons, List.map_nil, List.map_cons, List.map_nil, join_snoc _ _ _ (by simpa using h)]
  simp [ByteArray.data_append]

theorem chkL_front : ∀ (l : List (Int × Int)) (k : Nat), chkL l = 0 → chkL (l.take k) = 0
  | [], k, _ => by rw [List.take_nil]; rfl
  | o :: r, 0, _ => rfl
  | o :: r, k + 1, h => by
    rw [List.take_succ_cons]
    simp only [chkL] at h ⊢
    split at h
    · rename_i e
      rw [if_pos e]
      exact chkL_front r k h
    · contradiction
theorem opsText_size (l : List (Int × Int)) (h16 : l.length ≤ 16) (h : chkL l = 0) : (opsText l).size ≤ 400 := by
  have := opsText_len l h16 h
  simpa [opsText, ByteArray.size] using this

theorem ret_string {a b : ByteArray} (h : a = b) : Value.string a = .string b := by rw [h]

set_option maxRecDepth 10000 in
set_option maxHeartbeats 3200000 in
theorem opstext_some (b off len cap : Nat) (l : List (Int × Int)) (w : World) (hE : EnvF w) (hz : l.length = len) (hck : chk l = 0) (hbl : b < w.heap.size)
    (hc : ∀ i, i < len → w.cell? ⟨b, off + i * 2, none⟩ = some (.int .i64 (l.getD i (0, 0)).1) ∧ w.cell? ⟨b, off + i * 2 + 1, none⟩ = some (.int .i64 (l.getD i (0, 0)).2)) :
    Calls Tryz.prog 101 #[.slice (some ⟨b, off, none⟩) len cap] w fun e w' => e = .returned (.string (opsText l)) ∧ Below w.heap.size w w' := by
  have h16 : len ≤ 16 := by
    unfold chk at hck
    split at hck
    · cases hck
    · omega
  have hck' : chkL l = 0 := by
    unfold chk at hck
    split at hck
    · cases hck
    · exact hck
  have HK := hide (chkL_all hck')
  have HCK := hide hck'
  have HE := hide hE
  have HC := hide hc
  have HZ := hide hz
  have FL := hide (fields_any w hE)
  clear hE hc hz hck hck'
  go_enter Tryz.func101, Tryz.ntmps101
  go_wp2_with fail
  refine (unhide FL).mono ?_
  rintro e w1 ⟨rfl, hw1⟩
  have HB1 : Hid (Below w.heap.size w w1) := by rw [hw1]; exact (Below.refl _ _).alloc (Nat.le_refl _) _
  have HN : Hid (∀ k, k < 14 → w1.cell? ⟨w.heap.size, k, none⟩ = some (.string (refL.getD k ⟨#[]⟩))) := by rw [hw1]; exact fun k hk => ref_cell w k hk
  have hsz : w.heap.size < w1.heap.size := by rw [hw1]; simp
  clear hw1
  go_wp2
  go_loopw [4, 10] (fun s i wr => ∃ k : Nat, k ≤ len ∧ i = .int .i64 k ∧ s = .string (opsText (l.take k)) ∧ Below w1.heap.size w1 wr) (fun _ i _ => len - (intOf i).toNat)
  case atStart => exact ⟨0, Nat.zero_le _, rfl, rfl, Below.refl _ _⟩
  case round =>
    obtain ⟨k, hk, rfl, rfl, hbr⟩ := hrel
    have hbw : Below w.heap.size w wr := bel_tw (unhide HB1) hbr
    have HBW := hide hbw
    have HBR := hide hbr
    by_cases hlt : k < len
    · have hlk : k < l.length := by rw [unhide HZ]; exact hlt
      obtain ⟨c1, c2⟩ := (unhide HC) k hlt
      rw [← hbw.cell (p := ⟨b, off + k * 2, none⟩) hbl] at c1
      rw [← hbw.cell (p := ⟨b, off + k * 2 + 1, none⟩) hbl] at c2
      obtain ⟨q, hq⟩ : ∃ q, q = l.getD k (0, 0) := ⟨_, rfl⟩
      rw [← hq] at c1 c2
      have hq' : q = l[k] := by rw [hq]; simp [hlk]
      have hkk := (unhide HK) k hlk
      rw [← hq'] at hkk
      have hts : l.take (k + 1) = l.take k ++ [q] := by rw [List.take_succ_eq_append_getElem hlk, hq']
      obtain ⟨kd, n⟩ := q
      have hba : Below wr.heap.size wr (wr.alloc (.cells #[.int .i64 kd, .int .i64 n] 160)) := (Below.refl _ _).alloc (Nat.le_refl _) _
      have HBA := hide hba
      obtain ⟨T, hT⟩ : ∃ T, T = opsText (l.take k) := ⟨_, rfl⟩
      rw [← hT]
      obtain ⟨T', hT'⟩ : ∃ T', T' = opsText (l.take (k + 1)) := ⟨_, rfl⟩
      have HT' := hide hT'
      have hne : 0 < k → l.take k ≠ [] := fun h e => by
        rw [List.take_eq_nil_iff] at e
        rcases e with e | e
        · omega
        · rw [e] at hlk; simp at hlk
      have hTs : T.size ≤ 400 := by rw [hT]; exact opsText_size _ (by rw [List.length_take]; omega) (chkL_front l k (unhide HCK))
      have hTs1 : (T ++ ⟨#[32]⟩ : ByteArray).size ≤ 401 := by rw [ByteArray.size_append]; show T.size + 1 ≤ 401; omega
      by_cases h1 : kd = 1
      · subst h1
        have hn : -1000000 ≤ n ∧ n ≤ 1000000 := by
          have : fit n = true := by
            simp only [chk1] at hkk
            cases h : fit n with
            | true => rfl
            | false => simp [h] at hkk
          exact (fit_iff n).1 this
        have IT : Hid (∀ w, Env w → Calls Tryz.prog 48 #[.int .i64 n] w fun e w' => e = .returned (.string (textB n)) ∧ Below w.heap.size w w') := fun w hw =>
          (Tryz.strconv_Itoa n (by omega) (by omega) w hw.tab).mono fun e w' ⟨h1, k, os, h2⟩ => ⟨h1, by rw [h2]; exact Lib.below_grow _ _ (Nat.le_refl _) k os⟩
        have eo : opText (1, n) = textB n := by simp [opText, textB]
        have hXs : (textB n).size ≤ 21 := by
          have := Lib.itoa_length_le n (by omega) (by omega)
          simpa [textB, ByteArray.size] using this
        have EE := hide ((((unhide HE).later hbw).later hba).envp.env)
        by_cases h0 : k = 0
        · subst h0
          simp only [Nat.zero_mul, Nat.add_zero] at c1 c2
          have HTT : Hid (T' = T ++ textB n) := by
            show _ = _
            rw [hT', hts, hT, ← eo]
            exact opsText_one _
          clear hT hT' hts hq hq' hkk hbr hbw hba hn eo hne
          go_wp2_with fail
          refine ((unhide IT) _ (unhide EE)).mono ?_
          rintro e w3 ⟨rfl, hb3⟩
          have HB3 := hide ((unhide HBR).trans ((bel_tw (unhide HBA) hb3).mono (unhide HBR).size))
          clear hb3
          go_wp2
          go_roundw
          case rel => exact ⟨0 + 1, by omega, by go_num, ret_string ((unhide HTT).symm.trans (unhide HT')), unhide HB3⟩
          case measure => simp [intOf]; omega
        · have g0 : (0 : Int) < (k : Int) := by omega
          have HTT : Hid (T' = (T ++ ⟨#[32]⟩) ++ textB n) := by
            show _ = _
            rw [hT', hts, hT, ← eo]
            exact opsText_snoc _ _ (hne (by omega))
          clear hT hT' hts hq hq' hkk hbr hbw hba hn eo hne
          go_wp2_with fail
          refine ((unhide IT) _ (unhide EE)).mono ?_
          rintro e w3 ⟨rfl, hb3⟩
          have HB3 := hide ((unhide HBR).trans ((bel_tw (unhide HBA) hb3).mono (unhide HBR).size))
          clear hb3
          go_wp2
          go_roundw
          case rel => exact ⟨k + 1, by omega, by go_num, ret_string ((unhide HTT).symm.trans (unhide HT')), unhide HB3⟩
          case measure => simp [intOf]; omega
      · have hkr : 1 ≤ kd ∧ kd ≤ 13 := by
          simp only [chk1] at hkk
          split at hkk
          · cases hkk
          · omega
        obtain ⟨m, rfl⟩ := Int.eq_ofNat_of_zero_le (show 0 ≤ kd by omega)
        have eo : opText ((m : Int), n) = nameB m := by simp [opText]; intro h; omega
        have c3 := (unhide HN) m (by omega)
        rw [refL_name m (by omega) (by omega), ← hbr.cell (p := ⟨w.heap.size, m, none⟩) hsz] at c3
        have hl3 : w.heap.size < wr.heap.size := Nat.lt_of_lt_of_le hsz hbr.size
        obtain ⟨x, hx⟩ : ∃ x, x = nameB m := ⟨_, rfl⟩
        rw [← hx] at c3
        have hXs : x.size ≤ 21 := by
          have all : ∀ j : Fin 14, (nameB j.val).size ≤ 21 := by decide
          rw [hx]; exact all ⟨m, by omega⟩
        have g1 : ((m : Int) == 1) = false := by simp; omega
        have g2 : (m : Int) < 14 := by omega
        have HB3 := hide ((unhide HBR).trans ((unhide HBA).mono (unhide HBR).size))
        by_cases h0 : k = 0
        · subst h0
          simp only [Nat.zero_mul, Nat.add_zero] at c1 c2
          have HTT : Hid (T' = T ++ x) := by
            show _ = _
            rw [hT', hts, hT, hx, ← eo]
            exact opsText_one _
          clear hT hT' hts hq hq' hkk hbr hbw hba eo hne hkr h1 hx
          go_wp2
          go_roundw
          case rel => exact ⟨0 + 1, by omega, by go_num, ret_string ((unhide HTT).symm.trans (unhide HT')), unhide HB3⟩
          case measure => simp [intOf]; omega
        · have g0 : (0 : Int) < (k : Int) := by omega
          have HTT : Hid (T' = (T ++ ⟨#[32]⟩) ++ x) := by
            show _ = _
            rw [hT', hts, hT, hx, ← eo]
            exact opsText_snoc _ _ (hne (by omega))
          clear hT hT' hts hq hq' hkk hbr hbw hba eo hne hkr h1 hx
          go_wp2
          go_roundw
          case rel => exact ⟨k + 1, by omega, by go_num, ret_string ((unhide HTT).symm.trans (unhide HT')), unhide HB3⟩
          case measure => simp [intOf]; omega
    · have e : k = len := by omega
      subst e
      have HT : Hid (opsText (l.take k) = opsText l) := by show _ = _; rw [List.take_of_length_le (by rw [unhide HZ]; exact Nat.le_refl _)]
      clear hbr hbw
      go_wp2
      go_ret
      exact ⟨ret_str (unhide HT), unhide HBW⟩

set_option maxHeartbeats 400000 in
theorem opstext_none (a : Option Addr) (cap : Nat) (w : World) (hE : EnvF w) :
    Calls Tryz.prog 101 #[.slice a 0 cap] w fun e w' => e = .returned (.string ⟨#[]⟩) ∧ Below w.heap.size w w' := by
  have FL := hide (fields_any w hE)
  clear hE
  go_enter Tryz.func101, Tryz.ntmps101
  go_wp2_with fail
  refine (unhide FL).mono ?_
  rintro e w1 ⟨rfl, hw1⟩
  have HB1 : Hid (Below w.heap.size w w1) := by rw [hw1]; exact (Below.refl _ _).alloc (Nat.le_refl _) _
  clear hw1
  go_wp2
  refine wp_loop_rounds 1 ?_
  rw [rounds_succ]
  go_wp2
  go_ret
  exact ⟨rfl, unhide HB1⟩

theorem opstext_any (a : Option Addr) (len cap : Nat) (l : List (Int × Int)) (w : World) (hE : EnvF w) (hO : OpsAt w a len l) (hck : chk l = 0) :
    Calls Tryz.prog 101 #[.slice a len cap] w fun e w' => e = .returned (.string (opsText l)) ∧ Below w.heap.size w w' := by
  obtain ⟨hz, hc⟩ := hO
  by_cases h0 : len = 0
  · subst h0
    have e : l = [] := List.length_eq_zero_iff.1 hz
    subst e
    exact opstext_none a cap w hE
  · obtain ⟨b, off, rfl, hcell⟩ := hc (by omega)
    exact opstext_some b off len cap l w hE hz hck (World.block_lt_of_cell? _ _ (hcell 0 (by omega)).1) hcell

end Go.Proofs.YthhlofipapfbnaaGreatDoor

/- Contracts of the reference's SameOut, and of rows of outs held against each other by it. -/
namespace Go.Proofs.YthhlofipapfbnaaGreatDoor
open Go.RowKit

set_option maxRecDepth 10000 in
set_option maxHeartbeats 1600000 in
theorem rsameOut_is (x y : OutD) (a b : Option Addr) (n c m d : Nat) (o : Bool) (w : World) (hn : n ≤ maxLen) (hA : OpsAt w a n x.2) (hB : OpsAt w b m y.2) (ho : decide (x = y) = o) :
    Calls Tryz.prog 73 #[.agg #[.int .i64 x.1, .slice a n c], .agg #[.int .i64 y.1, .slice b m d]] w fun e w' => e = .returned (.bool o) ∧ Below w.heap.size w w' := by
  obtain ⟨x1, k⟩ := x
  obtain ⟨y1, l⟩ := y
  simp only at hA hB ⊢
  have hb := bel_on (bel_new w (.cells #[.int .i64 x1, .slice a n c] 85)) (bel_new _ (.cells #[.int .i64 y1, .slice b m d] 85))
  have HB := hide hb
  by_cases h1 : x1 = y1
  · subst h1
    have C := hide (eqOps_is a b n m c d k l o _ hn (hA.later hb) (hB.later hb) (by rw [← ho]; simp))
    clear hA hB hb ho
    go_enter Tryz.func73, Tryz.ntmps73
    go_wp2_with fail
    refine (unhide C).mono ?_
    rintro e w2 ⟨rfl, hb2⟩
    have HB2 := hide (bel_on (unhide HB) hb2)
    clear hb2
    go_wp2
    go_ret
    exact ⟨rfl, unhide HB2⟩
  · have e : o = false := by rw [← ho]; exact decide_eq_false (fun e => h1 (by injection e))
    have g : (x1 == y1) = false := by simp [h1]
    subst e
    clear hA hB hb ho
    go_enter Tryz.func73, Tryz.ntmps73
    go_wp2
    go_ret
    exact ⟨rfl, unhide HB⟩

set_option maxRecDepth 10000 in
set_option maxHeartbeats 3200000 in
theorem reqOuts_some (b1 o1 b2 o2 n c d : Nat) (l k : List OutD) (o : Bool) (w : World) (hn : n ≤ maxLen) (z1 : l.length = n) (z2 : k.length = n)
    (h1 : ∀ i (h : i < l.length), OutAt w b1 (o1 + i * 2) l[i]) (h2 : ∀ i (h : i < k.length), OutAt w b2 (o2 + i * 2) k[i]) (ho : decide (l = k) = o) :
    Calls Tryz.prog 98 #[.slice (some ⟨b1, o1, none⟩) n c, .slice (some ⟨b2, o2, none⟩) n d, .func (.func 73) #[] #[]] w fun e w' => e = .returned (.bool o) ∧ Below w.heap.size w w' := by
  subst ho
  unfold maxLen at hn
  have H1 := hide h1
  have H2 := hide h2
  have Z1 := hide z1
  have Z2 := hide z2
  clear h1 h2 z1 z2
  go_enter Tryz.func98, Tryz.ntmps98
  go_wp2
  go_loopw [17] (fun i wr => ∃ j : Nat, j ≤ n ∧ i = .int .i64 j ∧ Below w.heap.size w wr ∧ Hid (l.take j = k.take j)) (fun i _ => n - (intOf i).toNat)
  case atStart => exact ⟨0, Nat.zero_le _, rfl, Below.refl _ _, rfl⟩
  case round =>
    obtain ⟨j, hk, rfl, hb, A⟩ := hrel
    have HB := hide hb
    by_cases hlt : j < n
    · have hl1 : j < l.length := by rw [unhide Z1]; exact hlt
      have hl2 : j < k.length := by rw [unhide Z2]; exact hlt
      have g := OutAt.kept _ _ _ _ _ hb ((unhide H1) j hl1)
      have f := OutAt.kept _ _ _ _ _ hb ((unhide H2) j hl2)
      have TS := hide (take_same hl1 hl2 (unhide A))
      have TU := hide (take_unlike hl1 hl2)
      obtain ⟨q, hq⟩ : ∃ q, l[j] = q := ⟨_, rfl⟩
      obtain ⟨r, hr⟩ : ∃ r, k[j] = r := ⟨_, rfl⟩
      rw [hq] at g
      rw [hr] at f
      rw [hq, hr] at TS TU
      obtain ⟨g1, qa, qn, qc, g3, g4, g5⟩ := g
      obtain ⟨f1, ra, rn, rc, f3, f4, _⟩ := f
      obtain ⟨q1, qk⟩ := q
      obtain ⟨r1, rk⟩ := r
      simp only at g1 g3 g4 f1 f3 f4
      have lt2 : b2 < wr.heap.size := World.block_lt_of_cell? _ _ f1
      have hb2 := bel_on (bel_new wr (.cells #[.int .i64 q1, .slice qa qn qc] 85)) (bel_new _ (.cells #[.int .i64 r1, .slice ra rn rc] 85))
      have HB2 := hide hb2
      have C : Hid (∀ o, decide (((q1, qk) : OutD) = (r1, rk)) = o → Calls Tryz.prog 73 #[.agg #[.int .i64 q1, .slice qa qn qc], .agg #[.int .i64 r1, .slice ra rn rc]] ((wr.alloc (.cells #[.int .i64 q1, .slice qa qn qc] 85)).alloc (.cells #[.int .i64 r1, .slice ra rn rc] 85)) fun e w' => e = .returned (.bool o) ∧ Below _ _ w') :=
        fun o ho => rsameOut_is (q1, qk) (r1, rk) qa ra qn qc rn rc o _ g5.len (g4.later hb2) (f4.later hb2) ho
      clear hq hr A g4 f4 g5 hb hb2
      by_cases he : ((q1, qk) : OutD) = (r1, rk)
      · have T := hide ((unhide TS) he)
        have C2 := hide ((unhide C) true (decide_eq_true he))
        clear TS TU C he
        go_wp2_with fail
        refine (unhide C2).mono ?_
        rintro e w3 ⟨rfl, hb3⟩
        have HB3 := hide (bel_on (bel_on (unhide HB) (unhide HB2)) hb3)
        clear hb3
        go_wp2
        go_roundw
        case rel => exact ⟨j + 1, by omega, by go_num, unhide HB3, T⟩
        case measure => simp [intOf]; omega
      · have U : Hid (decide (l = k) = false) := decide_eq_false ((unhide TU) he)
        have C2 := hide ((unhide C) false (decide_eq_false he))
        clear TS TU C he
        go_wp2_with fail
        refine (unhide C2).mono ?_
        rintro e w3 ⟨rfl, hb3⟩
        have HB3 := hide (bel_on (bel_on (unhide HB) (unhide HB2)) hb3)
        clear hb3
        go_wp2
        go_ret
        exact ⟨by rw [unhide U]; rfl, unhide HB3⟩
    · have U : Hid (decide (l = k) = true) := by
        have h := unhide A
        rw [List.take_of_length_le (by rw [unhide Z1]; omega), List.take_of_length_le (by rw [unhide Z2]; omega)] at h
        exact decide_eq_true h
      clear A hb
      go_wp2
      go_ret
      exact ⟨by rw [unhide U]; rfl, unhide HB⟩

theorem reqOuts_is (a b : Option Addr) (n m c d : Nat) (l k : List OutD) (o : Bool) (w : World) (hn : n ≤ maxLen) (hA : OutsAt w a n l) (hB : OutsAt w b m k) (ho : decide (l = k) = o) :
    Calls Tryz.prog 98 #[.slice a n c, .slice b m d, .func (.func 73) #[] #[]] w fun e w' => e = .returned (.bool o) ∧ Below w.heap.size w w' := by
  by_cases h : n = m
  · subst h
    by_cases h0 : n = 0
    · subst h0
      have e1 : l = [] := List.length_eq_zero_iff.1 hA.1
      have e2 : k = [] := List.length_eq_zero_iff.1 hB.1
      subst e1 e2
      rw [decide_eq_true rfl] at ho
      subst ho
      exact (eqOuts_none a b c d _ w).mono fun e w' ⟨h1, h2⟩ => ⟨h1, h2 ▸ Below.refl _ _⟩
    · obtain ⟨b1, o1, rfl, _, h1⟩ := hA.2 (by omega)
      obtain ⟨b2, o2, rfl, _, h2⟩ := hB.2 (by omega)
      exact reqOuts_some b1 o1 b2 o2 n c d l k o w hn hA.1 hB.1 h1 h2 ho
  · have e : l ≠ k := fun e => h (by rw [← hA.1, ← hB.1, e])
    rw [decide_eq_false e] at ho
    subst ho
    exact (eqOuts_lens a b n m c d _ w h).mono fun e w' ⟨h1, h2⟩ => ⟨h1, h2 ▸ Below.refl _ _⟩

end Go.Proofs.YthhlofipapfbnaaGreatDoor

/- The contract of the reference's SameTx. -/
namespace Go.Proofs.YthhlofipapfbnaaGreatDoor
open Go.RowKit

theorem bel_draws (w : World) : Below w.heap.size w w.drew := ⟨rfl, rfl, rfl, Nat.le_refl _, fun _ _ => rfl⟩

set_option maxRecDepth 10000 in
set_option maxHeartbeats 6400000 in
theorem rsame_loop (h : Int) (b1 o1 b2 o2 n ci di : Nat) (ao bo : Option Addr) (no co mo eo : Nat) (I I' : List InD) (O O' : List OutD) (o : Bool) (w : World) (hn : n ≤ maxLen) (lo : no ≤ maxLen)
    (z1 : I.length = n) (z2 : I'.length = n) (hl1 : b1 < w.heap.size) (hl2 : b2 < w.heap.size) (h1 : ∀ i (h : i < I.length), InAt w b1 (o1 + i * 3) I[i]) (h2 : ∀ i (h : i < I'.length), InAt w b2 (o2 + i * 3) I'[i])
    (hO : OutsAt w ao no O) (hO' : OutsAt w bo mo O') (ho : (decide (I = I') && decide (O = O')) = o) :
    Calls Tryz.prog 47 #[.agg #[.int .i64 h, .slice (some ⟨b1, o1, none⟩) n ci, .slice ao no co], .agg #[.int .i64 h, .slice (some ⟨b2, o2, none⟩) n di, .slice bo mo eo]] w fun e w' => e = .returned (.bool o) ∧ Below w.heap.size w w' := by
  subst ho
  unfold maxLen at hn
  obtain ⟨W, hW⟩ : ∃ W, W = (w.alloc (.cells #[.int .i64 h, .slice (some ⟨b1, o1, none⟩) n ci, .slice ao no co] 78)).alloc (.cells #[.int .i64 h, .slice (some ⟨b2, o2, none⟩) n di, .slice bo mo eo] 78) := ⟨_, rfl⟩
  have hb1 := bel_new w (.cells #[.int .i64 h, .slice (some ⟨b1, o1, none⟩) n ci, .slice ao no co] 78)
  have hb2 := bel_new (w.alloc (.cells #[.int .i64 h, .slice (some ⟨b1, o1, none⟩) n ci, .slice ao no co] 78)) (.cells #[.int .i64 h, .slice (some ⟨b2, o2, none⟩) n di, .slice bo mo eo] 78)
  have hbW : Below w.heap.size w W := by rw [hW]; exact bel_on hb1 hb2
  have eW : (w.alloc (.cells #[.int .i64 h, .slice (some ⟨b1, o1, none⟩) n ci, .slice ao no co] 78)).heap.size = w.heap.size + 1 := by simp
  have c1 := three_new w (.int .i64 h) (.slice (some ⟨b1, o1, none⟩) n ci) (.slice ao no co) 78
  have c2 := three_new (w.alloc (.cells #[.int .i64 h, .slice (some ⟨b1, o1, none⟩) n ci, .slice ao no co] 78)) (.int .i64 h) (.slice (some ⟨b2, o2, none⟩) n di) (.slice bo mo eo) 78
  rw [eW] at c2
  have CT : Hid (W.cell? ⟨w.heap.size, 2, none⟩ = some (.slice ao no co)) := by rw [hW]; exact cell_later hb2 c1.2.2
  have CU : Hid (W.cell? ⟨w.heap.size + 1, 1, none⟩ = some (.slice (some ⟨b2, o2, none⟩) n di) ∧ W.cell? ⟨w.heap.size + 1, 2, none⟩ = some (.slice bo mo eo)) := by rw [hW]; exact ⟨c2.2.1, c2.2.2⟩
  have H1 : Hid (∀ i (h : i < I.length), InAt W b1 (o1 + i * 3) I[i]) := fun i hi => InAt.kept _ _ _ _ _ hbW (h1 i hi)
  have H2 : Hid (∀ i (h : i < I'.length), InAt W b2 (o2 + i * 3) I'[i]) := fun i hi => InAt.kept _ _ _ _ _ hbW (h2 i hi)
  have HO := hide (hO.later hbW)
  have HO' := hide (hO'.later hbW)
  have Z1 := hide z1
  have Z2 := hide z2
  have LO := hide lo
  have HBW := hide hbW
  have hlW : b1 < W.heap.size ∧ b2 < W.heap.size := ⟨Nat.lt_of_lt_of_le hl1 hbW.size, Nat.lt_of_lt_of_le hl2 hbW.size⟩
  have g0 : ((n : Int) != (n : Int)) = false := by simp
  clear h1 h2 z1 z2 hO hO' hb1 hb2 hbW c1 c2 eW lo
  go_enter Tryz.func47, Tryz.ntmps47
  go_wp2
  rw [← hW]
  clear hW
  go_loopw [24] (fun i wr => ∃ j : Nat, j ≤ n ∧ i = .int .i64 j ∧ Below W.heap.size W wr ∧ Hid (I.take j = I'.take j)) (fun i _ => n - (intOf i).toNat)
  case atStart => exact ⟨0, Nat.zero_le _, rfl, Below.refl _ _, rfl⟩
  case round =>
    obtain ⟨j, hk, rfl, hb, A⟩ := hrel
    have HB := hide hb
    by_cases hlt : j < n
    · have hl1 : j < I.length := by rw [unhide Z1]; exact hlt
      have hl2 : j < I'.length := by rw [unhide Z2]; exact hlt
      have g := InAt.kept _ _ _ _ _ hb ((unhide H1) j hl1)
      have f := InAt.kept _ _ _ _ _ hb ((unhide H2) j hl2)
      have TS := hide (take_same hl1 hl2 (unhide A))
      have TU := hide (take_unlike hl1 hl2)
      obtain ⟨q, hq⟩ : ∃ q, I[j] = q := ⟨_, rfl⟩
      obtain ⟨r, hr⟩ : ∃ r, I'[j] = r := ⟨_, rfl⟩
      rw [hq] at g
      rw [hr] at f
      rw [hq, hr] at TS TU
      obtain ⟨g1, g2, qa, qn, qc, g3, g4, g5⟩ := g
      obtain ⟨f1, f2, ra, rn, rc, f3, f4, _⟩ := f
      obtain ⟨q1, q2, qk⟩ := q
      obtain ⟨r1, r2, rk⟩ := r
      simp only at g1 g2 g3 g4 f1 f2 f3 f4
      obtain ⟨X, hX⟩ : ∃ X, X = wr.alloc (.cells #[.int .i64 q1, .int .i64 q2, .slice qa qn qc] 152) := ⟨_, rfl⟩
      have hbX : Below wr.heap.size wr X := by rw [hX]; exact bel_new _ _
      have cx := three_new wr (.int .i64 q1) (.int .i64 q2) (.slice qa qn qc) 152
      rw [← hX] at cx
      obtain ⟨x0, x1, x2⟩ := cx
      have u1 := cell_later hbX (cell_later hb (unhide CU).1)
      have y0 := cell_later hbX f1
      have y1 := cell_later hbX f2
      have y2 := cell_later hbX f3
      have EQ : Hid (∀ o w', Below X.heap.size X w' → decide (qk = rk) = o → Calls Tryz.prog 96 #[.slice qa qn qc, .slice ra rn rc] w' fun e w'' => e = .returned (.bool o) ∧ Below w'.heap.size w' w'') := fun o w' hw' hoo =>
        eqOps_is qa ra qn rn qc rc qk rk o w' g5.len ((g4.later hbX).later hw') ((f4.later hbX).later hw') hoo
      have HBX := hide (bel_on hb hbX)
      have hj0 : (0 : Int) ≤ (j : Int) := Int.natCast_nonneg _
      have hj1 : (j : Int) < (n : Int) := by omega
      clear hq hr A g4 f4 g5 hb hbX f1 f2 f3
      by_cases e1 : q1 = r1
      · subst e1
        by_cases e2 : q2 = r2
        · subst e2
          by_cases hk2 : qk = rk
          · have T := hide ((unhide TS) (by rw [hk2]))
            have C := hide (fun w' hw' => (unhide EQ) true w' hw' (decide_eq_true hk2))
            clear TS TU EQ hk2
            go_wp2_with fail
            rw [← hX]
            clear hX
            go_region_held3 (fun w' => Below X.heap.size X w' ∧ w'.cell? ⟨wr.heap.size, 0, none⟩ = some (.int .i64 q1) ∧ w'.cell? ⟨wr.heap.size, 1, none⟩ = some (.int .i64 q2) ∧ w'.cell? ⟨wr.heap.size, 2, none⟩ = some (.slice qa qn qc) ∧ w'.cell? ⟨w.heap.size + 1, 1, none⟩ = some (.slice (some ⟨b2, o2, none⟩) n di) ∧ w'.cell? ⟨b2, o2 + j * 3, none⟩ = some (.int .i64 q1) ∧ w'.cell? ⟨b2, o2 + j * 3 + 1, none⟩ = some (.int .i64 q2) ∧ w'.cell? ⟨b2, o2 + j * 3 + 2, none⟩ = some (.slice ra rn rc))
              (first
              | exact ⟨bel_draws _, x0, x1, x2, u1, y0, y1, y2⟩
              | (go_split_ands
                 refine ⟨bel_on (by assumption) hbc, cell_later hbc (by assumption), cell_later hbc (by assumption), cell_later hbc (by assumption), cell_later hbc (by assumption), cell_later hbc (by assumption), cell_later hbc (by assumption), cell_later hbc (by assumption)⟩))
              (first | (go_at_call 96; go_split_ands; refine ((unhide C) _ (by assumption)).mono ?_; rintro e w' ⟨rfl, hbc⟩))
            rename_i hH
            have HH := hide (bel_on (unhide HBX) hH.1)
            clear hH
            go_wp2
            go_roundw
            case rel => exact ⟨j + 1, by omega, by go_num, unhide HH, T⟩
            case measure => simp [intOf]; omega
          · have U : Hid ((decide (I = I') && decide (O = O')) = false) := by show _ = _; rw [decide_eq_false ((unhide TU) (fun e => hk2 (by injection e with _ e; injection e)))]; rfl
            have C := hide (fun w' hw' => (unhide EQ) false w' hw' (decide_eq_false hk2))
            clear TS TU EQ hk2
            go_wp2_with fail
            rw [← hX]
            clear hX
            go_region_held3 (fun w' => Below X.heap.size X w' ∧ w'.cell? ⟨wr.heap.size, 0, none⟩ = some (.int .i64 q1) ∧ w'.cell? ⟨wr.heap.size, 1, none⟩ = some (.int .i64 q2) ∧ w'.cell? ⟨wr.heap.size, 2, none⟩ = some (.slice qa qn qc) ∧ w'.cell? ⟨w.heap.size + 1, 1, none⟩ = some (.slice (some ⟨b2, o2, none⟩) n di) ∧ w'.cell? ⟨b2, o2 + j * 3, none⟩ = some (.int .i64 q1) ∧ w'.cell? ⟨b2, o2 + j * 3 + 1, none⟩ = some (.int .i64 q2) ∧ w'.cell? ⟨b2, o2 + j * 3 + 2, none⟩ = some (.slice ra rn rc))
              (first
              | exact ⟨bel_draws _, x0, x1, x2, u1, y0, y1, y2⟩
              | (go_split_ands
                 refine ⟨bel_on (by assumption) hbc, cell_later hbc (by assumption), cell_later hbc (by assumption), cell_later hbc (by assumption), cell_later hbc (by assumption), cell_later hbc (by assumption), cell_later hbc (by assumption), cell_later hbc (by assumption)⟩))
              (first | (go_at_call 96; go_split_ands; refine ((unhide C) _ (by assumption)).mono ?_; rintro e w' ⟨rfl, hbc⟩))
            rename_i hH
            have HH := hide (bel_on (unhide HBX) hH.1)
            clear hH
            go_wp2
            go_ret
            exact ⟨by rw [unhide U]; rfl, bel_on (unhide HBW) (unhide HH)⟩
        · have U : Hid ((decide (I = I') && decide (O = O')) = false) := by show _ = _; rw [decide_eq_false ((unhide TU) (fun e => e2 (by injection e with _ e; injection e)))]; rfl
          clear TS TU EQ
          go_wp2_with fail
          rw [← hX]
          clear hX
          go_quiet (fail)
          go_wp2
          go_ret
          exact ⟨by rw [unhide U]; rfl, bel_on (unhide HBW) (bel_on (unhide HBX) (below_dw _ _))⟩
      · have U : Hid ((decide (I = I') && decide (O = O')) = false) := by show _ = _; rw [decide_eq_false ((unhide TU) (fun e => e1 (by injection e)))]; rfl
        clear TS TU EQ
        go_wp2_with fail
        rw [← hX]
        clear hX
        go_quiet (fail)
        go_wp2
        go_ret
        exact ⟨by rw [unhide U]; rfl, bel_on (unhide HBW) (bel_on (unhide HBX) (below_dw _ _))⟩
    · have AE : Hid (decide (I = I') = true) := by
        have h := unhide A
        rw [List.take_of_length_le (by rw [unhide Z1]; omega), List.take_of_length_le (by rw [unhide Z2]; omega)] at h
        exact decide_eq_true h
      have t2 := cell_later hb (unhide CT)
      have u2 := cell_later hb (unhide CU).2
      have lu : w.heap.size + 1 < wr.heap.size := World.block_lt_of_cell? _ _ u2
      obtain ⟨oo, hoo⟩ : ∃ oo, decide (O = O') = oo := ⟨_, rfl⟩
      have EO := hide (reqOuts_is ao bo no mo co eo O O' oo wr (unhide LO) ((unhide HO).later hb) ((unhide HO').later hb) hoo)
      have U : Hid ((decide (I = I') && decide (O = O')) = oo) := by show _ = _; rw [unhide AE, hoo]; rfl
      clear A hb hoo
      go_wp2_with fail
      refine (unhide EO).mono ?_
      rintro e w9 ⟨rfl, hb9⟩
      have HB9 := hide (bel_on (bel_on (unhide HBW) (unhide HB)) hb9)
      clear hb9
      go_wp2
      go_ret
      exact ⟨by rw [unhide U]; rfl, unhide HB9⟩

end Go.Proofs.YthhlofipapfbnaaGreatDoor
