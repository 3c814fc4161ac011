/- The contract of the reference's OpsText: the text of right orders. -/
import Derived.Test.YtepmnpapdknocaaGreatDoorRefWhole
namespace Go.Proofs.YtepmnpapdknocaaGreatDoor
open Go.RowKit

theorem join_snoc (xs : List (List UInt8)) (x sep : List UInt8) (h : xs ≠ []) : Lib.join (xs ++ [x]) sep = Lib.join xs sep ++ (sep ++ x) := by
  cases xs with
  | nil => exact absurd rfl h
  | cons y r => rw [List.cons_append, Lib.join_cons, Lib.join_cons, Lib.joinTail, Lib.joinTail, List.map_append, List.flatten_append, List.append_assoc]; simp

theorem ba_ext {a b : ByteArray} (h : a.data.toList = b.data.toList) : a = b := by
  cases a with | mk d => cases b with | mk e => cases d; cases e; simp at h; rw [h]

theorem opsText_one (q : Int × Int) : opsText [q] = ⟨#[]⟩ ++ opText q := by
  apply ba_ext
  simp [opsText, Lib.join_one, ByteArray.data_append]
theorem opsText_snoc (l : List (Int × Int)) (q : Int × Int) (h : l ≠ []) : opsText (l ++ [q]) = (opsText l ++ ⟨#[32]⟩) ++ opText q := by
  apply ba_ext
  unfold opsText
  rw [List.map_append, List.map_append, List.map_cons, List.map_nil, List.map_cons, List.map_nil, join_snoc _ _ _ (by simpa using h)]
  simp [ByteArray.data_append]

theorem chkL_front : ∀ (l : List (Int × Int)) (k : Nat), chkL l = 0 → chkL (l.take k) = 0
  | [], k, _ => by rw [List.take_nil]; rfl
  | o :: r, 0, _ => rfl
  | o :: r, k + 1, h => by
    rw [List.take_succ_cons]
    simp only [chkL] at h ⊢
    split at h
    · rename_i e
      rw [if_pos e]
      exact chkL_front r k h
    · contradiction
theorem opsText_size (l : List (Int × Int)) (h16 : l.length ≤ 16) (h : chkL l = 0) : (opsText l).size ≤ 400 := by
  have := opsText_len l h16 h
  simpa [opsText, ByteArray.size] using this

theorem ret_string {a b : ByteArray} (h : a = b) : Value.string a = .string b := by rw [h]

set_option maxRecDepth 10000 in
set_option maxHeartbeats 3200000 in
theorem opstext_some (b off len cap : Nat) (l : List (Int × Int)) (w : World) (hE : EnvF w) (hz : l.length = len) (hck : chk l = 0) (hbl : b < w.heap.size)
    (hc : ∀ i, i < len → w.cell? ⟨b, off + i * 2, none⟩ = some (.int .i64 (l.getD i (0, 0)).1) ∧ w.cell? ⟨b, off + i * 2 + 1, none⟩ = some (.int .i64 (l.getD i (0, 0)).2)) :
    Calls Tryz.prog 81 #[.slice (some ⟨b, off, none⟩) len cap] w fun e w' => e = .returned (.string (opsText l)) ∧ Below w.heap.size w w' := by
  have h16 : len ≤ 16 := by
    unfold chk at hck
    split at hck
    · cases hck
    · omega
  have hck' : chkL l = 0 := by
    unfold chk at hck
    split at hck
    · cases hck
    · exact hck
  have HK := hide (chkL_all hck')
  have HCK := hide hck'
  have HE := hide hE
  have HC := hide hc
  have HZ := hide hz
  have FL := hide (fields_any w hE)
  clear hE hc hz hck hck'
  go_enter Tryz.func81, Tryz.ntmps81
  go_wp2_with fail
  refine (unhide FL).mono ?_
  rintro e w1 ⟨rfl, hw1⟩
  have HB1 : Hid (Below w.heap.size w w1) := by rw [hw1]; exact (Below.refl _ _).alloc (Nat.le_refl _) _
  have HN : Hid (∀ k, k < 14 → w1.cell? ⟨w.heap.size, k, none⟩ = some (.string (refL.getD k ⟨#[]⟩))) := by rw [hw1]; exact fun k hk => ref_cell w k hk
  have hsz : w.heap.size < w1.heap.size := by rw [hw1]; simp
  clear hw1
  go_wp2
  go_loopw [4, 10] (fun s i wr => ∃ k : Nat, k ≤ len ∧ i = .int .i64 k ∧ s = .string (opsText (l.take k)) ∧ Below w1.heap.size w1 wr) (fun _ i _ => len - (intOf i).toNat)
  case atStart => exact ⟨0, Nat.zero_le _, rfl, rfl, Below.refl _ _⟩
  case round =>
    obtain ⟨k, hk, rfl, rfl, hbr⟩ := hrel
    have hbw : Below w.heap.size w wr := bel_tw (unhide HB1) hbr
    have HBW := hide hbw
    have HBR := hide hbr
    by_cases hlt : k < len
    · have hlk : k < l.length := by rw [unhide HZ]; exact hlt
      obtain ⟨c1, c2⟩ := (unhide HC) k hlt
      rw [← hbw.cell (p := ⟨b, off + k * 2, none⟩) hbl] at c1
      rw [← hbw.cell (p := ⟨b, off + k * 2 + 1, none⟩) hbl] at c2
      obtain ⟨q, hq⟩ : ∃ q, q = l.getD k (0, 0) := ⟨_, rfl⟩
      rw [← hq] at c1 c2
      have hq' : q = l[k] := by rw [hq]; simp [hlk]
      have hkk := (unhide HK) k hlk
      rw [← hq'] at hkk
      have hts : l.take (k + 1) = l.take k ++ [q] := by rw [List.take_succ_eq_append_getElem hlk, hq']
      obtain ⟨kd, n⟩ := q
      have hba : Below wr.heap.size wr (wr.alloc (.cells #[.int .i64 kd, .int .i64 n] 148)) := (Below.refl _ _).alloc (Nat.le_refl _) _
      have HBA := hide hba
      obtain ⟨T, hT⟩ : ∃ T, T = opsText (l.take k) := ⟨_, rfl⟩
      rw [← hT]
      obtain ⟨T', hT'⟩ : ∃ T', T' = opsText (l.take (k + 1)) := ⟨_, rfl⟩
      have HT' := hide hT'
      have hne : 0 < k → l.take k ≠ [] := fun h e => by
        rw [List.take_eq_nil_iff] at e
        rcases e with e | e
        · omega
        · rw [e] at hlk; simp at hlk
      have hTs : T.size ≤ 400 := by rw [hT]; exact opsText_size _ (by rw [List.length_take]; omega) (chkL_front l k (unhide HCK))
      have hTs1 : (T ++ ⟨#[32]⟩ : ByteArray).size ≤ 401 := by rw [ByteArray.size_append]; show T.size + 1 ≤ 401; omega
      by_cases h1 : kd = 1
      · subst h1
        have hn : -1000000 ≤ n ∧ n ≤ 1000000 := by
          have : fit n = true := by
            simp only [chk1] at hkk
            cases h : fit n with
            | true => rfl
            | false => simp [h] at hkk
          exact (fit_iff n).1 this
        have IT : Hid (∀ w, Env w → Calls Tryz.prog 80 #[.int .i64 n] w fun e w' => e = .returned (.string (textB n)) ∧ Below w.heap.size w w') := fun w hw =>
          (Tryz.strconv_Itoa n (by omega) (by omega) w hw.tab).mono fun e w' ⟨h1, k, os, h2⟩ => ⟨h1, by rw [h2]; exact Lib.below_grow _ _ (Nat.le_refl _) k os⟩
        have eo : opText (1, n) = textB n := by simp [opText, textB]
        have hXs : (textB n).size ≤ 21 := by
          have := Lib.itoa_length_le n (by omega) (by omega)
          simpa [textB, ByteArray.size] using this
        have EE := hide ((((unhide HE).later hbw).later hba).envp.env)
        by_cases h0 : k = 0
        · subst h0
          simp only [Nat.zero_mul, Nat.add_zero] at c1 c2
          have HTT : Hid (T' = T ++ textB n) := by
            show _ = _
            rw [hT', hts, hT, ← eo]
            exact opsText_one _
          clear hT hT' hts hq hq' hkk hbr hbw hba hn eo hne
          go_wp2_with fail
          refine ((unhide IT) _ (unhide EE)).mono ?_
          rintro e w3 ⟨rfl, hb3⟩
          have HB3 := hide ((unhide HBR).trans ((bel_tw (unhide HBA) hb3).mono (unhide HBR).size))
          clear hb3
          go_wp2
          go_roundw
          case rel => exact ⟨0 + 1, by omega, by go_num, ret_string ((unhide HTT).symm.trans (unhide HT')), unhide HB3⟩
          case measure => simp [intOf]; omega
        · have g0 : (0 : Int) < (k : Int) := by omega
          have HTT : Hid (T' = (T ++ ⟨#[32]⟩) ++ textB n) := by
            show _ = _
            rw [hT', hts, hT, ← eo]
            exact opsText_snoc _ _ (hne (by omega))
          clear hT hT' hts hq hq' hkk hbr hbw hba hn eo hne
          go_wp2_with fail
          refine ((unhide IT) _ (unhide EE)).mono ?_
          rintro e w3 ⟨rfl, hb3⟩
          have HB3 := hide ((unhide HBR).trans ((bel_tw (unhide HBA) hb3).mono (unhide HBR).size))
          clear hb3
          go_wp2
          go_roundw
          case rel => exact ⟨k + 1, by omega, by go_num, ret_string ((unhide HTT).symm.trans (unhide HT')), unhide HB3⟩
          case measure => simp [intOf]; omega
      · have hkr : 1 ≤ kd ∧ kd ≤ 13 := by
          simp only [chk1] at hkk
          split at hkk
          · cases hkk
          · omega
        obtain ⟨m, rfl⟩ := Int.eq_ofNat_of_zero_le (show 0 ≤ kd by omega)
        have eo : opText ((m : Int), n) = nameB m := by simp [opText]; intro h; omega
        have c3 := (unhide HN) m (by omega)
        rw [refL_name m (by omega) (by omega), ← hbr.cell (p := ⟨w.heap.size, m, none⟩) hsz] at c3
        have hl3 : w.heap.size < wr.heap.size := Nat.lt_of_lt_of_le hsz hbr.size
        obtain ⟨x, hx⟩ : ∃ x, x = nameB m := ⟨_, rfl⟩
        rw [← hx] at c3
        have hXs : x.size ≤ 21 := by
          have all : ∀ j : Fin 14, (nameB j.val).size ≤ 21 := by decide
          rw [hx]; exact all ⟨m, by omega⟩
        have g1 : ((m : Int) == 1) = false := by simp; omega
        have g2 : (m : Int) < 14 := by omega
        have HB3 := hide ((unhide HBR).trans ((unhide HBA).mono (unhide HBR).size))
        by_cases h0 : k = 0
        · subst h0
          simp only [Nat.zero_mul, Nat.add_zero] at c1 c2
          have HTT : Hid (T' = T ++ x) := by
            show _ = _
            rw [hT', hts, hT, hx, ← eo]
            exact opsText_one _
          clear hT hT' hts hq hq' hkk hbr hbw hba eo hne hkr h1 hx
          go_wp2
          go_roundw
          case rel => exact ⟨0 + 1, by omega, by go_num, ret_string ((unhide HTT).symm.trans (unhide HT')), unhide HB3⟩
          case measure => simp [intOf]; omega
        · have g0 : (0 : Int) < (k : Int) := by omega
          have HTT : Hid (T' = (T ++ ⟨#[32]⟩) ++ x) := by
            show _ = _
            rw [hT', hts, hT, hx, ← eo]
            exact opsText_snoc _ _ (hne (by omega))
          clear hT hT' hts hq hq' hkk hbr hbw hba eo hne hkr h1 hx
          go_wp2
          go_roundw
          case rel => exact ⟨k + 1, by omega, by go_num, ret_string ((unhide HTT).symm.trans (unhide HT')), unhide HB3⟩
          case measure => simp [intOf]; omega
    · have e : k = len := by omega
      subst e
      have HT : Hid (opsText (l.take k) = opsText l) := by show _ = _; rw [List.take_of_length_le (by rw [unhide HZ]; exact Nat.le_refl _)]
      clear hbr hbw
      go_wp2
      go_ret
      exact ⟨ret_str (unhide HT), unhide HBW⟩

set_option maxHeartbeats 400000 in
theorem opstext_none (a : Option Addr) (cap : Nat) (w : World) (hE : EnvF w) :
    Calls Tryz.prog 81 #[.slice a 0 cap] w fun e w' => e = .returned (.string ⟨#[]⟩) ∧ Below w.heap.size w w' := by
  have FL := hide (fields_any w hE)
  clear hE
  go_enter Tryz.func81, Tryz.ntmps81
  go_wp2_with fail
  refine (unhide FL).mono ?_
  rintro e w1 ⟨rfl, hw1⟩
  have HB1 : Hid (Below w.heap.size w w1) := by rw [hw1]; exact (Below.refl _ _).alloc (Nat.le_refl _) _
  clear hw1
  go_wp2
  refine wp_loop_rounds 1 ?_
  rw [rounds_succ]
  go_wp2
  go_ret
  exact ⟨rfl, unhide HB1⟩

theorem opstext_any (a : Option Addr) (len cap : Nat) (l : List (Int × Int)) (w : World) (hE : EnvF w) (hO : OpsAt w a len l) (hck : chk l = 0) :
    Calls Tryz.prog 81 #[.slice a len cap] w fun e w' => e = .returned (.string (opsText l)) ∧ Below w.heap.size w w' := by
  obtain ⟨hz, hc⟩ := hO
  by_cases h0 : len = 0
  · subst h0
    have e : l = [] := List.length_eq_zero_iff.1 hz
    subst e
    exact opstext_none a cap w hE
  · obtain ⟨b, off, rfl, hcell⟩ := hc (by omega)
    exact opstext_some b off len cap l w hE hz hck (World.block_lt_of_cell? _ _ (hcell 0 (by omega)).1) hcell

end Go.Proofs.YtepmnpapdknocaaGreatDoor
