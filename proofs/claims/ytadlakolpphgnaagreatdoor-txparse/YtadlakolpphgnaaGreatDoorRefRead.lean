/- The contract of the reference's ReadOps: the orders of a text that isn't too long. -/
import Derived.Test.YtadlakolpphgnaaGreatDoorRefText
import Derived.Test.YtadlakolpphgnaaGreatDoorLockRead
import Derived.Test.YtadlakolpphgnaaGreatDoorRefCheck
namespace Go.Proofs.YtadlakolpphgnaaGreatDoor
open Go.RowKit

set_option maxHeartbeats 400000 in
theorem readops_none (w : World) :
    Calls Tryz.prog 36 #[.string ⟨#[]⟩] w fun e w' => e = .returned (.tuple #[.slice none 0 0, .int .i64 0]) ∧ w = w' := by
  go_enter Tryz.func36, Tryz.ntmps36
  go_wp2
  go_ret2
  exact ⟨rfl, rfl⟩

theorem cell_pair0 (w : World) (x y : Value) (t : TypeId) (j : Nat) (u : Value) (h : [x, y][j]? = some u) : (w.alloc (.cells #[x, y] t)).cell? ((⟨w.heap.size, 0, none⟩ : Addr).add j) = some u := cell_pair w x y t j u h

set_option maxRecDepth 10000 in
set_option maxHeartbeats 6400000 in
theorem readops_some (s : ByteArray) (hs : s.size ≤ 4000) (h1 : s.size ≠ 0) (w : World) (hE : EnvF w) :
    Calls Tryz.prog 36 #[.string s] w fun e w' => ∃ a cap, e = .returned (.tuple #[.slice a (prL s).length cap, .int .i64 (prE s)]) ∧ OpsAt w' a (prL s).length (prL s) ∧ Below w.heap.size w w' := by
  obtain ⟨i0, hi, hz0, hz1, hz2⟩ := info_parts Tryz.infoOp
  have eE : prE s = match parseAll (wordsOf s) with | none => 1 | some l => chk l := by unfold prE; rw [if_neg (by omega)]; rfl
  have eL : prL s = match parseAll (wordsOf s) with | none => [] | some l => if chk l = 0 then l else [] := by unfold prL; rw [if_neg (by omega)]; rfl
  have hlen := words_len s h1
  have hwl : (wordsOf s).length ≤ 4002 := by
    rw [hlen]
    have : Lib.countB s sepB ≤ s.size + 1 := Lib.count_le s.data.toList sepB.data.toList
    omega
  have hw : wordsOf s = Lib.splitB sepB 0 (Lib.countB s sepB) s := by unfold wordsOf; rw [if_neg h1]
  have g : (s.toList == []) = false := by
    rw [beq_eq_false_iff_ne]
    intro e
    apply h1
    rw [ByteArray.toList_eq] at e
    have := congrArg List.length e
    rw [Array.length_toList] at this
    exact this
  have FL := hide (fields_any w hE)
  have SP : Hid (∀ w1, Below w.heap.size w w1 → Calls Tryz.prog 32 #[.string s, .string sepB] w1 fun e w' => e = .returned (.slice (some ⟨w1.heap.size, 0, none⟩) (wordsOf s).length (wordsOf s).length) ∧ w' = w1.alloc (.cells ((wordsOf s).map Value.string).toArray 9)) := fun w1 hb => by
    have h := Tryz.strings_Split_shaped s sepB w1 (hE.later hb).envp.shp (by omega) (by decide)
    rw [← hlen, ← hw] at h
    exact h
  have hsm := words_small s
  have hpos : 0 < (wordsOf s).length := by rw [hlen]; omega
  obtain ⟨ws, hws⟩ : ∃ ws, ws = wordsOf s := ⟨_, rfl⟩
  rw [← hws] at SP eE eL hsm hwl hpos
  obtain ⟨n, hn⟩ : ∃ n, ws.length = n := ⟨_, rfl⟩
  rw [hn] at SP hwl hpos
  have HEE := hide eE
  have HEL := hide eL
  have HSM := hide hsm
  have HN := hide hn
  have HE := hide hE
  clear hE eE eL hsm hws hn hlen hw
  go_enter Tryz.func36, Tryz.ntmps36
  go_wp2_with fail
  refine (unhide FL).mono ?_
  rintro e w0 ⟨rfl, hw0⟩
  have HB0 : Hid (Below w.heap.size w w0) := by rw [hw0]; exact (Below.refl _ _).alloc (Nat.le_refl _) _
  have HNM0 : Hid (∀ k, k < 14 → w0.cell? ⟨w.heap.size, k, none⟩ = some (.string (refL.getD k ⟨#[]⟩))) := by rw [hw0]; exact fun k hk => ref_cell w k hk
  have hsz0 : w.heap.size < w0.heap.size := by rw [hw0]; simp
  clear hw0
  go_wp2_with fail
  refine ((unhide SP) w0 (unhide HB0)).mono ?_
  rintro e w1 ⟨rfl, hw1⟩
  have hb01 : Below w0.heap.size w0 w1 := by rw [hw1]; exact (Below.refl _ _).alloc (Nat.le_refl _) _
  have HB1 := hide (bel_tw (unhide HB0) hb01)
  have HCW : Hid (∀ i, i < n → w1.cell? ⟨w0.heap.size, i, none⟩ = some (.string (ws.getD i ⟨#[]⟩))) := fun i hi => by
    have hi' : i < ws.length := by rw [unhide HN]; exact hi
    rw [hw1, World.cell?_alloc_at _ _ _ _ rfl]
    simp [hi']
  have HNM : Hid (∀ k, k < 14 → w1.cell? ⟨w.heap.size, k, none⟩ = some (.string (refL.getD k ⟨#[]⟩))) := fun k hk => by
    rw [hb01.cell (p := ⟨w.heap.size, k, none⟩) hsz0]; exact (unhide HNM0) k hk
  have hsz1 : w0.heap.size < w1.heap.size := by rw [hw1]; simp
  clear hw1 hb01
  go_wp2
  go_loopw [4, 18] (fun v i wr => ∃ (k : Nat) (l : List (Int × Int)), k ≤ n ∧ i = .int .i64 k ∧ parseAll (ws.take k) = some l ∧ wr.ownsRow w1.heap.size 56 2 v k (flat l) ∧ Below w1.heap.size w1 wr) (fun _ i _ => n - (intOf i).toNat)
  case atStart => exact ⟨0, [], Nat.zero_le _, rfl, rfl, World.ownsRow_nil _ _ _ _, Below.refl _ _⟩
  case round =>
    obtain ⟨k, l, hk, rfl, hpl, hown, hbr⟩ := hrel
    have HPL := hide hpl
    have HOWN := hide hown
    have HBR := hide hbr
    clear hpl hown
    by_cases hlt : k < n
    · have hlk : k < ws.length := by rw [unhide HN]; exact hlt
      have c1 := (unhide HCW) k hlt
      rw [← hbr.cell (p := ⟨w0.heap.size, k, none⟩) hsz1] at c1
      obtain ⟨x, hx⟩ : ∃ x, x = ws.getD k ⟨#[]⟩ := ⟨_, rfl⟩
      rw [← hx] at c1
      have hx' : x = ws[k] := by rw [hx]; simp [hlk]
      have hxs : x.size ≤ 4000 := Nat.le_trans ((unhide HSM) x (by rw [hx']; exact List.getElem_mem hlk)) hs
      have hbwr : Below w.heap.size w wr := bel_tw (unhide HB1) hbr
      have HX := hide hx'
      have HBW := hide hbwr
      have IX : Hid (Calls Tryz.prog 56 #[.slice (some ⟨w.heap.size, 0, none⟩) 14 14, .string x] wr fun e w' => e = .returned (.int .i64 (idxR x)) ∧ w' = wr) :=
        Tryz.slices_Index_string w.heap.size 0 14 14 refL x wr (by decide) (by decide) (fun j hj => by
          have hj' : j < 14 := hj
          rw [Nat.zero_add, hbr.cell (p := ⟨w.heap.size, j, none⟩) (Nat.lt_trans hsz0 hsz1)]
          exact (unhide HNM) j hj')
      obtain ⟨y, hy, hwh⟩ := whole_any x hxs wr ((unhide HE).later hbwr).envp
      have WH := hide hwh
      have RW := hide (refW_eq x)
      obtain ⟨ix, hix⟩ : ∃ ix, idxR x = ix := ⟨_, rfl⟩
      rw [hix] at IX
      have HIX := hide hix
      clear hwh hix
      by_cases h2 : 2 ≤ ix
      · have HQ : Hid (parseW x = some (ix, 0)) := by
          show _ = _
          rw [← unhide RW]; unfold refW; rw [unhide HIX, if_pos h2]
        obtain ⟨bo, hbo⟩ : ∃ bo, (numOf x).isSome = bo := ⟨_, rfl⟩
        rw [hbo] at WH
        clear hbr hx hx' hxs hbwr hy hbo
        go_wp2_with fail
        refine (unhide IX).mono ?_
        rintro e w2 ⟨rfl, rfl⟩
        go_wp2_with fail
        refine (unhide WH).mono ?_
        rintro e w2 ⟨rfl, hb2⟩
        have hbr2 : Below w1.heap.size w1 w2 := (unhide HBR).trans (hb2.mono (unhide HBR).size)
        have hown2 : w2.ownsRow w1.heap.size 56 2 _ k (flat l) := own_keep (unhide HOWN) hb2
        have HBR2 := hide hbr2
        have HOWN2 := hide (hown2.alloc (.cells #[.int .i64 ix, .int .i64 0] 56))
        clear hb2 hbr2 hown2
        have CP : Hid (∀ (j : Nat) (u : Value), ([.int .i64 ix, .int .i64 0] : List Value)[j]? = some u → (w2.alloc (.cells #[.int .i64 ix, .int .i64 0] 56)).cell? ((⟨w2.heap.size, 0, none⟩ : Addr).add j) = some u) := fun j u hj => cell_pair w2 (.int .i64 ix) (.int .i64 0) 56 j u hj
        have HSZ := hide (unhide HBR2).size
        go_wp2_with (at_builtin; refine wpList_append_own _ rfl _ _ 39 rfl w1.heap.size 56 i0 (.agg #[.int .i64 0, .int .i64 0]) 2 16 Tryz.underlying39 hi hz0 hz1 hz2 rfl (by decide) _ _ _ rfl (unhide HOWN2) ⟨w2.heap.size, 0, none⟩ 1 1 [.int .i64 ix, .int .i64 0] rfl rfl (unhide CP) (fun u hu => by simp at hu; rcases hu with rfl | rfl <;> rfl) (by unfold maxLen; omega) (by omega) (by have := unhide HSZ; simp; omega) ?_; intro v' w3 hown3 hgrow3 _)
        have HOWN3 : Hid (w3.ownsRow w1.heap.size 56 2 v' (k + 1) (flat (l ++ [(ix, 0)]))) := by rw [flat_snoc]; exact hown3
        have HB3 : Hid (Below w1.heap.size w1 w3) := (((unhide HBR2).alloc (unhide HSZ) _).grown hgrow3 (by have := unhide HSZ; simp; omega) (own_ge (unhide HOWN2)))
        clear hown3 hgrow3
        go_wp2
        go_roundw
        case rel =>
          refine ⟨k + 1, l ++ [(ix, 0)], by omega, by go_num, ?_, unhide HOWN3, unhide HB3⟩
          rw [List.take_succ_eq_append_getElem hlk, parseAll_snoc, unhide HPL, ← unhide HX, unhide HQ]; rfl
        case measure => simp [intOf]; omega
      · cases hq : numOf x with
        | none =>
          have HQ : Hid (parseW x = none) := by
            show _ = _
            rw [← unhide RW]; unfold refW; rw [unhide HIX, if_neg h2, hq]; rfl
          rw [hq] at WH
          clear hbr hx hx' hxs hbwr hy hq
          go_wp2_with fail
          refine (unhide IX).mono ?_
          rintro e w2 ⟨rfl, rfl⟩
          go_wp2_with fail
          refine (unhide WH).mono ?_
          rintro e w2 ⟨rfl, hb2⟩
          have HB2 := hide (bel_tw (unhide HBW) hb2)
          clear hb2
          go_wp2
          go_ret2
          have hd := parseAll_dead (ws := ws) hlk (by rw [← unhide HX]; exact unhide HQ)
          rw [unhide HEE, unhide HEL, hd]
          exact ⟨none, 0, rfl, ops_nil _ _, unhide HB2⟩
        | some v =>
          have hyv : y = v := hy v hq
          subst hyv
          have HQ : Hid (parseW x = some (1, y)) := by
            show _ = _
            rw [← unhide RW]; unfold refW; rw [unhide HIX, if_neg h2, hq]; rfl
          rw [hq] at WH
          clear hbr hx hx' hxs hbwr hy hq
          go_wp2_with fail
          refine (unhide IX).mono ?_
          rintro e w2 ⟨rfl, rfl⟩
          go_wp2_with fail
          refine (unhide WH).mono ?_
          rintro e w2 ⟨rfl, hb2⟩
          have hbr2 : Below w1.heap.size w1 w2 := (unhide HBR).trans (hb2.mono (unhide HBR).size)
          have hown2 : w2.ownsRow w1.heap.size 56 2 _ k (flat l) := own_keep (unhide HOWN) hb2
          have HBR2 := hide hbr2
          have HOWN2 := hide (hown2.alloc (.cells #[.int .i64 1, .int .i64 y] 56))
          clear hb2 hbr2 hown2
          have CP : Hid (∀ (j : Nat) (u : Value), ([.int .i64 1, .int .i64 y] : List Value)[j]? = some u → (w2.alloc (.cells #[.int .i64 1, .int .i64 y] 56)).cell? ((⟨w2.heap.size, 0, none⟩ : Addr).add j) = some u) := fun j u hj => cell_pair w2 (.int .i64 1) (.int .i64 y) 56 j u hj
          have HSZ := hide (unhide HBR2).size
          go_wp2_with (at_builtin; refine wpList_append_own _ rfl _ _ 39 rfl w1.heap.size 56 i0 (.agg #[.int .i64 0, .int .i64 0]) 2 16 Tryz.underlying39 hi hz0 hz1 hz2 rfl (by decide) _ _ _ rfl (unhide HOWN2) ⟨w2.heap.size, 0, none⟩ 1 1 [.int .i64 1, .int .i64 y] rfl rfl (unhide CP) (fun u hu => by simp at hu; rcases hu with rfl | rfl <;> rfl) (by unfold maxLen; omega) (by omega) (by have := unhide HSZ; simp; omega) ?_; intro v' w3 hown3 hgrow3 _)
          have HOWN3 : Hid (w3.ownsRow w1.heap.size 56 2 v' (k + 1) (flat (l ++ [(1, y)]))) := by rw [flat_snoc]; exact hown3
          have HB3 : Hid (Below w1.heap.size w1 w3) := (((unhide HBR2).alloc (unhide HSZ) _).grown hgrow3 (by have := unhide HSZ; simp; omega) (own_ge (unhide HOWN2)))
          clear hown3 hgrow3
          go_wp2
          go_roundw
          case rel =>
            refine ⟨k + 1, l ++ [(1, y)], by omega, by go_num, ?_, unhide HOWN3, unhide HB3⟩
            rw [List.take_succ_eq_append_getElem hlk, parseAll_snoc, unhide HPL, ← unhide HX, unhide HQ]; rfl
          case measure => simp [intOf]; omega
    · have e : k = n := by omega
      subst e
      obtain ⟨a', cap', hv, hO⟩ := ops_of_own (unhide HOWN)
      subst hv
      have hpa : parseAll ws = some l := by
        have h1 := unhide HPL
        rw [← unhide HN, List.take_length] at h1
        exact h1
      have hll : l.length = k := hO.1
      have HPA := hide hpa
      have HLL := hide hll
      have HO := hide hO
      have HBW := hide (bel_tw (unhide HB1) hbr)
      have CK := hide (rcheck_any a' k cap' l wr hO)
      clear hk hlt hbr hO hpa hll
      by_cases hck : chk l = 0
      · rw [hck] at CK
        have HCK := hide hck
        clear hck
        go_wp2_with fail
        refine (unhide CK).mono ?_
        rintro e w2 ⟨rfl, hb2⟩
        have HO2 := hide ((unhide HO).later hb2)
        have HB2 := hide (bel_tw (unhide HBW) hb2)
        clear hb2
        go_wp2
        go_ret2
        have e1 : prE s = 0 := by rw [unhide HEE, unhide HPA]; exact unhide HCK
        have e2 : prL s = l := by rw [unhide HEL, unhide HPA]; simp [unhide HCK]
        rw [e1, e2, unhide HLL]
        exact ⟨a', cap', rfl, unhide HO2, unhide HB2⟩
      · obtain ⟨x, hx⟩ : ∃ x, x = chk l := ⟨_, rfl⟩
        rw [← hx] at CK hck
        have hx1 : (x != 0) = true := by simp [hck]
        have HX := hide hx
        have HCK := hide hck
        clear hck hx
        go_wp2_with fail
        refine (unhide CK).mono ?_
        rintro e w2 ⟨rfl, hb2⟩
        have HB2 := hide (bel_tw (unhide HBW) hb2)
        clear hb2
        go_wp2
        go_ret2
        have e1 : prE s = x := by rw [unhide HEE, unhide HPA]; exact (unhide HX).symm
        have e2 : prL s = [] := by
          rw [unhide HEL, unhide HPA]
          show (if chk l = 0 then l else []) = []
          rw [if_neg (by rw [← unhide HX]; exact unhide HCK)]
        rw [e1, e2]
        exact ⟨none, 0, rfl, ops_nil _ _, unhide HB2⟩

theorem readops_any (s : ByteArray) (hs : s.size ≤ 4000) (w : World) (hE : EnvF w) :
    Calls Tryz.prog 36 #[.string s] w fun e w' => ∃ a cap, e = .returned (.tuple #[.slice a (prL s).length cap, .int .i64 (prE s)]) ∧ OpsAt w' a (prL s).length (prL s) ∧ Below w.heap.size w w' := by
  by_cases h : s.size = 0
  · have e : s = ⟨#[]⟩ := by
      cases s with
      | mk d =>
        have : d = #[] := Array.eq_empty_of_size_eq_zero h
        rw [this]
    subst e
    have e1 : prE ⟨#[]⟩ = 0 := by decide
    have e2 : prL ⟨#[]⟩ = [] := by decide
    rw [e1, e2]
    exact (readops_none w).mono fun e w' ⟨h1, h2⟩ => ⟨none, 0, h1, ops_nil _ _, h2 ▸ Below.refl _ _⟩
  · exact readops_some s hs h w hE

end Go.Proofs.YtadlakolpphgnaaGreatDoor
