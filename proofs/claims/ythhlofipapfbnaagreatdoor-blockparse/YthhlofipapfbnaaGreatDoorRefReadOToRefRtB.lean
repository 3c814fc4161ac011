/- The reference's ReadOps: what it answers is the caller's own. -/
import Derived.Test.YthhlofipapfbnaaGreatDoorBlkBackMToRefRead
import Derived.Test.YthhlofipapfbnaaGreatDoorLockReadO
import Derived.Test.YthhlofipapfbnaaGreatDoorTxLinesCToBlkReward
import Derived.Test.YthhlofipapfbnaaGreatDoorRefWholeToRefSameT
namespace Go.Proofs.YthhlofipapfbnaaGreatDoor
open Go.RowKit

set_option maxRecDepth 10000 in
set_option maxHeartbeats 6400000 in
theorem readopsO_some (s : ByteArray) (hs : s.size ≤ 4000) (h1 : s.size ≠ 0) (w : World) (hE : EnvF w) :
    Calls Tryz.prog 109 #[.string s] w fun e w' => ∃ v, e = .returned (.tuple #[v, .int .i64 (prE s)]) ∧ w'.ownsRow w.heap.size 160 2 v (prL s).length (flat (prL s)) ∧ Below w.heap.size w w' := by
  obtain ⟨i0, hi, hz0, hz1, hz2⟩ := info_parts Tryz.infoOp
  have eE : prE s = match parseAll (wordsOf s) with | none => 1 | some l => chk l := by unfold prE; rw [if_neg (by omega)]; rfl
  have eL : prL s = match parseAll (wordsOf s) with | none => [] | some l => if chk l = 0 then l else [] := by unfold prL; rw [if_neg (by omega)]; rfl
  have hlen := words_len s h1
  have hwl : (wordsOf s).length ≤ 4002 := by
    rw [hlen]
    have : Lib.countB s sepB ≤ s.size + 1 := Lib.count_le s.data.toList sepB.data.toList
    omega
  have hw : wordsOf s = Lib.splitB sepB 0 (Lib.countB s sepB) s := by unfold wordsOf; rw [if_neg h1]
  have g : (s.toList == []) = false := by
    rw [beq_eq_false_iff_ne]
    intro e
    apply h1
    rw [ByteArray.toList_eq] at e
    have := congrArg List.length e
    rw [Array.length_toList] at this
    exact this
  have FL := hide (fields_any w hE)
  have SP : Hid (∀ w1, Below w.heap.size w w1 → Calls Tryz.prog 52 #[.string s, .string sepB] w1 fun e w' => e = .returned (.slice (some ⟨w1.heap.size, 0, none⟩) (wordsOf s).length (wordsOf s).length) ∧ w' = w1.alloc (.cells ((wordsOf s).map Value.string).toArray 9)) := fun w1 hb => by
    have h := Tryz.strings_Split_shaped s sepB w1 (hE.later hb).envp.shp (by omega) (by decide)
    rw [← hlen, ← hw] at h
    exact h
  have hsm := words_small s
  have hpos : 0 < (wordsOf s).length := by rw [hlen]; omega
  obtain ⟨ws, hws⟩ : ∃ ws, ws = wordsOf s := ⟨_, rfl⟩
  rw [← hws] at SP eE eL hsm hwl hpos
  obtain ⟨n, hn⟩ : ∃ n, ws.length = n := ⟨_, rfl⟩
  rw [hn] at SP hwl hpos
  have HEE := hide eE
  have HEL := hide eL
  have HSM := hide hsm
  have HN := hide hn
  have HE := hide hE
  clear hE eE eL hsm hws hn hlen hw
  go_enter Tryz.func109, Tryz.ntmps109
  go_wp2_with fail
  refine (unhide FL).mono ?_
  rintro e w0 ⟨rfl, hw0⟩
  have HB0 : Hid (Below w.heap.size w w0) := by rw [hw0]; exact (Below.refl _ _).alloc (Nat.le_refl _) _
  have HNM0 : Hid (∀ k, k < 14 → w0.cell? ⟨w.heap.size, k, none⟩ = some (.string (refL.getD k ⟨#[]⟩))) := by rw [hw0]; exact fun k hk => ref_cell w k hk
  have hsz0 : w.heap.size < w0.heap.size := by rw [hw0]; simp
  clear hw0
  go_wp2_with fail
  refine ((unhide SP) w0 (unhide HB0)).mono ?_
  rintro e w1 ⟨rfl, hw1⟩
  have hb01 : Below w0.heap.size w0 w1 := by rw [hw1]; exact (Below.refl _ _).alloc (Nat.le_refl _) _
  have HB1 := hide (bel_tw (unhide HB0) hb01)
  have HCW : Hid (∀ i, i < n → w1.cell? ⟨w0.heap.size, i, none⟩ = some (.string (ws.getD i ⟨#[]⟩))) := fun i hi => by
    have hi' : i < ws.length := by rw [unhide HN]; exact hi
    rw [hw1, World.cell?_alloc_at _ _ _ _ rfl]
    simp [hi']
  have HNM : Hid (∀ k, k < 14 → w1.cell? ⟨w.heap.size, k, none⟩ = some (.string (refL.getD k ⟨#[]⟩))) := fun k hk => by
    rw [hb01.cell (p := ⟨w.heap.size, k, none⟩) hsz0]; exact (unhide HNM0) k hk
  have hsz1 : w0.heap.size < w1.heap.size := by rw [hw1]; simp
  clear hw1 hb01
  go_wp2
  go_loopw [4, 18] (fun v i wr => ∃ (k : Nat) (l : List (Int × Int)), k ≤ n ∧ i = .int .i64 k ∧ parseAll (ws.take k) = some l ∧ wr.ownsRow w1.heap.size 160 2 v k (flat l) ∧ Below w1.heap.size w1 wr) (fun _ i _ => n - (intOf i).toNat)
  case atStart => exact ⟨0, [], Nat.zero_le _, rfl, rfl, World.ownsRow_nil _ _ _ _, Below.refl _ _⟩
  case round =>
    obtain ⟨k, l, hk, rfl, hpl, hown, hbr⟩ := hrel
    have HPL := hide hpl
    have HOWN := hide hown
    have HBR := hide hbr
    clear hpl hown
    by_cases hlt : k < n
    · have hlk : k < ws.length := by rw [unhide HN]; exact hlt
      have c1 := (unhide HCW) k hlt
      rw [← hbr.cell (p := ⟨w0.heap.size, k, none⟩) hsz1] at c1
      obtain ⟨x, hx⟩ : ∃ x, x = ws.getD k ⟨#[]⟩ := ⟨_, rfl⟩
      rw [← hx] at c1
      have hx' : x = ws[k] := by rw [hx]; simp [hlk]
      have hxs : x.size ≤ 4000 := Nat.le_trans ((unhide HSM) x (by rw [hx']; exact List.getElem_mem hlk)) hs
      have hbwr : Below w.heap.size w wr := bel_tw (unhide HB1) hbr
      have HX := hide hx'
      have HBW := hide hbwr
      have IX : Hid (Calls Tryz.prog 63 #[.slice (some ⟨w.heap.size, 0, none⟩) 14 14, .string x] wr fun e w' => e = .returned (.int .i64 (idxR x)) ∧ w' = wr) :=
        Tryz.slices_Index_string w.heap.size 0 14 14 refL x wr (by decide) (by decide) (fun j hj => by
          have hj' : j < 14 := hj
          rw [Nat.zero_add, hbr.cell (p := ⟨w.heap.size, j, none⟩) (Nat.lt_trans hsz0 hsz1)]
          exact (unhide HNM) j hj')
      obtain ⟨y, hy, hwh⟩ := whole_any x hxs wr ((unhide HE).later hbwr).envp
      have WH := hide hwh
      have RW := hide (refW_eq x)
      obtain ⟨ix, hix⟩ : ∃ ix, idxR x = ix := ⟨_, rfl⟩
      rw [hix] at IX
      have HIX := hide hix
      clear hwh hix
      by_cases h2 : 2 ≤ ix
      · have HQ : Hid (parseW x = some (ix, 0)) := by
          show _ = _
          rw [← unhide RW]; unfold refW; rw [unhide HIX, if_pos h2]
        obtain ⟨bo, hbo⟩ : ∃ bo, (numOf x).isSome = bo := ⟨_, rfl⟩
        rw [hbo] at WH
        clear hbr hx hx' hxs hbwr hy hbo
        go_wp2_with fail
        refine (unhide IX).mono ?_
        rintro e w2 ⟨rfl, rfl⟩
        go_wp2_with fail
        refine (unhide WH).mono ?_
        rintro e w2 ⟨rfl, hb2⟩
        have hbr2 : Below w1.heap.size w1 w2 := (unhide HBR).trans (hb2.mono (unhide HBR).size)
        have hown2 : w2.ownsRow w1.heap.size 160 2 _ k (flat l) := own_keep (unhide HOWN) hb2
        have HBR2 := hide hbr2
        have HOWN2 := hide (hown2.alloc (.cells #[.int .i64 ix, .int .i64 0] 160))
        clear hb2 hbr2 hown2
        have CP : Hid (∀ (j : Nat) (u : Value), ([.int .i64 ix, .int .i64 0] : List Value)[j]? = some u → (w2.alloc (.cells #[.int .i64 ix, .int .i64 0] 160)).cell? ((⟨w2.heap.size, 0, none⟩ : Addr).add j) = some u) := fun j u hj => cell_pair w2 (.int .i64 ix) (.int .i64 0) 160 j u hj
        have HSZ := hide (unhide HBR2).size
        go_wp2_with (at_builtin; refine wpList_append_own _ rfl _ _ 83 rfl w1.heap.size 160 i0 (.agg #[.int .i64 0, .int .i64 0]) 2 16 Tryz.underlying83 hi hz0 hz1 hz2 rfl (by decide) _ _ _ rfl (unhide HOWN2) ⟨w2.heap.size, 0, none⟩ 1 1 [.int .i64 ix, .int .i64 0] rfl rfl (unhide CP) (fun u hu => by simp at hu; rcases hu with rfl | rfl <;> rfl) (by unfold maxLen; omega) (by omega) (by have := unhide HSZ; simp; omega) ?_; intro v' w3 hown3 hgrow3 _)
        have HOWN3 : Hid (w3.ownsRow w1.heap.size 160 2 v' (k + 1) (flat (l ++ [(ix, 0)]))) := by rw [flat_snoc]; exact hown3
        have HB3 : Hid (Below w1.heap.size w1 w3) := (((unhide HBR2).alloc (unhide HSZ) _).grown hgrow3 (by have := unhide HSZ; simp; omega) (own_ge (unhide HOWN2)))
        clear hown3 hgrow3
        go_wp2
        go_roundw
        case rel =>
          refine ⟨k + 1, l ++ [(ix, 0)], by omega, by go_num, ?_, unhide HOWN3, unhide HB3⟩
          rw [List.take_succ_eq_append_getElem hlk, parseAll_snoc, unhide HPL, ← unhide HX, unhide HQ]; rfl
        case measure => simp [intOf]; omega
      · cases hq : numOf x with
        | none =>
          have HQ : Hid (parseW x = none) := by
            show _ = _
            rw [← unhide RW]; unfold refW; rw [unhide HIX, if_neg h2, hq]; rfl
          rw [hq] at WH
          clear hbr hx hx' hxs hbwr hy hq
          go_wp2_with fail
          refine (unhide IX).mono ?_
          rintro e w2 ⟨rfl, rfl⟩
          go_wp2_with fail
          refine (unhide WH).mono ?_
          rintro e w2 ⟨rfl, hb2⟩
          have HB2 := hide (bel_tw (unhide HBW) hb2)
          clear hb2
          go_wp2
          go_ret2
          have hd := parseAll_dead (ws := ws) hlk (by rw [← unhide HX]; exact unhide HQ)
          rw [unhide HEE, unhide HEL, hd]
          exact ⟨_, rfl, World.ownsRow_nil _ _ _ _, unhide HB2⟩
        | some v =>
          have hyv : y = v := hy v hq
          subst hyv
          have HQ : Hid (parseW x = some (1, y)) := by
            show _ = _
            rw [← unhide RW]; unfold refW; rw [unhide HIX, if_neg h2, hq]; rfl
          rw [hq] at WH
          clear hbr hx hx' hxs hbwr hy hq
          go_wp2_with fail
          refine (unhide IX).mono ?_
          rintro e w2 ⟨rfl, rfl⟩
          go_wp2_with fail
          refine (unhide WH).mono ?_
          rintro e w2 ⟨rfl, hb2⟩
          have hbr2 : Below w1.heap.size w1 w2 := (unhide HBR).trans (hb2.mono (unhide HBR).size)
          have hown2 : w2.ownsRow w1.heap.size 160 2 _ k (flat l) := own_keep (unhide HOWN) hb2
          have HBR2 := hide hbr2
          have HOWN2 := hide (hown2.alloc (.cells #[.int .i64 1, .int .i64 y] 160))
          clear hb2 hbr2 hown2
          have CP : Hid (∀ (j : Nat) (u : Value), ([.int .i64 1, .int .i64 y] : List Value)[j]? = some u → (w2.alloc (.cells #[.int .i64 1, .int .i64 y] 160)).cell? ((⟨w2.heap.size, 0, none⟩ : Addr).add j) = some u) := fun j u hj => cell_pair w2 (.int .i64 1) (.int .i64 y) 160 j u hj
          have HSZ := hide (unhide HBR2).size
          go_wp2_with (at_builtin; refine wpList_append_own _ rfl _ _ 83 rfl w1.heap.size 160 i0 (.agg #[.int .i64 0, .int .i64 0]) 2 16 Tryz.underlying83 hi hz0 hz1 hz2 rfl (by decide) _ _ _ rfl (unhide HOWN2) ⟨w2.heap.size, 0, none⟩ 1 1 [.int .i64 1, .int .i64 y] rfl rfl (unhide CP) (fun u hu => by simp at hu; rcases hu with rfl | rfl <;> rfl) (by unfold maxLen; omega) (by omega) (by have := unhide HSZ; simp; omega) ?_; intro v' w3 hown3 hgrow3 _)
          have HOWN3 : Hid (w3.ownsRow w1.heap.size 160 2 v' (k + 1) (flat (l ++ [(1, y)]))) := by rw [flat_snoc]; exact hown3
          have HB3 : Hid (Below w1.heap.size w1 w3) := (((unhide HBR2).alloc (unhide HSZ) _).grown hgrow3 (by have := unhide HSZ; simp; omega) (own_ge (unhide HOWN2)))
          clear hown3 hgrow3
          go_wp2
          go_roundw
          case rel =>
            refine ⟨k + 1, l ++ [(1, y)], by omega, by go_num, ?_, unhide HOWN3, unhide HB3⟩
            rw [List.take_succ_eq_append_getElem hlk, parseAll_snoc, unhide HPL, ← unhide HX, unhide HQ]; rfl
          case measure => simp [intOf]; omega
    · have e : k = n := by omega
      subst e
      obtain ⟨a', cap', hv, hO⟩ := ops_of_own (unhide HOWN)
      subst hv
      have hpa : parseAll ws = some l := by
        have h1 := unhide HPL
        rw [← unhide HN, List.take_length] at h1
        exact h1
      have hll : l.length = k := hO.1
      have HPA := hide hpa
      have HLL := hide hll
      have HO := hide hO
      have HBW := hide (bel_tw (unhide HB1) hbr)
      have CK := hide (rcheck_any a' k cap' l wr hO)
      clear hk hlt hbr hO hpa hll
      by_cases hck : chk l = 0
      · rw [hck] at CK
        have HCK := hide hck
        clear hck
        go_wp2_with fail
        refine (unhide CK).mono ?_
        rintro e w2 ⟨rfl, hb2⟩
        have HO2 := hide (own_keep (own_base (unhide HOWN) (unhide HB1).size) hb2)
        have HB2 := hide (bel_tw (unhide HBW) hb2)
        clear hb2
        go_wp2
        go_ret2
        have e1 : prE s = 0 := by rw [unhide HEE, unhide HPA]; exact unhide HCK
        have e2 : prL s = l := by rw [unhide HEL, unhide HPA]; simp [unhide HCK]
        rw [e1, e2, unhide HLL]
        exact ⟨_, rfl, unhide HO2, unhide HB2⟩
      · obtain ⟨x, hx⟩ : ∃ x, x = chk l := ⟨_, rfl⟩
        rw [← hx] at CK hck
        have hx1 : (x != 0) = true := by simp [hck]
        have HX := hide hx
        have HCK := hide hck
        clear hck hx
        go_wp2_with fail
        refine (unhide CK).mono ?_
        rintro e w2 ⟨rfl, hb2⟩
        have HB2 := hide (bel_tw (unhide HBW) hb2)
        clear hb2
        go_wp2
        go_ret2
        have e1 : prE s = x := by rw [unhide HEE, unhide HPA]; exact (unhide HX).symm
        have e2 : prL s = [] := by
          rw [unhide HEL, unhide HPA]
          show (if chk l = 0 then l else []) = []
          rw [if_neg (by rw [← unhide HX]; exact unhide HCK)]
        rw [e1, e2]
        exact ⟨_, rfl, World.ownsRow_nil _ _ _ _, unhide HB2⟩

theorem readops_own (s : ByteArray) (hs : s.size ≤ 4000) (w : World) (hE : EnvF w) :
    Calls Tryz.prog 109 #[.string s] w fun e w' => ∃ v, e = .returned (.tuple #[v, .int .i64 (prE s)]) ∧ w'.ownsRow w.heap.size 160 2 v (prL s).length (flat (prL s)) ∧ Below w.heap.size w w' := by
  by_cases h : s.size = 0
  · have e : s = ⟨#[]⟩ := by
      cases s with
      | mk d =>
        have : d = #[] := Array.eq_empty_of_size_eq_zero h
        rw [this]
    subst e
    have e1 : prE ⟨#[]⟩ = 0 := by decide
    have e2 : prL ⟨#[]⟩ = [] := by decide
    rw [e1, e2]
    exact (readops_none w).mono fun e w' ⟨h1, h2⟩ => ⟨_, h1, World.ownsRow_nil _ _ _ _, h2 ▸ Below.refl _ _⟩
  · exact readopsO_some s hs h w hE

end Go.Proofs.YthhlofipapfbnaaGreatDoor

/- Contracts of what the reference's ReadTx calls. -/
namespace Go.Proofs.YthhlofipapfbnaaGreatDoor
open Go.RowKit

set_option maxHeartbeats 400000 in
theorem hasPrefixL_is (x : ByteArray) (hx : x.size ≤ 4000) (o : Bool) (ho : hasTx x = o) (w : World) :
    Calls Tryz.prog 106 #[.string x, .string ⟨#[116, 120, 32]⟩] w fun e w' => e = .returned (.bool o) ∧ w = w' := by
  unfold hasTx at ho
  by_cases h : 3 ≤ x.size
  · rw [decide_eq_true h, Bool.true_and] at ho
    have g : (3 : Int) ≤ (x.size : Int) := by omega
    obtain ⟨y, hy⟩ : ∃ y, x.extract 0 3 = y := ⟨_, rfl⟩
    rw [hy] at ho
    subst ho
    go_enter Tryz.func106, Tryz.ntmps106
    go_wp2
    go_ret
    exact ⟨rfl, rfl⟩
  · rw [decide_eq_false h, Bool.false_and] at ho
    subst ho
    have g : ¬ (3 : Int) ≤ (x.size : Int) := by omega
    go_enter Tryz.func106, Tryz.ntmps106
    go_wp2
    go_ret
    exact ⟨rfl, rfl⟩

theorem hasPrefix_is (x : ByteArray) (hx : x.size ≤ 4000) (o : Bool) (ho : hasTx x = o) (w : World) :
    Calls Tryz.prog 55 #[.string x, .string ⟨#[116, 120, 32]⟩] w fun e w' => e = .returned (.bool o) ∧ w = w' := by
  have C := hide (hasPrefixL_is x hx o ho w)
  clear ho
  go_enter Tryz.func55, Tryz.ntmps55
  go_wp2_with fail
  refine (unhide C).mono ?_
  rintro e w' ⟨rfl, rfl⟩
  go_wp2
  go_ret
  exact ⟨rfl, rfl⟩

theorem colon_is (x : ByteArray) (k : Int) (hk : colon x = k) (w : World) :
    Calls Tryz.prog 108 #[.string x, .int .u8 58] w fun e w' => e = .returned (.int .i64 k) ∧ w = w' := by
  subst hk
  exact (Tryz.strings_IndexByte x 58 w).mono fun e w' ⟨h1, h2⟩ => ⟨h1, h2.symm⟩

set_option maxHeartbeats 400000 in
theorem bad_is (w : World) :
    Calls Tryz.prog 107 #[] w fun e w' => e = .returned (.tuple #[.agg #[.int .i64 0, .slice none 0 0, .slice none 0 0], .int .i64 1]) ∧ Below w.heap.size w w' := by
  have HB := hide (bel_new w resO)
  go_enter Tryz.func107, Tryz.ntmps107
  go_wp2
  (try simp only [Exit.inBlock, Exit.then])
  refine bodyPost_ret (v := .tuple #[.agg #[.int .i64 0, .slice none 0 0, .slice none 0 0], .int .i64 1]) ?_ rfl ⟨rfl, ?_⟩
  · rw [results_cell_tmp rfl]
    go_simp
  · first
      | exact unhide HB
      | exact (((unhide HB).setCell (Nat.le_refl _) _).setCell (Nat.le_refl _) _).setCell (Nat.le_refl _) _
      | exact bel_new w _

theorem PL.setH {w : World} {q p lb : Nat} {A : Array Value} {h h' : Int} {wr : World} {v1 v2 : Value} {L1 : List (InD × Value)} {L2 : List (OutD × Value)} (s : PL w q p lb A h wr v1 v2 L1 L2) : PL w q p lb A h' (wr.setCell ⟨p, 0, none⟩ (.int .i64 h')) v1 v2 L1 L2 := by
  have far : ∀ (k : Nat) (cs : Array Value) (t : TypeId), wr.heap[k]? = some (.cells cs t (0, 0)) → t ≠ 78 → (wr.setCell ⟨p, 0, none⟩ (.int .i64 h')).heap[k]? = wr.heap[k]? := fun k cs t hk ht =>
    heap_setCell_other wr ⟨p, 0, none⟩ k _ (fun e => by
      have e' : k = p := e
      subst e'
      rw [s.box] at hk
      injection hk with hk
      injection hk with _ hk
      exact ht hk.symm)
  refine ⟨?_, ?_, s.pq, ?_, ?_, ?_, fun x hx => ?_, fun x hx => ?_, ?_, s.pge⟩
  · rw [heap_setCell_same wr p 0 _ 78 _ s.box]; rfl
  · rw [heap_setCell_other wr ⟨p, 0, none⟩ q _ (fun e => s.pq e.symm)]; exact s.res
  · exact (far _ _ _ s.lin (by decide)).trans s.lin
  · exact own_type s.own1 (fun k cs hk => far k cs _ hk (by decide))
  · exact own_type s.own2 (fun k cs hk => far k cs _ hk (by decide))
  · exact own_type (s.keys1 x hx) (fun k cs hk => far k cs _ hk (by decide))
  · exact own_type (s.keys2 x hx) (fun k cs hk => far k cs _ hk (by decide))
  · exact s.bel.setCell s.pge _

theorem pe_none {s : ByteArray} (hs : s.size ≤ 4000) (h : linesTx s = none) : pE s = 1 ∧ pT s = (0, [], []) := by
  have e : pE s = 1 := by unfold pE; rw [if_neg (by omega), h]
  exact ⟨e, by unfold pT; rw [if_neg (by rw [e]; decide)]⟩
theorem pe_some {s : ByteArray} {t : TxD} (hs : s.size ≤ 4000) (h : linesTx s = some t) : pE s = chkTx t ∧ pT s = if chkTx t = 0 then t else (0, [], []) := by
  have e : pE s = chkTx t := by unfold pE; rw [if_neg (by omega), h]
  exact ⟨e, by unfold pT; rw [e, h]; rfl⟩
theorem lines_head {s : ByteArray} (h : endsB s = true) : linesTx s = match rowOf ((linesOf s).getD 0 ⟨#[]⟩) txB 1 with | some Z => foldTx (Z.getD 0 0, [], []) ((linesOf s).drop 1) | none => none := by
  unfold linesTx; rw [if_pos h]; rfl

theorem pl_new (w : World) (ws : List ByteArray) : PL w w.heap.size (w.heap.size + 1) (w.heap.size + 2) (ws.map Value.string).toArray 0 (((w.alloc resO).alloc resO).alloc (.cells (ws.map Value.string).toArray 9)) (.slice none 0 0) (.slice none 0 0) [] [] := by
  have e1 : (w.alloc resO).heap.size = w.heap.size + 1 := by simp
  have e2 : ((w.alloc resO).alloc resO).heap.size = w.heap.size + 2 := by simp
  have b1 := bel_new w resO
  have b2 := bel_new (w.alloc resO) resO
  have b3 := bel_new ((w.alloc resO).alloc resO) (.cells (ws.map Value.string).toArray 9)
  have n1 := heap_alloc_new w resO
  have n2 := heap_alloc_new (w.alloc resO) resO
  have n3 := heap_alloc_new ((w.alloc resO).alloc resO) (.cells (ws.map Value.string).toArray 9)
  rw [e1] at n2
  rw [e2] at n3
  exact ⟨(b3.block _ (lt_of_block n2)).trans n2, (b3.block _ (by rw [e2]; omega)).trans ((b2.block _ (lt_of_block n1)).trans n1), by omega, n3, World.ownsRow_nil _ _ _ _, World.ownsRow_nil _ _ _ _, (fun x hx => by cases hx), (fun x hx => by cases hx), bel_on (bel_on b1 b2) b3, by omega⟩

theorem lin_cell {w : World} {q p lb : Nat} {ws : List ByteArray} {h : Int} {wr : World} {v1 v2 : Value} {L1 : List (InD × Value)} {L2 : List (OutD × Value)} (s : PL w q p lb (ws.map Value.string).toArray h wr v1 v2 L1 L2) (i : Nat) (hi : i < ws.length) : wr.cell? ⟨lb, i, none⟩ = some (.string (ws.getD i ⟨#[]⟩)) := by
  rw [cell_of_row _ _ _ _ _ _ s.lin]
  simp [hi]
theorem empty_list {x : ByteArray} (h : x ≠ ⟨#[]⟩) : (x.toList == []) = false := by
  rw [beq_eq_false_iff_ne]
  intro e
  apply h
  apply ba_list
  rw [e, ByteArray.toList_eq]

end Go.Proofs.YthhlofipapfbnaaGreatDoor

/- Contracts of what the reference's ReadBlock calls: SplitAfter and TrimSuffix at a line feed, and its own 'fail'. -/
namespace Go.Proofs.YthhlofipapfbnaaGreatDoor
open Go.RowKit

set_option maxRecDepth 10000 in
set_option maxHeartbeats 1600000 in
theorem splitAfter_is (s : ByteArray) (hs : s.size ≤ 4000) (w : World) (m : Int) (hm : w.cell? ⟨0, 0, none⟩ = some (.int .i64 m)) :
    Calls Tryz.prog 51 #[.string s, .string ⟨#[10]⟩] w fun e w' => e = .returned (.slice (some ⟨w.heap.size, 0, none⟩) (sla s).length (sla s).length) ∧ w' = w.alloc (.cells ((sla s).map Value.string).toArray 9) := by
  have hN : ((Lib.countB s ⟨#[10]⟩ + 1 : Nat) : Int) = min (if (-1 : Int) < 0 then (Lib.countB s ⟨#[10]⟩ : Int) + 1 else -1) ((s.size : Int) + 1) := by
    have := Lib.countB_le ⟨#[10]⟩ (Nat.le_refl 1) s.size s (Nat.le_refl _)
    rw [if_pos (by omega)]
    omega
  have C := Tryz.strings_genSplit s ⟨#[10]⟩ 1 (-1) (Lib.countB s ⟨#[10]⟩ + 1) m w (by omega) hm (Nat.le_refl 1) (Nat.le_refl 1) (by omega) (by omega) hN
  rw [show Lib.splitB ⟨#[10]⟩ 1 (Lib.countB s ⟨#[10]⟩ + 1 - 1) s = sla s from rfl, ← sla_len s] at C
  have hc : Lib.cellsOf (sla s) (sla s).length = ((sla s).map Value.string).toArray := by
    unfold Lib.cellsOf
    simp
  rw [hc] at C
  have H := hide C
  clear C hc hN
  go_enter Tryz.func51, Tryz.ntmps51
  go_wp2_with fail
  refine (unhide H).mono ?_
  rintro e w2 ⟨rfl, rfl⟩
  go_wp2
  go_ret
  exact ⟨rfl, rfl⟩

set_option maxRecDepth 10000 in
set_option maxHeartbeats 1600000 in
theorem trim_none (s : ByteArray) (h : s.size = 0) (w : World) :
    Calls Tryz.prog 53 #[.string s, .string ⟨#[10]⟩] w fun e w' => e = .returned (.string s) ∧ w = w' := by
  go_enter Tryz.func53, Tryz.ntmps53
  go_wp2
  go_ret
  exact ⟨rfl, rfl⟩
set_option maxRecDepth 10000 in
set_option maxHeartbeats 1600000 in
theorem trim_some (s : ByteArray) (h : 1 ≤ s.size) (hs : s.size ≤ 4000) (w : World) :
    Calls Tryz.prog 53 #[.string s, .string ⟨#[10]⟩] w fun e w' => e = .returned (.string (bodyB s)) ∧ w = w' := by
  cases hq : ((s.extract (s.size - 1) s.size).toList == [10]) with
  | true =>
    have e1 : endsB s = true := by unfold endsB lastB; rw [hq, decide_eq_true h]; rfl
    have e2 : bodyB s = s.extract 0 (s.size - 1) := by unfold bodyB; rw [e1]; rfl
    rw [e2]
    clear e1 e2
    go_enter Tryz.func53, Tryz.ntmps53
    go_wp2
    go_ret
    exact ⟨rfl, rfl⟩
  | false =>
    have e1 : endsB s = false := by unfold endsB lastB; rw [hq]; exact Bool.and_false _
    have e2 : bodyB s = s := by unfold bodyB; rw [e1]; rfl
    rw [e2]
    clear e1 e2
    go_enter Tryz.func53, Tryz.ntmps53
    go_wp2
    go_ret
    exact ⟨rfl, rfl⟩
theorem trim_is (s : ByteArray) (hs : s.size ≤ 4000) (w : World) :
    Calls Tryz.prog 53 #[.string s, .string ⟨#[10]⟩] w fun e w' => e = .returned (.string (bodyB s)) ∧ w = w' := by
  by_cases h : s.size = 0
  · have e1 : endsB s = false := by unfold endsB; rw [decide_eq_false (by omega)]; rfl
    have e2 : bodyB s = s := by unfold bodyB; rw [e1]; rfl
    rw [e2]
    exact trim_none s h w
  · exact trim_some s (by omega) hs w

theorem last_list (s : ByteArray) : (lastB s).toList = s.data.toList.drop (s.data.toList.length - 1) := by
  rw [ByteArray.toList_eq]
  unfold lastB
  rw [ext_list, size_list]
  exact List.take_of_length_le (by simp)
theorem body_line (s : ByteArray) (q : List UInt8) (h : s.data.toList = q ++ [10]) : bodyB s = ⟨q.toArray⟩ := by
  have hz : s.size = q.length + 1 := by rw [size_list, h]; simp
  have e1 : endsB s = true := by
    unfold endsB
    rw [last_list, h, decide_eq_true (by omega)]
    simp
  unfold bodyB
  rw [e1, if_pos rfl]
  unfold frontB
  apply ba_ext
  rw [ext_list, h, hz]
  simp
theorem body_free (s : ByteArray) (h : ∀ b ∈ s.data.toList, b ≠ 10) : bodyB s = s := by
  have e1 : endsB s = false := by
    unfold endsB
    rw [last_list]
    cases hq : (s.data.toList.drop (s.data.toList.length - 1) == [10]) with
    | false => exact Bool.and_false _
    | true =>
      have e := eq_of_beq hq
      exact absurd rfl (h 10 (List.mem_of_mem_drop (e ▸ List.mem_singleton.2 rfl)))
  unfold bodyB
  rw [e1]
  rfl
/-- The lines: the first without its end is what Parse cuts off, the others are its pieces. -/
theorem sla_is (s : ByteArray) : ∃ h T, sla s = h :: T ∧ bodyB h = cutN s ∧ glue [] T = pcs (resN s) := by
  obtain ⟨h, T, e, hg, ⟨q, hq, hc⟩ | ⟨hf, hc⟩⟩ := sla_parts s
  · exact ⟨h, T, e, (body_line h q hq).trans hc.symm, hg⟩
  · exact ⟨h, T, e, (body_free h hf).trans hc.symm, hg⟩
theorem sla_small : ∀ (n : Nat) (s x : ByteArray), s.size ≤ n → x ∈ sla s → x.size ≤ s.size
  | n, s, x, hn, hx => by
    rcases line_cases s.data.toList with h | ⟨y, r, e, h⟩
    · rw [sla_miss s h, List.mem_singleton] at hx
      rw [hx]
      exact Nat.le_refl _
    · have hz : s.size = y.length + (r.length + 1) := by rw [size_list, e]; simp
      rw [sla_hit s y r e h] at hx
      rcases List.mem_cons.1 hx with rfl | hx
      · show (y ++ [10]).toArray.size ≤ _
        simp
        omega
      · obtain ⟨m, rfl⟩ : ∃ m, n = m + 1 := ⟨n - 1, by omega⟩
        have hr : (⟨r.toArray⟩ : ByteArray).size = r.length := by show r.toArray.size = _; simp
        have := sla_small m ⟨r.toArray⟩ x (by omega) hx
        omega

set_option maxHeartbeats 400000 in
theorem failB_is (x : Int) (w : World) :
    Calls Tryz.prog 50 #[.int .i64 x] w fun e w' => e = .returned (.tuple #[.agg #[.int .i64 0, .int .i64 0, .int .i64 0, .int .i64 0, .slice none 0 0], .int .i64 x]) ∧ Below w.heap.size w w' := by
  have HB := hide (bel_new w (.cells #[.int .i64 0, .int .i64 0, .int .i64 0, .int .i64 0, .slice none 0 0] 24))
  go_enter Tryz.func50, Tryz.ntmps50
  go_wp2
  (try simp only [Exit.inBlock, Exit.then])
  refine bodyPost_ret (v := .tuple #[.agg #[.int .i64 0, .int .i64 0, .int .i64 0, .int .i64 0, .slice none 0 0], .int .i64 x]) ?_ rfl ⟨rfl, ?_⟩
  · rw [results_cell_tmp rfl]
    go_simp
  · first
      | exact unhide HB
      | exact bel_new w _

end Go.Proofs.YthhlofipapfbnaaGreatDoor

/- The contract of the reference's ReadTx, where the text isn't ended. -/
namespace Go.Proofs.YthhlofipapfbnaaGreatDoor
open Go.RowKit

set_option maxRecDepth 10000 in
set_option maxHeartbeats 6400000 in
theorem readTx_open (s : ByteArray) (hs : s.size ≤ 4000) (hn : endsB s = false) (w : World) (hE : EnvF w) :
    Calls Tryz.prog 56 #[.string s] w fun e w' => TxIs w.heap.size w' e (pT s) (pE s) ∧ Below w.heap.size w w' := by
  obtain ⟨m, hm⟩ : ∃ m, (spl 10 s).length = m + 1 := ⟨(spl 10 s).length - 1, by have := spl_pos 10 s; omega⟩
  have hm2 : m ≤ 4001 := by have := spl_many 10 s hs; omega
  have e2 : ((w.alloc resO).alloc resO).heap.size = w.heap.size + 2 := by simp
  have bW := bel_on (bel_new w resO) (bel_new (w.alloc resO) resO)
  have SP := split_at 10 s hs ((w.alloc resO).alloc resO) (hE.later bW).envp
  rw [e2, hm] at SP
  have P0 := pl_new w (spl 10 s)
  have SPH := hide SP
  have HNONE : Hid (linesTx s = none) := by show _ = _; unfold linesTx; rw [hn]; rfl
  have SN := spl_not s hn
  rw [hm] at SN
  obtain ⟨ws, hws⟩ : ∃ ws, spl 10 s = ws := ⟨_, rfl⟩
  rw [hws] at SPH P0 SN hm
  have HP0 := hide P0
  have HM := hide hm
  clear SP P0 hE bW e2
  by_cases h0 : m = 0
  · subst h0
    clear SN
    go_enter Tryz.func56, Tryz.ntmps56
    go_wp2_with fail
    refine (unhide SPH).mono ?_
    rintro e w3 ⟨rfl, hw3⟩
    rw [← hw3] at HP0
    clear hw3
    have BD := hide (bad_is w3)
    have HPE := hide (pe_none hs (unhide HNONE))
    go_wp2_with fail
    refine (unhide BD).mono ?_
    rintro e wb ⟨rfl, hbb⟩
    have HSb := hide ((unhide HP0).later hbb)
    obtain ⟨⟨r0, r1, r2⟩, rf⟩ := block_cells3 (unhide HSb).res
    have f0 := rf 0
    have f1 := rf 1
    have f2 := rf 2
    have hqb : w.heap.size < wb.heap.size := World.block_lt_of_cell? _ _ r0
    clear hbb rf
    go_wp2
    (try simp only [Exit.inBlock, Exit.then])
    refine bodyPost_ret (v := .tuple #[.agg #[.int .i64 0, .slice none 0 0, .slice none 0 0], .int .i64 1]) ?_ rfl ⟨?_, ?_⟩
    · rw [results_cell_tmp rfl]
      go_simp
    · rw [(unhide HPE).1, (unhide HPE).2]; exact ⟨_, _, rfl, TxOwn.nil _ _⟩
    · exact (((unhide HSb).bel.setCell (Nat.le_refl _) _).setCell (Nat.le_refl _) _).setCell (Nat.le_refl _) _
  · have sn := SN (by omega)
    simp only [Nat.add_sub_cancel] at sn
    have g1 := empty_list sn
    have g2 : ¬ ((m : Int) + 1 < 2) := by omega
    have g3 : (m : Int) ≤ 4001 := by omega
    have g4 : (0 : Int) ≤ (m : Int) := by omega
    obtain ⟨y, hy⟩ : ∃ y, ws.getD m ⟨#[]⟩ = y := ⟨_, rfl⟩
    rw [hy] at g1
    have HY := hide hy
    clear SN sn hy
    go_enter Tryz.func56, Tryz.ntmps56
    go_wp2_with fail
    refine (unhide SPH).mono ?_
    rintro e w3 ⟨rfl, hw3⟩
    rw [← hw3] at HP0
    have f := lin_cell (unhide HP0) m (by have := unhide HM; omega)
    rw [unhide HY] at f
    clear hw3
    have BD := hide (bad_is w3)
    have HPE := hide (pe_none hs (unhide HNONE))
    go_wp2_with fail
    refine (unhide BD).mono ?_
    rintro e wb ⟨rfl, hbb⟩
    have HSb := hide ((unhide HP0).later hbb)
    obtain ⟨⟨r0, r1, r2⟩, rf⟩ := block_cells3 (unhide HSb).res
    have f0 := rf 0
    have f1 := rf 1
    have f2 := rf 2
    have hqb : w.heap.size < wb.heap.size := World.block_lt_of_cell? _ _ r0
    clear hbb rf
    go_wp2
    (try simp only [Exit.inBlock, Exit.then])
    refine bodyPost_ret (v := .tuple #[.agg #[.int .i64 0, .slice none 0 0, .slice none 0 0], .int .i64 1]) ?_ rfl ⟨?_, ?_⟩
    · rw [results_cell_tmp rfl]
      go_simp
    · rw [(unhide HPE).1, (unhide HPE).2]; exact ⟨_, _, rfl, TxOwn.nil _ _⟩
    · exact (((unhide HSb).bel.setCell (Nat.le_refl _) _).setCell (Nat.le_refl _) _).setCell (Nat.le_refl _) _

end Go.Proofs.YthhlofipapfbnaaGreatDoor
