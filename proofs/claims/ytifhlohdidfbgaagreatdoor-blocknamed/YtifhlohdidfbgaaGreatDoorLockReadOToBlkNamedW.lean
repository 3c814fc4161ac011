/- Parse of orders: what it answers is the caller's own. -/
import Derived.Test.YtifhlohdidfbgaaGreatDoorBookEqToTxNums
import Derived.OwnWalk
import Derived.Test.YtifhlohdidfbgaaGreatDoorTxPartsToTxPrintB
import Derived.Deep.AppendLies
import Derived.Lib.IndexBytes
import Derived.Test.YtifhlohdidfbgaaGreatDoorBookAllToBlkReward
import Derived.Test.YtifhlohdidfbgaaGreatDoorTxSameToBlkConW
namespace Go.Proofs.YtifhlohdidfbgaaGreatDoor
open Go.RowKit

theorem own_base {w : World} {base base' : Nat} {e : TypeId} {size : Nat} {v : Value} {n : Nat} {xs : List Value} (h : w.ownsRow base e size v n xs) (hb : base' ≤ base) : w.ownsRow base' e size v n xs := by
  obtain ⟨hl, h0 | ⟨g, cap, cur, hv, hg, hh, r⟩⟩ := h
  · exact ⟨hl, .inl h0⟩
  · exact ⟨hl, .inr ⟨g, cap, cur, hv, Nat.le_trans hb hg, hh, r⟩⟩

set_option maxRecDepth 10000 in
set_option maxHeartbeats 3200000 in
theorem readO_some (s : ByteArray) (hs : s.size ≤ 4000) (h0 : 0 < (wordsOf s).length) (w : World) (hE : EnvP w) :
    Calls Tryz.prog 174 #[.string s] w fun e w' => ∃ v, e = .returned (.tuple #[v, .int .i64 (prE s)]) ∧ w'.ownsRow w.heap.size 160 2 v (prL s).length (flat (prL s)) ∧ Below w.heap.size w w' := by
  obtain ⟨i0, hi, hz0, hz1, hz2⟩ := info_parts Tryz.infoOp
  have SP := hide (split_any s hs w hE)
  have eE : prE s = match parseAll (wordsOf s) with | none => 1 | some l => chk l := by unfold prE; rw [if_neg (by omega)]; rfl
  have eL : prL s = match parseAll (wordsOf s) with | none => [] | some l => if chk l = 0 then l else [] := by unfold prL; rw [if_neg (by omega)]; rfl
  have hwl : (wordsOf s).length ≤ 4002 := by
    have h1 : s.size ≠ 0 := fun e => by unfold wordsOf at h0; rw [if_pos e] at h0; simp at h0
    rw [words_len s h1]
    have : Lib.countB s sepB ≤ s.size + 1 := Lib.count_le s.data.toList sepB.data.toList
    omega
  have hsm := words_small s
  obtain ⟨ws, hws⟩ : ∃ ws, ws = wordsOf s := ⟨_, rfl⟩
  rw [← hws] at SP eE eL h0 hsm hwl
  obtain ⟨n, hn⟩ : ∃ n, ws.length = n := ⟨_, rfl⟩
  rw [hn] at SP h0 hwl
  have HEE := hide eE
  have HEL := hide eL
  have HSM := hide hsm
  have HN := hide hn
  have HE := hide hE
  have g : ¬ (4000 : Int) < (s.size : Int) := by omega
  clear hE eE eL hsm hws hn
  go_enter Tryz.func174, Tryz.ntmps174
  go_wp2_with fail
  refine (unhide SP).mono ?_
  rintro e w1 ⟨a, cap, rfl, hst, hb1⟩
  obtain ⟨bw, rfl, hbw, hcw⟩ := hst.2 h0
  have HB1 := hide hb1
  have HCW := hide hcw
  clear hb1 hst hcw
  go_wp2
  go_loopw [4, 16] (fun v i wr => ∃ (k : Nat) (l : List (Int × Int)), k ≤ n ∧ i = .int .i64 k ∧ parseAll (ws.take k) = some l ∧ wr.ownsRow w1.heap.size 160 2 v k (flat l) ∧ Below w1.heap.size w1 wr) (fun _ i _ => n - (intOf i).toNat)
  case atStart => exact ⟨0, [], Nat.zero_le _, rfl, rfl, World.ownsRow_nil _ _ _ _, Below.refl _ _⟩
  case round =>
    obtain ⟨k, l, hk, rfl, hpl, hown, hbr⟩ := hrel
    have HPL := hide hpl
    have HOWN := hide hown
    have HBR := hide hbr
    clear hpl hown
    by_cases hlt : k < n
    · have hlk : k < ws.length := by rw [unhide HN]; exact hlt
      have c1 := (unhide HCW) k hlt
      rw [← hbr.cell (p := ⟨bw, k, none⟩) hbw] at c1
      obtain ⟨x, hx⟩ : ∃ x, x = ws.getD k ⟨#[]⟩ := ⟨_, rfl⟩
      rw [← hx] at c1
      have hx' : x = ws[k] := by rw [hx]; simp [hlk]
      have hxs : x.size ≤ 4000 := Nat.le_trans ((unhide HSM) x (by rw [hx']; exact List.getElem_mem hlk)) hs
      have hbwr : Below w.heap.size w wr := bel_tw (unhide HB1) hbr
      have PO := hide (parseOrder_any x hxs wr ((unhide HE).later hbwr))
      have HX := hide hx'
      cases hq : parseW x with
      | none =>
        rw [hq] at PO
        have HQ := hide hq
        have HBW := hide hbwr
        clear hbr hx hx' hxs hbwr hq
        go_wp2_with fail
        refine (unhide PO).mono ?_
        rintro e w2 ⟨rfl, hb2⟩
        have HB2 := hide (bel_tw (unhide HBW) hb2)
        clear hb2
        go_wp2
        go_ret2
        have hd := parseAll_dead (ws := ws) hlk (by rw [← unhide HX]; exact unhide HQ)
        rw [unhide HEE, unhide HEL, hd]
        exact ⟨_, rfl, World.ownsRow_nil _ _ _ _, (unhide HB2).alloc (unhide HB2).size _⟩
      | some q =>
        rw [hq] at PO
        have HQ := hide hq
        obtain ⟨q1, q2⟩ := q
        clear hbr hx hx' hxs hbwr hq
        go_wp2_with fail
        refine (unhide PO).mono ?_
        rintro e w2 ⟨rfl, hb2⟩
        have hbr2 : Below w1.heap.size w1 w2 := (unhide HBR).trans (hb2.mono (unhide HBR).size)
        have hown2 : w2.ownsRow w1.heap.size 160 2 _ k (flat l) := own_keep (unhide HOWN) hb2
        have HBR2 := hide hbr2
        have HOWN2 := hide ((hown2.alloc (.cells #[.int .i64 q1, .int .i64 q2] 160)).alloc (.cells #[.int .i64 q1, .int .i64 q2] 160))
        clear hb2 hbr2 hown2
        have CP : Hid (∀ (j : Nat) (u : Value), ([.int .i64 q1, .int .i64 q2] : List Value)[j]? = some u → ((w2.alloc (.cells #[.int .i64 q1, .int .i64 q2] 160)).alloc (.cells #[.int .i64 q1, .int .i64 q2] 160)).cell? ((⟨w2.heap.size + 1, 0, none⟩ : Addr).add j) = some u) := fun j u hj => by
          have h := cell_pair (w2.alloc (.cells #[.int .i64 q1, .int .i64 q2] 160)) (.int .i64 q1) (.int .i64 q2) 160 j u hj
          rw [show (w2.alloc (.cells #[.int .i64 q1, .int .i64 q2] 160)).heap.size = w2.heap.size + 1 by simp] at h
          exact h
        have HSZ := hide (unhide HBR2).size
        go_wp2_with (at_builtin; refine wpList_append_own _ rfl _ _ 83 rfl w1.heap.size 160 i0 (.agg #[.int .i64 0, .int .i64 0]) 2 16 Tryz.underlying83 hi hz0 hz1 hz2 rfl (by decide) _ _ _ rfl (unhide HOWN2) ⟨w2.heap.size + 1, 0, none⟩ 1 1 [.int .i64 q1, .int .i64 q2] rfl rfl (unhide CP) (fun u hu => by simp at hu; rcases hu with rfl | rfl <;> rfl) (by unfold maxLen; omega) (by omega) (by have := unhide HSZ; simp; omega) ?_; intro v' w3 hown3 hgrow3 _)
        have HOWN3 : Hid (w3.ownsRow w1.heap.size 160 2 v' (k + 1) (flat (l ++ [(q1, q2)]))) := by rw [flat_snoc]; exact hown3
        have HB3 : Hid (Below w1.heap.size w1 w3) := ((((unhide HBR2).alloc (unhide HSZ) _).alloc (by have := unhide HSZ; simp; omega) _).grown hgrow3 (by have := unhide HSZ; simp; omega) (own_ge (unhide HOWN2)))
        clear hown3 hgrow3
        go_wp2
        go_roundw
        case rel =>
          refine ⟨k + 1, l ++ [(q1, q2)], by omega, by go_num, ?_, unhide HOWN3, unhide HB3⟩
          rw [List.take_succ_eq_append_getElem hlk, parseAll_snoc, unhide HPL, ← unhide HX, unhide HQ]; rfl
        case measure => simp [intOf]; omega
    · have e : k = n := by omega
      subst e
      obtain ⟨a', cap', hv, hO⟩ := ops_of_own (unhide HOWN)
      subst hv
      have hpa : parseAll ws = some l := by
        have h1 := unhide HPL
        rw [← unhide HN, List.take_length] at h1
        exact h1
      have hll : l.length = k := hO.1
      have HPA := hide hpa
      have HLL := hide hll
      have HBW := hide (bel_tw (unhide HB1) hbr)
      have CK := hide (check_any a' k cap' l wr hO)
      clear hk hlt hbr hO hpa hll
      by_cases hck : chk l = 0
      · rw [hck] at CK
        have HCK := hide hck
        clear hck
        go_wp2_with fail
        refine (unhide CK).mono ?_
        rintro e w2 ⟨rfl, hb2⟩
        have HO2 := hide (own_base (own_keep (unhide HOWN) hb2) (unhide HB1).size)
        have HB2 := hide (bel_tw (unhide HBW) hb2)
        clear hb2
        go_wp2
        go_ret2
        have e1 : prE s = 0 := by rw [unhide HEE, unhide HPA]; exact unhide HCK
        have e2 : prL s = l := by rw [unhide HEL, unhide HPA]; simp [unhide HCK]
        rw [e1, e2, unhide HLL]
        exact ⟨_, rfl, unhide HO2, unhide HB2⟩
      · obtain ⟨x, hx⟩ : ∃ x, x = chk l := ⟨_, rfl⟩
        rw [← hx] at CK hck
        have hx1 : (x != 0) = true := by simp [hck]
        have HX := hide hx
        have HCK := hide hck
        clear hck hx
        go_wp2_with fail
        refine (unhide CK).mono ?_
        rintro e w2 ⟨rfl, hb2⟩
        have HB2 := hide (bel_tw (unhide HBW) hb2)
        clear hb2
        go_wp2
        go_ret2
        have e1 : prE s = x := by rw [unhide HEE, unhide HPA]; exact (unhide HX).symm
        have e2 : prL s = [] := by
          rw [unhide HEL, unhide HPA]
          show (if chk l = 0 then l else []) = []
          rw [if_neg (by rw [← unhide HX]; exact unhide HCK)]
        rw [e1, e2]
        exact ⟨_, rfl, World.ownsRow_nil _ _ _ _, unhide HB2⟩

theorem parse_own (s : ByteArray) (w : World) (hE : EnvP w) :
    Calls Tryz.prog 174 #[.string s] w fun e w' => ∃ v, e = .returned (.tuple #[v, .int .i64 (prE s)]) ∧ w'.ownsRow w.heap.size 160 2 v (prL s).length (flat (prL s)) ∧ Below w.heap.size w w' := by
  by_cases hs : 4000 < s.size
  · have e1 : prE s = 2 := by unfold prE; rw [if_pos hs]
    have e2 : prL s = [] := by unfold prL; rw [if_pos hs]
    rw [e1, e2]
    exact (read_long s hs w).mono fun e w' ⟨h1, h2⟩ => ⟨_, h1, World.ownsRow_nil _ _ _ _, h2 ▸ Below.refl _ _⟩
  · by_cases h0 : (wordsOf s).length = 0
    · have ew : wordsOf s = [] := List.length_eq_zero_iff.1 h0
      have e1 : prE s = 0 := by unfold prE; rw [if_neg hs, ew]; rfl
      have e2 : prL s = [] := by unfold prL; rw [if_neg hs, ew]; rfl
      rw [e1, e2]
      exact (read_none s (by omega) h0 w hE).mono fun e w' ⟨h1, h2⟩ => ⟨_, h1, World.ownsRow_nil _ _ _ _, h2⟩
    · exact readO_some s (by omega) (by omega) w hE

end Go.Proofs.YtifhlohdidfbgaaGreatDoor

/- The contract of what reads a line of a transaction. -/
namespace Go.Proofs.YtifhlohdidfbgaaGreatDoor
open Go.RowKit

/-- What stands ahead of a text's first colon, what behind it, and whether there is one. -/
def cutH (s : ByteArray) : ByteArray := ⟨(Lib.cut s.data.toList [58]).1.toArray⟩
def cutT (s : ByteArray) : ByteArray := ⟨(Lib.cut s.data.toList [58]).2.1.toArray⟩
def cutF (s : ByteArray) : Bool := (Lib.cut s.data.toList [58]).2.2

theorem cutH_size (s : ByteArray) : (cutH s).size ≤ s.size := by
  unfold cutH Lib.cut
  show (Array.size _) ≤ s.data.size
  split <;> simp
  omega
theorem cutT_size (s : ByteArray) : (cutT s).size ≤ s.size := by
  unfold cutT Lib.cut
  show (Array.size _) ≤ s.data.size
  split <;> simp

/-- The numbers and the orders of a line that opens with a word. -/
def lineOf (s word : ByteArray) (count : Nat) : Option (List Int × List (Int × Int)) :=
  if cutF s then (match rowOf (cutH s) word count with | some Z => if prE (cutT s) = 0 then some (Z, prL (cutT s)) else none | none => none) else none

theorem cut_at (s : ByteArray) (hs : s.size ≤ 4000) (w : World) (hE : EnvP w) :
    Calls Tryz.prog 36 #[.string s, .string ⟨#[58]⟩] w fun e w' => e = .returned (.tuple #[.string (cutH s), .string (cutT s), .bool (cutF s)]) ∧ Below w.heap.size w w' :=
  (Tryz.strings_Cut_shaped s ⟨#[58]⟩ w hE.shp (by omega)).mono fun e w' ⟨h1, n, h2⟩ => ⟨h1, by rw [h2]; exact ⟨rfl, rfl, rfl, Nat.le_refl _, fun _ _ => rfl⟩⟩

/-- What the reading of a line answers. -/
def LineIs (w w' : World) (e : Ending) : Option (List Int × List (Int × Int)) → Prop
  | none => e = .returned (.tuple #[.slice none 0 0, .slice none 0 0, .bool false])
  | some (Z, L) => ∃ a c v, e = .returned (.tuple #[.slice a Z.length c, v, .bool true]) ∧ RowAt w' a Z.length Z ∧ w'.ownsRow w.heap.size 160 2 v L.length (flat L) ∧ (∀ x, a = some x → w.heap.size ≤ x.block)

set_option maxRecDepth 10000 in
set_option maxHeartbeats 3200000 in
theorem parseLine_any (s word : ByteArray) (count : Nat) (ct : Int) (hct : ct = (count : Int)) (hs : s.size ≤ 4000) (hn : count ≤ 6) (hpos : 0 < count) (w : World) (hE : EnvP w) :
    Calls Tryz.prog 136 #[.string s, .string word, .int .i64 ct] w fun e w' => LineIs w w' e (lineOf s word count) ∧ Below w.heap.size w w' := by
  have CU := hide (cut_at s hs w hE)
  have hH := cutH_size s
  have hT := cutT_size s
  obtain ⟨H, eH⟩ : ∃ H, cutH s = H := ⟨_, rfl⟩
  obtain ⟨T, eT⟩ : ∃ T, cutT s = T := ⟨_, rfl⟩
  rw [eH] at CU hH
  rw [eT] at CU hT
  have HE := hide hE
  have HCT := hide hct
  cases hf : cutF s with
  | false =>
    have e : lineOf s word count = none := by unfold lineOf; rw [hf]; rfl
    rw [e]
    rw [hf] at CU
    clear hE hf e eH eT hct
    go_enter Tryz.func136, Tryz.ntmps136
    go_wp2_with fail
    refine (unhide CU).mono ?_
    rintro e w1 ⟨rfl, hb1⟩
    have HB1 := hide hb1
    clear hb1
    go_wp2
    go_ret3
    exact ⟨rfl, unhide HB1⟩
  | true =>
    rw [hf] at CU
    cases hr : rowOf H word count with
    | none =>
      have e : lineOf s word count = none := by unfold lineOf; rw [hf, eH, hr]; rfl
      rw [e]
      obtain ⟨f, hfe⟩ : ∃ f, prE T = f := ⟨_, rfl⟩
      have HR := hide hr
      have HFE := hide hfe
      clear hE hf e eH eT hct hr hfe
      go_enter Tryz.func136, Tryz.ntmps136
      go_wp2_with fail
      refine (unhide CU).mono ?_
      rintro e w1 ⟨rfl, hb1⟩
      have HB1 := hide hb1
      clear hb1
      go_wp2_with fail
      refine (parseRow_any H word count ct (unhide HCT) (by omega) hn hpos w1 ((unhide HE).later (unhide HB1)) none (unhide HR)).mono ?_
      rintro e w2 ⟨a2, c2, rfl, _, hb2, _⟩
      have HB2 := hide (bel_on (unhide HB1) hb2)
      clear hb2
      simp only [Option.getD_none, List.length_nil, Option.isSome_none]
      go_wp2_with fail
      refine (parse_own T w2 ((unhide HE).later (unhide HB2))).mono ?_
      rw [unhide HFE]
      rintro e w3 ⟨v, rfl, _, hb3⟩
      have HB3 := hide (bel_on (unhide HB2) hb3)
      clear hb3
      go_wp2
      go_ret3
      exact ⟨rfl, unhide HB3⟩
    | some Z =>
      by_cases hp : prE T = 0
      · have e : lineOf s word count = some (Z, prL T) := by
          unfold lineOf; rw [hf, eH, eT, hr]
          show (if prE T = 0 then some (Z, prL T) else none) = _
          rw [if_pos hp]
        rw [e]
        have HR := hide hr
        have HP := hide hp
        clear hE hf e eH eT hct hr hp
        go_enter Tryz.func136, Tryz.ntmps136
        go_wp2_with fail
        refine (unhide CU).mono ?_
        rintro e w1 ⟨rfl, hb1⟩
        have HB1 := hide hb1
        clear hb1
        go_wp2_with fail
        refine (parseRow_any H word count ct (unhide HCT) (by omega) hn hpos w1 ((unhide HE).later (unhide HB1)) (some Z) (unhide HR)).mono ?_
        rintro e w2 ⟨a2, c2, rfl, hrow, hb2, hfr⟩
        have HRW := hide hrow
        have HFR : Hid (∀ x, a2 = some x → w.heap.size ≤ x.block) := fun x hx => Nat.le_trans (unhide HB1).size (hfr x hx)
        have HB2 := hide (bel_on (unhide HB1) hb2)
        clear hb2 hrow hfr
        simp only [Option.getD_some, Option.isSome_some]
        go_wp2_with fail
        refine (parse_own T w2 ((unhide HE).later (unhide HB2))).mono ?_
        rw [unhide HP]
        rintro e w3 ⟨v, rfl, hown, hb3⟩
        have HRW3 := hide ((unhide HRW).later hb3)
        have HOW := hide (own_base hown (unhide HB2).size)
        have HB3 := hide (bel_on (unhide HB2) hb3)
        clear hb3 hown
        go_wp2
        go_ret3
        exact ⟨⟨a2, c2, v, rfl, unhide HRW3, unhide HOW, unhide HFR⟩, unhide HB3⟩
      · have e : lineOf s word count = none := by
          unfold lineOf; rw [hf, eH, eT, hr]
          show (if prE T = 0 then some (Z, prL T) else none) = _
          rw [if_neg hp]
        rw [e]
        obtain ⟨f, hfe⟩ : ∃ f, prE T = f := ⟨_, rfl⟩
        rw [hfe] at hp
        have gf : (f != 0) = true := by simp [hp]
        have HR := hide hr
        have HFE := hide hfe
        clear hE hf e eH eT hct hr hfe hp
        go_enter Tryz.func136, Tryz.ntmps136
        go_wp2_with fail
        refine (unhide CU).mono ?_
        rintro e w1 ⟨rfl, hb1⟩
        have HB1 := hide hb1
        clear hb1
        go_wp2_with fail
        refine (parseRow_any H word count ct (unhide HCT) (by omega) hn hpos w1 ((unhide HE).later (unhide HB1)) (some Z) (unhide HR)).mono ?_
        rintro e w2 ⟨a2, c2, rfl, _, hb2, _⟩
        have HB2 := hide (bel_on (unhide HB1) hb2)
        clear hb2
        simp only [Option.getD_some, Option.isSome_some]
        go_wp2_with fail
        refine (parse_own T w2 ((unhide HE).later (unhide HB2))).mono ?_
        rw [unhide HFE]
        rintro e w3 ⟨v, rfl, _, hb3⟩
        have HB3 := hide (bel_on (unhide HB2) hb3)
        clear hb3
        go_wp2
        go_ret3
        exact ⟨rfl, unhide HB3⟩

end Go.Proofs.YtifhlohdidfbgaaGreatDoor

/- The contract of strings.CutSuffix at a line feed. -/
namespace Go.Proofs.YtifhlohdidfbgaaGreatDoor
open Go.RowKit

def lastB (s : ByteArray) : ByteArray := s.extract (s.size - 1) s.size
def frontB (s : ByteArray) : ByteArray := s.extract 0 (s.size - 1)
def endsB (s : ByteArray) : Bool := decide (1 ≤ s.size) && ((lastB s).toList == [10])
def bodyB (s : ByteArray) : ByteArray := if endsB s then frontB s else s

set_option maxRecDepth 10000 in
set_option maxHeartbeats 1600000 in
theorem cutSuffix_none (s : ByteArray) (h : s.size = 0) (w : World) :
    Calls Tryz.prog 135 #[.string s, .string ⟨#[10]⟩] w fun e w' => e = .returned (.tuple #[.string s, .bool false]) ∧ w = w' := by
  go_enter Tryz.func135, Tryz.ntmps135
  go_wp2
  go_ret2
  exact ⟨rfl, rfl⟩

set_option maxRecDepth 10000 in
set_option maxHeartbeats 1600000 in
theorem cutSuffix_some (s : ByteArray) (h : 1 ≤ s.size) (hs : s.size ≤ 4000) (w : World) :
    Calls Tryz.prog 135 #[.string s, .string ⟨#[10]⟩] w fun e w' => e = .returned (.tuple #[.string (bodyB s), .bool (endsB s)]) ∧ w = w' := by
  cases hq : ((s.extract (s.size - 1) s.size).toList == [10]) with
  | true =>
    have e1 : endsB s = true := by unfold endsB lastB; rw [hq, decide_eq_true h]; rfl
    have e2 : bodyB s = s.extract 0 (s.size - 1) := by unfold bodyB; rw [e1]; rfl
    rw [e1, e2]
    clear e1 e2
    go_enter Tryz.func135, Tryz.ntmps135
    go_wp2
    go_ret2
    exact ⟨rfl, rfl⟩
  | false =>
    have e1 : endsB s = false := by unfold endsB lastB; rw [hq]; exact Bool.and_false _
    have e2 : bodyB s = s := by unfold bodyB; rw [e1]; rfl
    rw [e1, e2]
    clear e1 e2
    go_enter Tryz.func135, Tryz.ntmps135
    go_wp2
    go_ret2
    exact ⟨rfl, rfl⟩

theorem cutSuffix_any (s : ByteArray) (hs : s.size ≤ 4000) (w : World) :
    Calls Tryz.prog 135 #[.string s, .string ⟨#[10]⟩] w fun e w' => e = .returned (.tuple #[.string (bodyB s), .bool (endsB s)]) ∧ w = w' := by
  by_cases h : s.size = 0
  · have e1 : endsB s = false := by unfold endsB; rw [decide_eq_false (by omega)]; rfl
    have e2 : bodyB s = s := by unfold bodyB; rw [e1]; rfl
    rw [e1, e2]
    exact cutSuffix_none s h w
  · exact cutSuffix_some s (by omega) hs w

theorem body_size (s : ByteArray) : (bodyB s).size ≤ s.size := by
  unfold bodyB frontB
  split
  · rw [ByteArray.size_extract]; omega
  · exact Nat.le_refl _

end Go.Proofs.YtifhlohdidfbgaaGreatDoor

/- What the reading of a transaction's lines builds: its box, its rows of ins and outs, their orders; told apart by their types. -/
namespace Go.Proofs.YtifhlohdidfbgaaGreatDoor
open Go.RowKit

/-! What lines say. -/
def outStep (t : TxD) (s : ByteArray) : Option TxD := match lineOf s outB 1 with | some (Z, L) => some (t.1, t.2.1, t.2.2 ++ [(Z.getD 0 0, L)]) | none => none
def stepLn (t : TxD) (s : ByteArray) : Option TxD :=
  match lineOf s inB 2 with
  | some (Z, L) => if t.2.2.length = 0 then some (t.1, t.2.1 ++ [(Z.getD 0 0, Z.getD 1 0, L)], t.2.2) else outStep t s
  | none => outStep t s
def foldTx : TxD → List ByteArray → Option TxD
  | t, [] => some t
  | t, x :: r => (stepLn t x).bind fun u => foldTx u r
def linesOf (s : ByteArray) : List ByteArray := spl 10 (bodyB s)
def linesTx (s : ByteArray) : Option TxD :=
  if endsB s then (match rowOf ((linesOf s).getD 0 ⟨#[]⟩) txB 1 with | some Z => foldTx (Z.getD 0 0, [], []) ((linesOf s).drop 1) | none => none) else none

theorem rowOf_len {s word : ByteArray} {count : Nat} {Z : List Int} (h : rowOf s word count = some Z) : Z.length = count := by
  unfold rowOf at h
  split at h
  · rename_i h1
    unfold numAll at h
    split at h
    · injection h with h
      rw [← h, List.length_map, List.length_drop]; omega
    · cases h
  · cases h
theorem lineOf_len {s word : ByteArray} {count : Nat} {Z : List Int} {L : List (Int × Int)} (h : lineOf s word count = some (Z, L)) : Z.length = count := by
  unfold lineOf at h
  split at h
  · cases hr : rowOf (cutH s) word count with
    | none => rw [hr] at h; cases h
    | some Y =>
      rw [hr] at h
      change (if prE (cutT s) = 0 then some (Y, prL (cutT s)) else none) = _ at h
      split at h
      · injection h with h
        injection h with h1 h2
        rw [← h1]; exact rowOf_len hr
      · cases h
  · cases h

theorem foldTx_step {t u : TxD} {T : List ByteArray} {j : Nat} (hj : j < T.length) (h : stepLn t T[j] = some u) : foldTx t (T.drop j) = foldTx u (T.drop (j + 1)) := by
  rw [List.drop_eq_getElem_cons hj, foldTx, h]; rfl
theorem foldTx_dead {t : TxD} {T : List ByteArray} {j : Nat} (hj : j < T.length) (h : stepLn t T[j] = none) : foldTx t (T.drop j) = none := by
  rw [List.drop_eq_getElem_cons hj, foldTx, h]; rfl
theorem foldTx_end {t : TxD} {T : List ByteArray} {j : Nat} (hj : T.length ≤ j) : foldTx t (T.drop j) = some t := by
  rw [List.drop_of_length_le hj]; rfl

/-! Rows of ins and outs, with the values of their orders. -/
def inCells : List (InD × Value) → List Value
  | [] => []
  | x :: r => .int .i64 x.1.1 :: .int .i64 x.1.2.1 :: x.2 :: inCells r
def outCells : List (OutD × Value) → List Value
  | [] => []
  | x :: r => .int .i64 x.1.1 :: x.2 :: outCells r
theorem inCells_append : ∀ l m : List (InD × Value), inCells (l ++ m) = inCells l ++ inCells m
  | [], _ => rfl
  | _ :: r, m => by simp only [List.cons_append, inCells, inCells_append r m]
theorem outCells_append : ∀ l m : List (OutD × Value), outCells (l ++ m) = outCells l ++ outCells m
  | [], _ => rfl
  | _ :: r, m => by simp only [List.cons_append, outCells, outCells_append r m]
theorem inCells_at : ∀ (l : List (InD × Value)) (i : Nat) (h : i < l.length), (inCells l)[i * 3]? = some (.int .i64 (l[i]).1.1) ∧ (inCells l)[i * 3 + 1]? = some (.int .i64 (l[i]).1.2.1) ∧ (inCells l)[i * 3 + 2]? = some (l[i]).2
  | [], i, h => absurd h (by simp)
  | o :: r, 0, _ => ⟨rfl, rfl, rfl⟩
  | o :: r, i + 1, h => by
    have := inCells_at r i (by simpa using h)
    have e : (i + 1) * 3 = i * 3 + 3 := by omega
    rw [e]
    exact this
theorem outCells_at : ∀ (l : List (OutD × Value)) (i : Nat) (h : i < l.length), (outCells l)[i * 2]? = some (.int .i64 (l[i]).1.1) ∧ (outCells l)[i * 2 + 1]? = some (l[i]).2
  | [], i, h => absurd h (by simp)
  | o :: r, 0, _ => ⟨rfl, rfl⟩
  | o :: r, i + 1, h => by
    have := outCells_at r i (by simpa using h)
    have e : (i + 1) * 2 = i * 2 + 2 := by omega
    rw [e]
    exact this
theorem inCells_len : ∀ l : List (InD × Value), (inCells l).length = l.length * 3
  | [] => rfl
  | _ :: r => by simp only [inCells, List.length_cons, inCells_len r]; omega
theorem outCells_len : ∀ l : List (OutD × Value), (outCells l).length = l.length * 2
  | [] => rfl
  | _ :: r => by simp only [outCells, List.length_cons, outCells_len r]; omega

/-- A row stays where blocks of its type stay. -/
theorem own_type {w w' : World} {base : Nat} {e : TypeId} {size : Nat} {v : Value} {n : Nat} {xs : List Value} (h : w.ownsRow base e size v n xs) (hk : ∀ (k : Nat) (cs : Array Value), w.heap[k]? = some (.cells cs e (0, 0)) → w'.heap[k]? = w.heap[k]?) : w'.ownsRow base e size v n xs := by
  obtain ⟨hl, h0 | ⟨g, cap, cur, hv, hg, hh, r⟩⟩ := h
  · exact ⟨hl, .inl h0⟩
  · exact ⟨hl, .inr ⟨g, cap, cur, hv, hg, (hk g cur hh).trans hh, r⟩⟩

structure PL (w : World) (q p lb : Nat) (A : Array Value) (h : Int) (wr : World) (v1 v2 : Value) (L1 : List (InD × Value)) (L2 : List (OutD × Value)) : Prop where
  box : wr.heap[p]? = some (.cells #[.int .i64 h, v1, v2] 78 (0, 0))
  res : wr.heap[q]? = some (.cells #[.int .i64 0, .slice none 0 0, .slice none 0 0] 78 (0, 0))
  pq : p ≠ q
  lin : wr.heap[lb]? = some (.cells A 9 (0, 0))
  own1 : wr.ownsRow w.heap.size 152 3 v1 L1.length (inCells L1)
  own2 : wr.ownsRow w.heap.size 85 2 v2 L2.length (outCells L2)
  keys1 : ∀ x ∈ L1, wr.ownsRow w.heap.size 160 2 x.2 x.1.2.2.length (flat x.1.2.2)
  keys2 : ∀ x ∈ L2, wr.ownsRow w.heap.size 160 2 x.2 x.1.2.length (flat x.1.2)
  bel : Below w.heap.size w wr
  pge : w.heap.size ≤ p

theorem PL.later {w : World} {q p lb : Nat} {A : Array Value} {h : Int} {wr w' : World} {v1 v2 : Value} {L1 : List (InD × Value)} {L2 : List (OutD × Value)} (s : PL w q p lb A h wr v1 v2 L1 L2) (hb : Below wr.heap.size wr w') : PL w q p lb A h w' v1 v2 L1 L2 where
  box := (hb.block _ (lt_of_block s.box)).trans s.box
  res := (hb.block _ (lt_of_block s.res)).trans s.res
  pq := s.pq
  lin := (hb.block _ (lt_of_block s.lin)).trans s.lin
  own1 := own_keep s.own1 hb
  own2 := own_keep s.own2 hb
  keys1 := fun x hx => own_keep (s.keys1 x hx) hb
  keys2 := fun x hx => own_keep (s.keys2 x hx) hb
  bel := bel_on s.bel hb
  pge := s.pge

/-- What an append to a row leaves alone: all blocks of other types. -/
theorem grow_type {w w' : World} {base : Nat} {e : TypeId} {size : Nat} {v : Value} {n : Nat} {xs : List Value} (h : w.ownsRow base e size v n xs) (hg : w.grownBy w' v.ownBlock) (k : Nat) (cs : Array Value) (t : TypeId) (hk : w.heap[k]? = some (.cells cs t (0, 0))) (ht : t ≠ e) : w'.heap[k]? = w.heap[k]? := by
  refine hg.block k (lt_of_block hk) (fun e1 => ?_)
  obtain ⟨_, ⟨rfl, _⟩ | ⟨g, cap, cur, rfl, _, hh, _⟩⟩ := h
  · cases e1
  · have e2 : k = g := by injection e1
    subst e2
    rw [hk] at hh
    injection hh with hh
    injection hh with _ hh
    exact ht hh

theorem PL.addIn {w : World} {q p lb : Nat} {A : Array Value} {h : Int} {w2 w3 : World} {v1 v2 v1' kv : Value} {L1 : List (InD × Value)} {L2 : List (OutD × Value)} {x1 x2 : Int} {key : List (Int × Int)}
    (s : PL w q p lb A h w2 v1 v2 L1 L2) (hkv : w2.ownsRow w.heap.size 160 2 kv key.length (flat key))
    (hown : w3.ownsRow w.heap.size 152 3 v1' (L1.length + 1) (inCells L1 ++ [.int .i64 x1, .int .i64 x2, kv])) (hg : w2.grownBy w3 v1.ownBlock) :
    PL w q p lb A h (w3.setCell ⟨p, 1, none⟩ v1') v1' v2 (L1 ++ [((x1, x2, key), kv)]) L2 := by
  have far : ∀ (k : Nat) (cs : Array Value) (t : TypeId), w2.heap[k]? = some (.cells cs t (0, 0)) → t ≠ 152 → w3.heap[k]? = w2.heap[k]? := fun k cs t hk ht => grow_type s.own1 hg k cs t hk ht
  have box3 : w3.heap[p]? = some (.cells #[.int .i64 h, v1, v2] 78 (0, 0)) := (far _ _ _ s.box (by decide)).trans s.box
  have far2 : ∀ (k : Nat) (cs : Array Value) (t : TypeId), w2.heap[k]? = some (.cells cs t (0, 0)) → t ≠ 152 → t ≠ 78 → (w3.setCell ⟨p, 1, none⟩ v1').heap[k]? = w2.heap[k]? := fun k cs t hk ht ht2 => by
    rw [heap_setCell_other w3 ⟨p, 1, none⟩ k v1' (fun e => by
      have e' : k = p := e
      subst e'
      rw [s.box] at hk
      injection hk with hk
      injection hk with _ hk
      exact ht2 hk.symm)]
    exact far k cs t hk ht
  have far3 : ∀ (k : Nat) (cs : Array Value) (t : TypeId), w3.heap[k]? = some (.cells cs t (0, 0)) → t ≠ 78 → (w3.setCell ⟨p, 1, none⟩ v1').heap[k]? = w3.heap[k]? := fun k cs t hk ht2 =>
    heap_setCell_other w3 ⟨p, 1, none⟩ k v1' (fun e => by
      have e' : k = p := e
      subst e'
      rw [box3] at hk
      injection hk with hk
      injection hk with _ hk
      exact ht2 hk.symm)
  have hs := s.bel.size
  refine ⟨?_, ?_, s.pq, ?_, ?_, ?_, fun x hx => ?_, fun x hx => ?_, ?_, s.pge⟩
  · rw [heap_setCell_same w3 p 1 _ 78 v1' box3]; rfl
  · rw [heap_setCell_other w3 ⟨p, 1, none⟩ q v1' (fun e => s.pq e.symm)]; exact (far _ _ _ s.res (by decide)).trans s.res
  · exact (far2 _ _ _ s.lin (by decide) (by decide)).trans s.lin
  · rw [List.length_append, inCells_append]
    exact own_type hown (fun k cs hk => far3 k cs _ hk (by decide))
  · exact own_type s.own2 (fun k cs hk => far2 k cs _ hk (by decide) (by decide))
  · rcases List.mem_append.1 hx with hx | hx
    · exact own_type (s.keys1 x hx) (fun k cs hk => far2 k cs _ hk (by decide) (by decide))
    · have e : x = ((x1, x2, key), kv) := by simpa using hx
      subst e
      exact own_type hkv (fun k cs hk => far2 k cs _ hk (by decide) (by decide))
  · exact own_type (s.keys2 x hx) (fun k cs hk => far2 k cs _ hk (by decide) (by decide))
  · exact ((s.bel.grown hg hs (fun k hk => own_ge s.own1 k hk)).setCell s.pge _)

theorem PL.addOut {w : World} {q p lb : Nat} {A : Array Value} {h : Int} {w2 w3 : World} {v1 v2 v2' kv : Value} {L1 : List (InD × Value)} {L2 : List (OutD × Value)} {x1 : Int} {key : List (Int × Int)}
    (s : PL w q p lb A h w2 v1 v2 L1 L2) (hkv : w2.ownsRow w.heap.size 160 2 kv key.length (flat key))
    (hown : w3.ownsRow w.heap.size 85 2 v2' (L2.length + 1) (outCells L2 ++ [.int .i64 x1, kv])) (hg : w2.grownBy w3 v2.ownBlock) :
    PL w q p lb A h (w3.setCell ⟨p, 2, none⟩ v2') v1 v2' L1 (L2 ++ [((x1, key), kv)]) := by
  have far : ∀ (k : Nat) (cs : Array Value) (t : TypeId), w2.heap[k]? = some (.cells cs t (0, 0)) → t ≠ 85 → w3.heap[k]? = w2.heap[k]? := fun k cs t hk ht => grow_type s.own2 hg k cs t hk ht
  have box3 : w3.heap[p]? = some (.cells #[.int .i64 h, v1, v2] 78 (0, 0)) := (far _ _ _ s.box (by decide)).trans s.box
  have far2 : ∀ (k : Nat) (cs : Array Value) (t : TypeId), w2.heap[k]? = some (.cells cs t (0, 0)) → t ≠ 85 → t ≠ 78 → (w3.setCell ⟨p, 2, none⟩ v2').heap[k]? = w2.heap[k]? := fun k cs t hk ht ht2 => by
    rw [heap_setCell_other w3 ⟨p, 2, none⟩ k v2' (fun e => by
      have e' : k = p := e
      subst e'
      rw [s.box] at hk
      injection hk with hk
      injection hk with _ hk
      exact ht2 hk.symm)]
    exact far k cs t hk ht
  have far3 : ∀ (k : Nat) (cs : Array Value) (t : TypeId), w3.heap[k]? = some (.cells cs t (0, 0)) → t ≠ 78 → (w3.setCell ⟨p, 2, none⟩ v2').heap[k]? = w3.heap[k]? := fun k cs t hk ht2 =>
    heap_setCell_other w3 ⟨p, 2, none⟩ k v2' (fun e => by
      have e' : k = p := e
      subst e'
      rw [box3] at hk
      injection hk with hk
      injection hk with _ hk
      exact ht2 hk.symm)
  have hs := s.bel.size
  refine ⟨?_, ?_, s.pq, ?_, ?_, ?_, fun x hx => ?_, fun x hx => ?_, ?_, s.pge⟩
  · rw [heap_setCell_same w3 p 2 _ 78 v2' box3]; rfl
  · rw [heap_setCell_other w3 ⟨p, 2, none⟩ q v2' (fun e => s.pq e.symm)]; exact (far _ _ _ s.res (by decide)).trans s.res
  · exact (far2 _ _ _ s.lin (by decide) (by decide)).trans s.lin
  · exact own_type s.own1 (fun k cs hk => far2 k cs _ hk (by decide) (by decide))
  · rw [List.length_append, outCells_append]
    exact own_type hown (fun k cs hk => far3 k cs _ hk (by decide))
  · exact own_type (s.keys1 x hx) (fun k cs hk => far2 k cs _ hk (by decide) (by decide))
  · rcases List.mem_append.1 hx with hx | hx
    · exact own_type (s.keys2 x hx) (fun k cs hk => far2 k cs _ hk (by decide) (by decide))
    · have e : x = ((x1, key), kv) := by simpa using hx
      subst e
      exact own_type hkv (fun k cs hk => far2 k cs _ hk (by decide) (by decide))
  · exact ((s.bel.grown hg hs (fun k hk => own_ge s.own2 k hk)).setCell s.pge _)

theorem PL.alloc {w : World} {q p lb : Nat} {A : Array Value} {h : Int} {wr : World} {v1 v2 : Value} {L1 : List (InD × Value)} {L2 : List (OutD × Value)} (s : PL w q p lb A h wr v1 v2 L1 L2) (o : Obj) : PL w q p lb A h (wr.alloc o) v1 v2 L1 L2 := s.later (bel_new wr o)
theorem PL.drewN {w : World} {q p lb : Nat} {A : Array Value} {h : Int} {wr : World} {v1 v2 : Value} {L1 : List (InD × Value)} {L2 : List (OutD × Value)} (s : PL w q p lb A h wr v1 v2 L1 L2) (n : Nat) : PL w q p lb A h (wr.drewN n) v1 v2 L1 L2 :=
  s.later ⟨rfl, rfl, rfl, Nat.le_refl _, fun _ _ => rfl⟩

/-- A value that owns orders is orders to a reader. -/
theorem ops_slice {w : World} {base : Nat} {v : Value} {L : List (Int × Int)} (h : w.ownsRow base 160 2 v L.length (flat L)) : ∃ a c, v = .slice a L.length c ∧ OpsAt w a L.length L ∧ SlOk a L.length c := by
  obtain ⟨a, c, rfl, hO⟩ := ops_of_own h
  refine ⟨a, c, rfl, hO, ?_⟩
  rcases h.2 with ⟨h1, h2⟩ | ⟨g, cap, cur, h1, _, _, h3, h4, _, _⟩
  · injection h1 with h1 h5 h6
    subst h1 h6
    exact ⟨by omega, Nat.zero_le _, fun _ => ⟨h2, rfl⟩⟩
  · injection h1 with h1 h5 h6
    subst h1 h6
    exact ⟨h3, h4, fun h => by cases h⟩

theorem sl_of_own {w : World} {base : Nat} {e : TypeId} {size : Nat} {v : Value} {n : Nat} {xs : List Value} (h : w.ownsRow base e size v n xs) : ∃ a c, v = .slice a n c ∧ SlOk a n c := by
  rcases h.2 with ⟨h1, h2⟩ | ⟨g, cap, cur, h1, _, _, h3, h4, _, _⟩
  · subst h2; exact ⟨none, 0, h1, Nat.le_refl _, Nat.zero_le _, fun _ => ⟨rfl, rfl⟩⟩
  · exact ⟨_, cap, h1, h3, h4, fun h => by cases h⟩

theorem ins_of_own {w : World} {base : Nat} {a : Option Addr} {c : Nat} {L : List (InD × Value)} (h : w.ownsRow base 152 3 (.slice a L.length c) L.length (inCells L)) (hk : ∀ x ∈ L, w.ownsRow base 160 2 x.2 x.1.2.2.length (flat x.1.2.2)) : InsAt w a L.length (L.map (·.1)) := by
  refine ⟨by rw [List.length_map], fun hpos => ?_⟩
  rcases h.2 with ⟨_, h2⟩ | ⟨g, cap, cur, h1, _, hh, _, _, _, _⟩
  · omega
  · injection h1 with h1 _ _
    subst h1
    refine ⟨g, 0, rfl, lt_of_block hh, fun i hi => ?_⟩
    rw [List.length_map] at hi
    obtain ⟨c1, c2, c3⟩ := inCells_at L i hi
    obtain ⟨ka, kc, e, hO, hS⟩ := ops_slice (hk L[i] (List.getElem_mem hi))
    rw [List.getElem_map, Nat.zero_add]
    refine ⟨?_, ?_, ka, _, kc, ?_, hO, hS⟩
    · rw [World.ownsRow.cellAt h (i * 3) (by omega)]; exact c1
    · rw [World.ownsRow.cellAt h (i * 3 + 1) (by omega)]; exact c2
    · rw [World.ownsRow.cellAt h (i * 3 + 2) (by omega), c3, e]
theorem outs_of_own {w : World} {base : Nat} {a : Option Addr} {c : Nat} {L : List (OutD × Value)} (h : w.ownsRow base 85 2 (.slice a L.length c) L.length (outCells L)) (hk : ∀ x ∈ L, w.ownsRow base 160 2 x.2 x.1.2.length (flat x.1.2)) : OutsAt w a L.length (L.map (·.1)) := by
  refine ⟨by rw [List.length_map], fun hpos => ?_⟩
  rcases h.2 with ⟨_, h2⟩ | ⟨g, cap, cur, h1, _, hh, _, _, _, _⟩
  · omega
  · injection h1 with h1 _ _
    subst h1
    refine ⟨g, 0, rfl, lt_of_block hh, fun i hi => ?_⟩
    rw [List.length_map] at hi
    obtain ⟨c1, c3⟩ := outCells_at L i hi
    obtain ⟨ka, kc, e, hO, hS⟩ := ops_slice (hk L[i] (List.getElem_mem hi))
    rw [List.getElem_map, Nat.zero_add]
    refine ⟨?_, ka, _, kc, ?_, hO, hS⟩
    · rw [World.ownsRow.cellAt h (i * 2) (by omega)]; exact c1
    · rw [World.ownsRow.cellAt h (i * 2 + 1) (by omega), c3, e]

end Go.Proofs.YtifhlohdidfbgaaGreatDoor

/- What is printed is read: the orders of the text of right orders are the orders. -/
namespace Go.Proofs.YtifhlohdidfbgaaGreatDoor
open Go.RowKit

theorem dig_val (d : Nat) (h : d < 10) : (UInt8.ofNat (48 + d)).toNat = 48 + d := by
  have : ∀ m : Fin 10, (UInt8.ofNat (48 + m.val)).toNat = 48 + m.val := by decide
  exact this ⟨d, h⟩

theorem uint_snoc : ∀ (l : List UInt8) (acc m : Nat) (c : UInt8), Lib.parseUint10 acc l = .ok m → 48 ≤ c.toNat → c.toNat ≤ 57 → m * 10 + (c.toNat - 48) < 18446744073709551616 → m < 1844674407370955162 →
    Lib.parseUint10 acc (l ++ [c]) = .ok (m * 10 + (c.toNat - 48))
  | [], acc, m, c, h, h1, h2, h3, h4 => by
    simp only [Lib.parseUint10] at h
    injection h with h
    subst h
    simp only [List.nil_append, Lib.parseUint10]
    rw [if_pos ⟨h1, h2⟩, if_neg (by omega), if_neg (by omega)]
  | x :: r, acc, m, c, h, h1, h2, h3, h4 => by
    simp only [List.cons_append, Lib.parseUint10] at h ⊢
    split at h
    · rename_i hx
      rw [if_pos hx]
      split at h
      · cases h
      · rename_i g1
        rw [if_neg g1]
        split at h
        · cases h
        · rename_i g2
          rw [if_neg g2]
          exact uint_snoc r _ m c h h1 h2 h3 h4
    · cases h

theorem dec_back : ∀ (u : Nat), u < 10000000 → Lib.parseUint10 0 (Lib.decDigits u) = .ok u := by
  intro u
  induction u using Nat.strongRecOn with
  | ind u ih =>
    intro hu
    rw [Lib.decDigits]
    split
    · rename_i h
      have e := dig_val u h
      simp only [Lib.parseUint10, e]
      rw [if_pos (by omega), if_neg (by omega), if_neg (by omega)]
      congr 1
      omega
    · rename_i h
      have e := dig_val (u % 10) (by omega)
      have := uint_snoc (Lib.decDigits (u / 10)) 0 (u / 10) (UInt8.ofNat (48 + u % 10)) (ih (u / 10) (by omega) (by omega)) (by omega) (by omega) (by omega) (by omega)
      rw [this, e]
      congr 1
      omega

theorem dec_digits : ∀ (u : Nat) (b : UInt8), b ∈ Lib.decDigits u → 48 ≤ b.toNat ∧ b.toNat ≤ 57 := by
  intro u
  induction u using Nat.strongRecOn with
  | ind u ih =>
    intro b hb
    rw [Lib.decDigits] at hb
    split at hb
    · rename_i h
      simp only [List.mem_singleton] at hb
      rw [hb, dig_val u h]; omega
    · rename_i h
      simp only [List.mem_append, List.mem_singleton] at hb
      rcases hb with hb | hb
      · exact ih (u / 10) (by omega) b hb
      · rw [hb, dig_val (u % 10) (by omega)]; omega

theorem dec_ne (u : Nat) : Lib.decDigits u ≠ [] := by
  intro e
  have := Lib.decDigits_length u
  rw [e] at this
  have := Lib.nDigits_pos u
  simp at *
  omega

theorem atoi_back (n : Int) (h0 : -1000000 ≤ n) (h1 : n ≤ 1000000) : Lib.atoiAll (Lib.itoa n) = .ok n := by
  unfold Lib.itoa
  split
  · rename_i hn
    have e := dec_back n.natAbs (by omega)
    unfold Lib.atoiAll
    have h45 : (45 : UInt8).toNat = 45 := rfl
    simp only [h45, or_true, if_true, Lib.parseMag, dec_ne, if_false, e]
    rw [if_neg (by omega), if_neg (by omega)]
    congr 1
    first | omega | (simp; omega)
  · rename_i hn
    have e := dec_back n.toNat (by omega)
    have hd := dec_digits n.toNat
    have hne := dec_ne n.toNat
    generalize Lib.decDigits n.toNat = l at *
    cases l with
    | nil => exact absurd rfl hne
    | cons c r =>
      have hc := hd c (by simp)
      have g1 : ¬ (c.toNat = 43 ∨ c.toNat = 45) := by omega
      have g2 : ¬ c.toNat = 45 := by omega
      have hm : Lib.parseMag (c :: r) = .ok n.toNat := by unfold Lib.parseMag; rw [if_neg hne]; exact e
      unfold Lib.atoiAll
      dsimp only
      rw [if_neg g1, hm]
      dsimp only
      rw [if_neg (by omega), if_neg (by omega), if_neg g2]
      congr 1
      omega

theorem itoa_chars (n : Int) (b : UInt8) (h : b ∈ Lib.itoa n) : b ≠ 32 := by
  unfold Lib.itoa at h
  have key : ∀ b : UInt8, 48 ≤ b.toNat → b ≠ 32 := fun b hb e => by rw [e] at hb; exact absurd hb (by decide)
  split at h
  · simp only [List.mem_cons] at h
    rcases h with rfl | h
    · decide
    · exact key b (dec_digits _ b h).1
  · exact key b (dec_digits _ b h).1
theorem itoa_ne (n : Int) : Lib.itoa n ≠ [] := by
  unfold Lib.itoa
  split
  · simp
  · exact dec_ne _

theorem names_fine : ∀ k : Fin 14, 2 ≤ k.val → (∀ b ∈ (nameB k.val).data.toList, b ≠ 32) ∧ (nameB k.val).data.toList ≠ [] ∧ Lib.atoiAll (nameB k.val).data.toList = .«syntax» := by decide +kernel

theorem kind_name : ∀ k : Fin 14, 2 ≤ k.val → kindOf (nameB k.val) = some k.val := by decide +kernel

theorem chk1_parts {k n : Int} (h : chk1 (k, n) = 0) : (k = 1 ∧ -1000000 ≤ n ∧ n ≤ 1000000) ∨ (2 ≤ k ∧ k ≤ 13 ∧ n = 0) := by
  simp only [chk1] at h
  split at h
  · cases h
  · rename_i h1
    split at h
    · cases h
    · rename_i h2
      simp only [not_or, Bool.not_eq_false, not_and] at h1 h2
      have hf := (fit_iff n).1 h2.2
      by_cases hk : k = 1
      · exact Or.inl ⟨hk, hf⟩
      · refine Or.inr ⟨by omega, by omega, ?_⟩
        have := h2.1 hk
        omega

theorem op_fine (o : Int × Int) (h : chk1 o = 0) : (∀ b ∈ (opText o).data.toList, b ≠ 32) ∧ (opText o).data.toList ≠ [] ∧ parseW (opText o) = some o := by
  obtain ⟨k, n⟩ := o
  rcases chk1_parts h with ⟨rfl, h0, h1⟩ | ⟨h2, h3, rfl⟩
  · have e : opText (1, n) = textB n := rfl
    rw [e]
    refine ⟨fun b hb => itoa_chars n b (by simpa [textB] using hb), by simpa [textB] using itoa_ne n, ?_⟩
    have hn : numOf (textB n) = some n := by
      unfold numOf
      have : Lib.atoiAll (textB n).data.toList = .ok n := by simpa [textB] using atoi_back n h0 h1
      rw [this]
      simp
    unfold parseW
    rw [hn]
  · obtain ⟨m, rfl⟩ := Int.eq_ofNat_of_zero_le (show 0 ≤ k by omega)
    have e : opText ((m : Int), 0) = nameB m := by simp [opText]; intro h; omega
    have hf := names_fine ⟨m, by omega⟩ (by show 2 ≤ m; omega)
    have hk := kind_name ⟨m, by omega⟩ (by show 2 ≤ m; omega)
    rw [e]
    refine ⟨hf.1, hf.2.1, ?_⟩
    have hn : numOf (nameB m) = none := by
      unfold numOf
      have h3 : Lib.atoiAll (nameB m).data.toList = .«syntax» := hf.2.2
      rw [h3]
    unfold parseW
    rw [hn]
    have hk' : kindOf (nameB m) = some m := hk
    rw [hk']
    rfl

theorem byte_miss : ∀ (x : List UInt8), (∀ b ∈ x, b ≠ 32) → Lib.indexByte x 32 = -1
  | [], _ => rfl
  | b :: r, h => by
    unfold Lib.indexByte
    have hb : (b == 32) = false := by simpa using h b (by simp)
    rw [hb, byte_miss r (fun c hc => h c (by simp [hc]))]
    rfl
theorem byte_hit : ∀ (x r : List UInt8), (∀ b ∈ x, b ≠ 32) → Lib.indexByte (x ++ 32 :: r) 32 = x.length
  | [], r, _ => rfl
  | b :: x, r, h => by
    have ih := byte_hit x r (fun c hc => h c (by simp [hc]))
    rw [List.cons_append]
    unfold Lib.indexByte
    have hb : (b == 32) = false := by simpa using h b (by simp)
    rw [hb, ih]
    have hne : ((x.length : Int) == -1) = false := by rw [beq_eq_false_iff_ne]; omega
    rw [hne]
    simp

theorem split_join : ∀ (xs : List (List UInt8)), xs ≠ [] → (∀ x ∈ xs, ∀ b ∈ x, b ≠ 32) → Lib.splitK [32] 0 (Lib.count (Lib.join xs [32]) [32]) (Lib.join xs [32]) = xs
  | [], h, _ => absurd rfl h
  | [x], _, h => by
    rw [Lib.join_one]
    have hi : Lib.index x [32] = -1 := by rw [Lib.index_one]; exact byte_miss x (h x (by simp))
    rw [Lib.count_miss hi]
    rfl
  | x :: y :: r, _, h => by
    have ej : Lib.join (x :: y :: r) [32] = x ++ 32 :: Lib.join (y :: r) [32] := by simp [Lib.join, List.intercalate]
    have hi : Lib.index (Lib.join (x :: y :: r) [32]) [32] = (x.length : Int) := by rw [ej, Lib.index_one]; exact byte_hit x _ (h x (by simp))
    have hc := Lib.count_hit (s := Lib.join (x :: y :: r) [32]) (sub := [32]) (by simp) hi
    have hd : (Lib.join (x :: y :: r) [32]).drop (x.length + ([32] : List UInt8).length) = Lib.join (y :: r) [32] := by
      rw [ej, List.length_singleton, ← List.drop_drop, List.drop_left]; rfl
    have ht : (Lib.join (x :: y :: r) [32]).take (x.length + 0) = x := by rw [ej, Nat.add_zero, List.take_left]
    rw [hd] at hc
    rw [hc, Nat.add_comm, Lib.splitK]
    have hne : (Lib.index (Lib.join (x :: y :: r) [32]) [32] == -1) = false := by rw [hi, beq_eq_false_iff_ne]; omega
    rw [hne]
    simp only [Bool.false_eq_true, if_false, hi, Int.toNat_natCast]
    rw [ht, hd, split_join (y :: r) (by simp) (fun z hz => h z (by simp [hz]))]

theorem data_inj {a b : ByteArray} (h : a.data.toList = b.data.toList) : a = b := by
  cases a; cases b
  simp at h
  rw [h]
theorem map_inj : ∀ {xs ys : List ByteArray}, xs.map (·.data.toList) = ys.map (·.data.toList) → xs = ys
  | [], [], _ => rfl
  | [], _ :: _, h => by simp at h
  | _ :: _, [], h => by simp at h
  | x :: xs, y :: ys, h => by
    simp only [List.map_cons, List.cons.injEq] at h
    rw [data_inj h.1, map_inj h.2]

theorem join_ne : ∀ (xs : List (List UInt8)), xs ≠ [] → (∀ x ∈ xs, x ≠ []) → Lib.join xs [32] ≠ []
  | [], h, _ => absurd rfl h
  | [x], _, h => by rw [Lib.join_one]; exact h x (by simp)
  | x :: y :: r, _, _ => by simp [Lib.join, List.intercalate]

theorem words_back (l : List (Int × Int)) (h : chkL l = 0) : wordsOf (opsText l) = l.map opText := by
  have hall : ∀ o ∈ l, chk1 o = 0 := fun o ho => by
    obtain ⟨i, hi, rfl⟩ := List.getElem_of_mem ho
    exact chkL_all h i hi
  cases l with
  | nil => rfl
  | cons o r =>
    have hd : (opsText (o :: r)).data.toList = Lib.join (((o :: r).map opText).map (·.data.toList)) [32] := by simp [opsText]
    have hne : (opsText (o :: r)).size ≠ 0 := by
      intro e
      have h2 : (opsText (o :: r)).data.toList = [] := by
        have h3 : (opsText (o :: r)).data = #[] := Array.eq_empty_of_size_eq_zero e
        rw [h3]
      rw [hd] at h2
      refine join_ne _ (by simp) (fun x hx => ?_) h2
      simp only [List.map_map, List.mem_map] at hx
      obtain ⟨q, hq, rfl⟩ := hx
      exact (op_fine q (hall q hq)).2.1
    unfold wordsOf
    rw [if_neg hne]
    apply map_inj
    rw [Lib.splitB_data]
    show Lib.splitK [32] 0 (Lib.count (opsText (o :: r)).data.toList [32]) (opsText (o :: r)).data.toList = _
    rw [hd]
    refine split_join _ (by simp) (fun x hx b hb => ?_)
    simp only [List.map_map, List.mem_map] at hx
    obtain ⟨q, hq, rfl⟩ := hx
    exact (op_fine q (hall q hq)).1 b hb

theorem all_back : ∀ (l : List (Int × Int)), (∀ o ∈ l, chk1 o = 0) → parseAll (l.map opText) = some l
  | [], _ => rfl
  | o :: r, h => by
    simp only [List.map_cons, parseAll, (op_fine o (h o (by simp))).2.2, all_back r (fun q hq => h q (by simp [hq]))]
    rfl

theorem read_back (l : List (Int × Int)) (h : chk l = 0) : prE (opsText l) = 0 ∧ prL (opsText l) = l := by
  have h16 : l.length ≤ 16 := by
    unfold chk at h
    split at h
    · cases h
    · omega
  have hL : chkL l = 0 := by
    unfold chk at h
    split at h
    · cases h
    · exact h
  have hsz : ¬ 4000 < (opsText l).size := by
    have := opsText_len l h16 hL
    have e : (opsText l).size = (Lib.join ((l.map opText).map (·.data.toList)) [32]).length := by simp [opsText, ByteArray.size]
    omega
  have hp : parseAll (wordsOf (opsText l)) = some l := by
    rw [words_back l hL]
    exact all_back l (fun o ho => by
      obtain ⟨i, hi, rfl⟩ := List.getElem_of_mem ho
      exact chkL_all hL i hi)
  constructor
  · unfold prE; rw [if_neg hsz, hp]; exact h
  · unfold prL; rw [if_neg hsz, hp]; simp [h]

end Go.Proofs.YtifhlohdidfbgaaGreatDoor

/- Pieces of texts: what is joined is split, what is split is joined. Nothing of the program. -/
namespace Go.Proofs.YtifhlohdidfbgaaGreatDoor

theorem idx_miss (c : UInt8) : ∀ (x : List UInt8), (∀ b ∈ x, b ≠ c) → Lib.indexByte x c = -1
  | [], _ => rfl
  | b :: r, h => by
    unfold Lib.indexByte
    have hb : (b == c) = false := by simpa using h b (by simp)
    rw [hb, idx_miss c r (fun d hd => h d (by simp [hd]))]
    rfl
theorem idx_hit (c : UInt8) : ∀ (x r : List UInt8), (∀ b ∈ x, b ≠ c) → Lib.indexByte (x ++ c :: r) c = x.length
  | [], r, _ => by unfold Lib.indexByte; simp
  | b :: x, r, h => by
    have ih := idx_hit c x r (fun d hd => h d (by simp [hd]))
    rw [List.cons_append]
    unfold Lib.indexByte
    have hb : (b == c) = false := by simpa using h b (by simp)
    rw [hb, ih]
    have hne : ((x.length : Int) == -1) = false := by rw [beq_eq_false_iff_ne]; omega
    rw [hne]
    simp
theorem parts_at (c : UInt8) : ∀ (s : List UInt8), (∀ b ∈ s, b ≠ c) ∨ ∃ x r, s = x ++ c :: r ∧ ∀ b ∈ x, b ≠ c
  | [] => Or.inl (fun b hb => by cases hb)
  | b :: s => by
    by_cases h : b = c
    · subst h; exact Or.inr ⟨[], s, rfl, fun d hd => by cases hd⟩
    · rcases parts_at c s with h1 | ⟨x, r, rfl, h1⟩
      · exact Or.inl (fun d hd => by rcases List.mem_cons.1 hd with rfl | hd; exact h; exact h1 d hd)
      · exact Or.inr ⟨b :: x, r, rfl, fun d hd => by rcases List.mem_cons.1 hd with rfl | hd; exact h; exact h1 d hd⟩

theorem split_joinC (c : UInt8) : ∀ (xs : List (List UInt8)), xs ≠ [] → (∀ x ∈ xs, ∀ b ∈ x, b ≠ c) → Lib.splitK [c] 0 (Lib.count (Lib.join xs [c]) [c]) (Lib.join xs [c]) = xs
  | [], h, _ => absurd rfl h
  | [x], _, h => by
    rw [Lib.join_one]
    have hi : Lib.index x [c] = -1 := by rw [Lib.index_one]; exact idx_miss c x (h x (by simp))
    rw [Lib.count_miss hi]
    rfl
  | x :: y :: r, _, h => by
    have ej : Lib.join (x :: y :: r) [c] = x ++ c :: Lib.join (y :: r) [c] := by simp [Lib.join, List.intercalate]
    have hi : Lib.index (Lib.join (x :: y :: r) [c]) [c] = (x.length : Int) := by rw [ej, Lib.index_one]; exact idx_hit c x _ (h x (by simp))
    have hc := Lib.count_hit (s := Lib.join (x :: y :: r) [c]) (sub := [c]) (by simp) hi
    have hd : (Lib.join (x :: y :: r) [c]).drop (x.length + ([c] : List UInt8).length) = Lib.join (y :: r) [c] := by
      rw [ej, List.length_singleton, ← List.drop_drop, List.drop_left]; rfl
    have ht : (Lib.join (x :: y :: r) [c]).take (x.length + 0) = x := by rw [ej, Nat.add_zero, List.take_left]
    rw [hd] at hc
    rw [hc, Nat.add_comm, Lib.splitK]
    have hne : (Lib.index (Lib.join (x :: y :: r) [c]) [c] == -1) = false := by rw [hi, beq_eq_false_iff_ne]; omega
    rw [hne]
    simp only [Bool.false_eq_true, if_false, hi, Int.toNat_natCast]
    rw [ht, hd, split_joinC c (y :: r) (by simp) (fun z hz => h z (by simp [hz]))]

theorem splitK_ne (c : UInt8) : ∀ (k : Nat) (s : List UInt8), Lib.splitK [c] 0 k s ≠ []
  | 0, s => by simp [Lib.splitK]
  | k + 1, s => by unfold Lib.splitK; split <;> simp
theorem join_split (c : UInt8) : ∀ (k : Nat) (s : List UInt8), Lib.join (Lib.splitK [c] 0 k s) [c] = s
  | 0, s => by simp [Lib.splitK, Lib.join_one]
  | k + 1, s => by
    unfold Lib.splitK
    split
    · rw [Lib.join_one]
    · rename_i h
      rcases parts_at c s with h1 | ⟨x, r, rfl, h1⟩
      · exact absurd (by rw [Lib.index_one, idx_miss c s h1]; rfl) h
      · have hi : Lib.index (x ++ c :: r) [c] = (x.length : Int) := by rw [Lib.index_one]; exact idx_hit c x r h1
        rw [hi, Int.toNat_natCast, Nat.add_zero, List.take_left]
        have hd : (x ++ c :: r).drop (x.length + ([c] : List UInt8).length) = r := by
          rw [List.length_singleton, ← List.drop_drop, List.drop_left]; rfl
        rw [hd]
        have hs := join_split c k r
        cases hq : Lib.splitK [c] 0 k r with
        | nil => exact absurd hq (splitK_ne c k r)
        | cons y t =>
          rw [hq] at hs
          have ej : Lib.join (x :: y :: t) [c] = x ++ c :: Lib.join (y :: t) [c] := by simp [Lib.join, List.intercalate]
          rw [ej, hs]

/-- Pieces joined by a sign. -/
def joinB (c : UInt8) (xs : List ByteArray) : ByteArray := ⟨(Lib.join (xs.map (·.data.toList)) [c]).toArray⟩
theorem joinB_data (c : UInt8) (xs : List ByteArray) : (joinB c xs).data.toList = Lib.join (xs.map (·.data.toList)) [c] := by simp [joinB]
theorem spl_data (c : UInt8) (s : ByteArray) : (spl c s).map (·.data.toList) = Lib.splitK [c] 0 (Lib.count s.data.toList [c]) s.data.toList := by
  unfold spl; rw [Lib.splitB_data]
theorem spl_join (c : UInt8) (xs : List ByteArray) (h : xs ≠ []) (hc : ∀ x ∈ xs, ∀ b ∈ x.data.toList, b ≠ c) : spl c (joinB c xs) = xs := by
  apply map_inj
  rw [spl_data, joinB_data]
  exact split_joinC c _ (by simpa using h) (fun x hx b hb => by
    obtain ⟨y, hy, rfl⟩ := List.mem_map.1 hx
    exact hc y hy b hb)
theorem join_spl (c : UInt8) (s : ByteArray) : joinB c (spl c s) = s := by
  apply data_inj
  rw [joinB_data, spl_data, join_split]

/-! The colon. -/
theorem cut_hit (x r : List UInt8) (h : ∀ b ∈ x, b ≠ 58) : Lib.cut (x ++ 58 :: r) [58] = (x, r, true) := by
  have hi : Lib.index (x ++ 58 :: r) [58] = (x.length : Int) := by rw [Lib.index_one]; exact idx_hit 58 x r h
  unfold Lib.cut
  rw [hi, if_pos (by omega), Int.toNat_natCast, List.take_left]
  have hd : (x ++ 58 :: r).drop (x.length + ([58] : List UInt8).length) = r := by
    rw [List.length_singleton, ← List.drop_drop, List.drop_left]; rfl
  rw [hd]
theorem cut_parts (s : ByteArray) (h : cutF s = true) : s = (cutH s ++ ⟨#[58]⟩) ++ cutT s := by
  rcases parts_at 58 s.data.toList with h1 | ⟨x, r, e, h1⟩
  · have hi : Lib.index s.data.toList [58] = -1 := by rw [Lib.index_one]; exact idx_miss 58 _ h1
    unfold cutF Lib.cut at h
    rw [hi, if_neg (by omega)] at h
    cases h
  · have hc := cut_hit x r h1
    apply data_inj
    unfold cutH cutT
    rw [e, hc]
    simp [ByteArray.data_append]

end Go.Proofs.YtifhlohdidfbgaaGreatDoor

/- What is printed of a transaction is read, and what is read is printed as it was. Nothing of the program. -/
namespace Go.Proofs.YtifhlohdidfbgaaGreatDoor

theorem dec_backL : ∀ (u : Nat), u < 1000000000000 → Lib.parseUint10 0 (Lib.decDigits u) = .ok u := by
  intro u
  induction u using Nat.strongRecOn with
  | ind u ih =>
    intro hu
    rw [Lib.decDigits]
    split
    · rename_i h
      have e := dig_val u h
      simp only [Lib.parseUint10, e]
      rw [if_pos (by omega), if_neg (by omega), if_neg (by omega)]
      congr 1
      omega
    · rename_i h
      have e := dig_val (u % 10) (by omega)
      have := uint_snoc (Lib.decDigits (u / 10)) 0 (u / 10) (UInt8.ofNat (48 + u % 10)) (ih (u / 10) (by omega) (by omega)) (by omega) (by omega) (by omega) (by omega)
      rw [this, e]
      congr 1
      omega
theorem atoi_backL (n : Int) (h0 : -10000000000 ≤ n) (h1 : n ≤ 10000000000) : Lib.atoiAll (Lib.itoa n) = .ok n := by
  unfold Lib.itoa
  split
  · rename_i hn
    have e := dec_backL n.natAbs (by omega)
    unfold Lib.atoiAll
    have h45 : (45 : UInt8).toNat = 45 := rfl
    simp only [h45, or_true, if_true, Lib.parseMag, dec_ne, if_false, e]
    rw [if_neg (by omega), if_neg (by omega)]
    congr 1
    first | omega | (simp; omega)
  · rename_i hn
    have e := dec_backL n.toNat (by omega)
    have hd := dec_digits n.toNat
    have hne := dec_ne n.toNat
    generalize Lib.decDigits n.toNat = l at *
    cases l with
    | nil => exact absurd rfl hne
    | cons c r =>
      have hc := hd c (by simp)
      have g1 : ¬ (c.toNat = 43 ∨ c.toNat = 45) := by omega
      have g2 : ¬ c.toNat = 45 := by omega
      have hm : Lib.parseMag (c :: r) = .ok n.toNat := by unfold Lib.parseMag; rw [if_neg hne]; exact e
      unfold Lib.atoiAll
      dsimp only
      rw [if_neg g1, hm]
      dsimp only
      rw [if_neg (by omega), if_neg (by omega), if_neg g2]
      congr 1
      omega
theorem itoa_plain (n : Int) (b : UInt8) (h : b ∈ Lib.itoa n) : b ≠ 32 ∧ b ≠ 58 ∧ b ≠ 10 := by
  have key : ∀ b : UInt8, 48 ≤ b.toNat ∧ b.toNat ≤ 57 → b ≠ 32 ∧ b ≠ 58 ∧ b ≠ 10 := fun b hb => by
    refine ⟨fun e => ?_, fun e => ?_, fun e => ?_⟩ <;> (rw [e] at hb; exact absurd hb (by decide))
  unfold Lib.itoa at h
  split at h
  · simp only [List.mem_cons] at h
    rcases h with rfl | h
    · decide
    · exact key b (dec_digits _ b h)
  · exact key b (dec_digits _ b h)

theorem textB_data (n : Int) : (textB n).data.toList = Lib.itoa n := by simp [textB]
theorem num_text (z : Int) (h : -10000000000 ≤ z ∧ z ≤ 10000000000) : numOf (textB z) = some z := by
  unfold numOf
  rw [textB_data, atoi_backL z h.1 h.2]
  simp
theorem text_num {x : ByteArray} {z : Int} (h : numOf x = some z) : x = textB z := by
  unfold numOf at h
  split at h
  · split at h
    · rename_i e
      injection h with h
      subst h
      exact (ba_list e).symm
    · cases h
  · cases h

/-! Rows. -/
theorem row_fold : ∀ (Z : List Int) (word : ByteArray), (rowB word Z).data.toList = word.data.toList ++ ((Z.map textB).map (fun x => 32 :: x.data.toList)).flatten
  | [], word => by simp [rowB]
  | z :: r, word => by
    have ih := row_fold r (word ++ (⟨#[32]⟩ ++ textB z))
    have e : rowB word (z :: r) = rowB (word ++ (⟨#[32]⟩ ++ textB z)) r := rfl
    rw [e, ih]
    simp [ByteArray.data_append]
theorem row_join (word : ByteArray) (Z : List Int) : rowB word Z = joinB 32 (word :: Z.map textB) := by
  apply data_inj
  rw [row_fold, joinB_data, List.map_cons, Lib.join_cons, Lib.joinTail]
  simp [Function.comp_def]
theorem row_spl (word : ByteArray) (Z : List Int) (hw : ∀ b ∈ word.data.toList, b ≠ 32) : spl 32 (rowB word Z) = word :: Z.map textB := by
  rw [row_join]
  exact spl_join 32 _ (by simp) (fun x hx b hb => by
    rcases List.mem_cons.1 hx with rfl | hx
    · exact hw b hb
    · obtain ⟨z, _, rfl⟩ := List.mem_map.1 hx
      rw [textB_data] at hb
      exact (itoa_plain z b hb).1)
theorem rowOf_row (word : ByteArray) (Z : List Int) (hw : ∀ b ∈ word.data.toList, b ≠ 32) (hz : ∀ z ∈ Z, -10000000000 ≤ z ∧ z ≤ 10000000000) : rowOf (rowB word Z) word Z.length = some Z := by
  unfold rowOf
  rw [row_spl word Z hw, if_pos ⟨rfl, by simp⟩]
  show numAll (Z.map textB) = some Z
  unfold numAll
  rw [if_pos]
  · congr 1
    rw [List.map_map]
    conv => rhs; rw [← List.map_id Z]
    apply List.map_congr_left
    intro z hm
    show (numOf (textB z)).getD 0 = z
    rw [num_text z (hz z hm)]; rfl
  · rw [List.all_eq_true]
    intro x hx
    obtain ⟨z, hm, rfl⟩ := List.mem_map.1 hx
    rw [num_text z (hz z hm)]; rfl
theorem rowOf_other (word w2 : ByteArray) (Z : List Int) (n : Nat) (hw : ∀ b ∈ word.data.toList, b ≠ 32) (hne : word ≠ w2) : rowOf (rowB word Z) w2 n = none := by
  unfold rowOf
  rw [row_spl word Z hw, if_neg (fun h => hne h.1)]
theorem row_back {s word : ByteArray} {n : Nat} {Z : List Int} (h : rowOf s word n = some Z) : s = rowB word Z := by
  unfold rowOf at h
  split at h
  · rename_i h1
    have hs := join_spl 32 s
    cases hq : spl 32 s with
    | nil => have := spl_pos 32 s; rw [hq] at this; cases this
    | cons x r =>
      rw [hq] at h1 h hs
      have hx : x = word := h1.1
      subst hx
      change numAll r = some Z at h
      unfold numAll at h
      split at h
      · rename_i ha
        injection h with h
        have hr : r = Z.map textB := by
          rw [← h, List.map_map]
          conv => lhs; rw [← List.map_id r]
          apply List.map_congr_left
          intro y hy
          have hy2 := List.all_eq_true.1 ha y hy
          cases hz : numOf y with
          | none => rw [hz] at hy2; cases hy2
          | some z => show y = textB ((numOf y).getD 0); rw [hz]; exact text_num hz
        rw [row_join, ← hr]; exact hs.symm
      · cases h
  · cases h

/-! Orders. -/
theorem word_text {x : ByteArray} {q : Int × Int} (h : parseW x = some q) : x = opText q := by
  unfold parseW at h
  cases hn : numOf x with
  | some n =>
    rw [hn] at h
    injection h with h
    subst h
    rw [text_num hn]
    simp [opText, textB]
  | none =>
    rw [hn] at h
    cases hk : kindOf x with
    | none => rw [hk] at h; cases h
    | some k =>
      rw [hk] at h
      injection h with h
      subst h
      unfold kindOf at hk
      have h1 := List.find?_some hk
      have h2 := List.mem_of_find?_eq_some hk
      have h3 : k ≠ 1 := fun e => by subst e; revert h2; decide
      have h4 : (nameB k).toList = x.toList := by simpa using h1
      have h5 : opText ((k : Int), 0) = nameB k := by
        unfold opText
        rw [if_neg (by show ¬ (k : Int) = 1; omega)]
        show nameB ((k : Int).toNat) = _
        rw [Int.toNat_natCast]
      rw [h5]; exact (ba_list h4).symm
theorem words_text : ∀ {ws : List ByteArray} {l : List (Int × Int)}, parseAll ws = some l → ws = l.map opText
  | [], l, h => by simp only [parseAll] at h; injection h with h; subst h; rfl
  | x :: r, l, h => by
    simp only [parseAll] at h
    cases hx : parseW x with
    | none => rw [hx] at h; cases h
    | some q =>
      cases hr : parseAll r with
      | none => rw [hx, hr] at h; cases h
      | some m =>
        rw [hx, hr] at h
        injection h with h
        subst h
        rw [List.map_cons, ← word_text hx, ← words_text hr]
theorem ops_back {s : ByteArray} (h : prE s = 0) : opsText (prL s) = s := by
  unfold prE at h
  unfold prL
  split at h
  · cases h
  · rename_i hs
    rw [if_neg hs]
    cases hp : parseAll (wordsOf s) with
    | none => rw [hp] at h; cases h
    | some l =>
      rw [hp] at h
      change chk l = 0 at h
      show opsText (if chk l = 0 then l else []) = s
      rw [if_pos h]
      have hw := words_text hp
      unfold wordsOf at hw
      split at hw
      · rename_i h0
        have e : l = [] := by cases l with | nil => rfl | cons _ _ => cases hw
        subst e
        cases s with
        | mk d =>
          have : d = #[] := Array.eq_empty_of_size_eq_zero h0
          rw [this]; rfl
      · have e : opsText l = joinB 32 (spl 32 s) := by
          show joinB 32 (l.map opText) = _
          rw [← hw]; rfl
        rw [e]; exact join_spl 32 s

/-! Lines. -/
def lineT (word : ByteArray) (Z : List Int) (l : List (Int × Int)) : ByteArray := (rowB word Z ++ ⟨#[58]⟩) ++ opsText l
theorem row_free (word : ByteArray) (Z : List Int) (c : UInt8) (hw : ∀ b ∈ word.data.toList, b ≠ c) (hc : c = 58 ∨ c = 10) : ∀ b ∈ (rowB word Z).data.toList, b ≠ c := by
  intro b hb
  rw [row_fold] at hb
  rcases List.mem_append.1 hb with hb | hb
  · exact hw b hb
  · obtain ⟨y, hy, hb⟩ := List.mem_flatten.1 hb
    obtain ⟨x, hx, rfl⟩ := List.mem_map.1 hy
    obtain ⟨z, _, rfl⟩ := List.mem_map.1 hx
    rcases List.mem_cons.1 hb with rfl | hb
    · rcases hc with rfl | rfl <;> decide
    · rw [textB_data] at hb
      rcases hc with rfl | rfl
      · exact (itoa_plain z b hb).2.1
      · exact (itoa_plain z b hb).2.2
theorem line_cut (word : ByteArray) (Z : List Int) (l : List (Int × Int)) (hw : ∀ b ∈ word.data.toList, b ≠ 58) : cutH (lineT word Z l) = rowB word Z ∧ cutT (lineT word Z l) = opsText l ∧ cutF (lineT word Z l) = true := by
  have e : (lineT word Z l).data.toList = (rowB word Z).data.toList ++ 58 :: (opsText l).data.toList := by simp [lineT, ByteArray.data_append]
  have hc := cut_hit (rowB word Z).data.toList (opsText l).data.toList (row_free word Z 58 hw (Or.inl rfl))
  unfold cutH cutT cutF
  rw [e, hc]
  exact ⟨data_inj (by simp), data_inj (by simp), rfl⟩
theorem lineOf_line (word : ByteArray) (Z : List Int) (l : List (Int × Int)) (hw : ∀ b ∈ word.data.toList, b ≠ 32 ∧ b ≠ 58) (hz : ∀ z ∈ Z, -10000000000 ≤ z ∧ z ≤ 10000000000) (hl : chk l = 0) : lineOf (lineT word Z l) word Z.length = some (Z, l) := by
  obtain ⟨h1, h2, h3⟩ := line_cut word Z l (fun b hb => (hw b hb).2)
  obtain ⟨r1, r2⟩ := read_back l hl
  unfold lineOf
  rw [h3, h1, h2, rowOf_row word Z (fun b hb => (hw b hb).1) hz]
  show (if prE (opsText l) = 0 then some (Z, prL (opsText l)) else none) = _
  rw [if_pos r1, r2]
theorem lineOf_other (word w2 : ByteArray) (Z : List Int) (l : List (Int × Int)) (n : Nat) (hw : ∀ b ∈ word.data.toList, b ≠ 32 ∧ b ≠ 58) (hne : word ≠ w2) : lineOf (lineT word Z l) w2 n = none := by
  obtain ⟨h1, h2, h3⟩ := line_cut word Z l (fun b hb => (hw b hb).2)
  unfold lineOf
  rw [h3, h1, rowOf_other word w2 Z n (fun b hb => (hw b hb).1) hne]
  rfl
theorem line_back {s word : ByteArray} {n : Nat} {Z : List Int} {L : List (Int × Int)} (h : lineOf s word n = some (Z, L)) : s = lineT word Z L := by
  unfold lineOf at h
  split at h
  · rename_i hf
    cases hr : rowOf (cutH s) word n with
    | none => rw [hr] at h; cases h
    | some Y =>
      rw [hr] at h
      change (if prE (cutT s) = 0 then some (Y, prL (cutT s)) else none) = _ at h
      split at h
      · rename_i hp
        injection h with h
        injection h with h1 h2
        subst h1 h2
        have hs := cut_parts s hf
        unfold lineT
        rw [ops_back hp, ← row_back hr]
        exact hs
      · cases h
  · cases h

end Go.Proofs.YtifhlohdidfbgaaGreatDoor

/- The text of a transaction and its lines: there and back. Nothing of the program. -/
namespace Go.Proofs.YtifhlohdidfbgaaGreatDoor

def inL (x : InD) : ByteArray := lineT inB [x.1, x.2.1] x.2.2
def outL (x : OutD) : ByteArray := lineT outB [x.1] x.2
def endN (s x : ByteArray) : ByteArray := s ++ (x ++ ⟨#[10]⟩)

theorem join_fold : ∀ (ls : List ByteArray) (s : ByteArray), (ls.foldl endN (s ++ ⟨#[10]⟩)).data.toList = s.data.toList ++ (ls.map (fun x => 10 :: x.data.toList)).flatten ++ [10]
  | [], s => by simp [ByteArray.data_append]
  | x :: r, s => by
    have e : (x :: r).foldl endN (s ++ ⟨#[10]⟩) = r.foldl endN (((s ++ ⟨#[10]⟩) ++ x) ++ ⟨#[10]⟩) := by
      show r.foldl endN ((s ++ ⟨#[10]⟩) ++ (x ++ ⟨#[10]⟩)) = _
      congr 1
      exact data_inj (by simp [ByteArray.data_append])
    rw [e, join_fold r]
    simp [ByteArray.data_append]
theorem fold_join (l0 : ByteArray) (ls : List ByteArray) : ls.foldl endN (l0 ++ ⟨#[10]⟩) = joinB 10 (l0 :: ls) ++ ⟨#[10]⟩ := by
  apply data_inj
  rw [join_fold, ByteArray.data_append, Array.toList_append, joinB_data, List.map_cons, Lib.join_cons, Lib.joinTail]
  simp [Function.comp_def]

theorem ins_fold (h : Int) (I : List InD) : insText h I = (I.map inL).foldl endN (headText h) := by
  unfold insText; rw [List.foldl_map]; rfl
theorem outs_fold (t : ByteArray) (O : List OutD) : outsText t O = (O.map outL).foldl endN t := by
  unfold outsText; rw [List.foldl_map]; rfl
theorem txText_lines (h : Int) (I : List InD) (O : List OutD) : txText (h, I, O) = joinB 10 (rowB txB [h] :: (I.map inL ++ O.map outL)) ++ ⟨#[10]⟩ := by
  rw [← fold_join, List.foldl_append]
  show outsText (insText h I) O = _
  rw [outs_fold, ins_fold]; rfl

/-! The last line feed. -/
theorem ext_list (s : ByteArray) (i j : Nat) : (s.extract i j).data.toList = (s.data.toList.drop i).take (j - i) := by
  rw [ByteArray.data_extract, Array.toList_extract]
theorem size_list (s : ByteArray) : s.size = s.data.toList.length := by rw [Array.length_toList]; rfl
theorem ends_data (X : ByteArray) : endsB (X ++ ⟨#[10]⟩) = true ∧ bodyB (X ++ ⟨#[10]⟩) = X := by
  have hsz : (X ++ (⟨#[10]⟩ : ByteArray)).size = X.data.toList.length + 1 := by rw [size_one X 10, size_list]
  have hd : (X ++ (⟨#[10]⟩ : ByteArray)).data.toList = X.data.toList ++ [10] := by rw [ByteArray.data_append, Array.toList_append]
  have e1 : endsB (X ++ ⟨#[10]⟩) = true := by
    unfold endsB lastB
    rw [decide_eq_true (by omega), hsz, ByteArray.toList_eq, ext_list, hd, Nat.add_sub_cancel, List.drop_left]
    have : X.data.toList.length + 1 - X.data.toList.length = 1 := by omega
    rw [this]
    rfl
  refine ⟨e1, ?_⟩
  unfold bodyB
  rw [e1]
  show frontB _ = X
  unfold frontB
  apply data_inj
  rw [ext_list, hsz, hd, Nat.add_sub_cancel, List.drop_zero, Nat.sub_zero, List.take_left]
theorem ends_back (s : ByteArray) (h : endsB s = true) : s = bodyB s ++ ⟨#[10]⟩ := by
  unfold bodyB
  rw [h]
  show s = frontB s ++ ⟨#[10]⟩
  unfold endsB lastB at h
  simp only [Bool.and_eq_true, decide_eq_true_eq] at h
  obtain ⟨h0, h1⟩ := h
  have h2 : (s.extract (s.size - 1) s.size).toList = [10] := by simpa using h1
  rw [ByteArray.toList_eq, ext_list] at h2
  apply data_inj
  unfold frontB
  rw [ByteArray.data_append, Array.toList_append, ext_list, List.drop_zero, Nat.sub_zero]
  show s.data.toList = _ ++ [10]
  have h3 : (s.data.toList.drop (s.size - 1)).take (s.size - (s.size - 1)) = s.data.toList.drop (s.size - 1) := by
    apply List.take_of_length_le
    rw [List.length_drop, ← size_list]; omega
  rw [h3] at h2
  rw [← h2, List.take_append_drop]

/-! Signs in the texts. -/
theorem opText_free (q : Int × Int) (h : chk1 q = 0) : ∀ b ∈ (opText q).data.toList, b ≠ 10 := by
  intro b hb
  unfold opText at hb
  split at hb
  · have hb2 : b ∈ Lib.itoa q.2 := by simpa using hb
    exact (itoa_plain _ b hb2).2.2
  · have hk : 1 ≤ q.1 ∧ q.1 ≤ 13 := by
      obtain ⟨k, n⟩ := q
      simp only [chk1] at h
      split at h
      · cases h
      · simp only; omega
    have all : ∀ j : Fin 14, ∀ b ∈ (nameB j.val).data.toList, b ≠ 10 := by decide +kernel
    exact all ⟨q.1.toNat, by omega⟩ b hb
theorem ops_free (l : List (Int × Int)) (h : chk l = 0) : ∀ b ∈ (opsText l).data.toList, b ≠ 10 := by
  have hL : chkL l = 0 := by
    unfold chk at h
    split at h
    · cases h
    · exact h
  have hall : ∀ o ∈ l, chk1 o = 0 := fun o ho => by
    obtain ⟨i, hi, rfl⟩ := List.getElem_of_mem ho
    exact chkL_all hL i hi
  intro b hb
  have hd : (opsText l).data.toList = Lib.join ((l.map opText).map (·.data.toList)) [32] := by simp [opsText]
  rw [hd] at hb
  cases l with
  | nil => cases hb
  | cons o r =>
    rw [List.map_cons, List.map_cons, Lib.join_cons, Lib.joinTail] at hb
    rcases List.mem_append.1 hb with hb | hb
    · exact opText_free o (hall o (by simp)) b hb
    · obtain ⟨y, hy, hb⟩ := List.mem_flatten.1 hb
      obtain ⟨x, hx, rfl⟩ := List.mem_map.1 hy
      obtain ⟨z, hz, rfl⟩ := List.mem_map.1 hx
      obtain ⟨q, hq, rfl⟩ := List.mem_map.1 hz
      rcases List.mem_append.1 hb with hb | hb
      · have : b = 32 := by simpa using hb
        subst this; decide
      · exact opText_free q (hall q (by simp [hq])) b hb
theorem line_free (word : ByteArray) (Z : List Int) (l : List (Int × Int)) (hw : ∀ b ∈ word.data.toList, b ≠ 10) (hl : chk l = 0) : ∀ b ∈ (lineT word Z l).data.toList, b ≠ 10 := by
  intro b hb
  have e : (lineT word Z l).data.toList = (rowB word Z).data.toList ++ 58 :: (opsText l).data.toList := by simp [lineT, ByteArray.data_append]
  rw [e] at hb
  rcases List.mem_append.1 hb with hb | hb
  · exact row_free word Z 10 hw (Or.inr rfl) b hb
  · rcases List.mem_cons.1 hb with rfl | hb
    · decide
    · exact ops_free l hl b hb

theorem tx_signs : (∀ b ∈ txB.data.toList, b ≠ 32 ∧ b ≠ 58 ∧ b ≠ 10) ∧ (∀ b ∈ inB.data.toList, b ≠ 32 ∧ b ≠ 58 ∧ b ≠ 10) ∧ (∀ b ∈ outB.data.toList, b ≠ 32 ∧ b ≠ 58 ∧ b ≠ 10) := by decide +kernel
theorem out_in : outB ≠ inB := by decide +kernel

/-! Lines that were written are read. -/
theorem fold_ins (h : Int) (R : List ByteArray) : ∀ (I P : List InD), (∀ x ∈ I, ptOk x = true ∧ chk x.2.2 = 0) → foldTx (h, P, []) (I.map inL ++ R) = foldTx (h, P ++ I, []) R
  | [], P, _ => by simp
  | x :: r, P, hI => by
    have hx := hI x (by simp)
    have hp := (ptOk_iff x).1 hx.1
    have hl : lineOf (inL x) inB 2 = some ([x.1, x.2.1], x.2.2) := lineOf_line inB [x.1, x.2.1] x.2.2 (fun b hb => ⟨(tx_signs.2.1 b hb).1, (tx_signs.2.1 b hb).2.1⟩) (fun z hz => by simp at hz; omega) hx.2
    have hs : stepLn (h, P, []) (inL x) = some (h, P ++ [x], []) := by
      unfold stepLn
      rw [hl]
      rfl
    rw [List.map_cons, List.cons_append, foldTx, hs]
    show foldTx (h, P ++ [x], []) (r.map inL ++ R) = _
    rw [fold_ins h R r (P ++ [x]) (fun y hy => hI y (by simp [hy]))]
    simp
theorem fold_outs (h : Int) (P : List InD) : ∀ (O Q : List OutD), (∀ x ∈ O, (1 ≤ x.1 ∧ x.1 ≤ 1000000000) ∧ chk x.2 = 0) → foldTx (h, P, Q) (O.map outL) = some (h, P, Q ++ O)
  | [], Q, _ => by simp [foldTx]
  | x :: r, Q, hO => by
    have hx := hO x (by simp)
    have hl : lineOf (outL x) outB 1 = some ([x.1], x.2) := lineOf_line outB [x.1] x.2 (fun b hb => ⟨(tx_signs.2.2 b hb).1, (tx_signs.2.2 b hb).2.1⟩) (fun z hz => by simp at hz; omega) hx.2
    have hn : lineOf (outL x) inB 2 = none := lineOf_other outB inB [x.1] x.2 2 (fun b hb => ⟨(tx_signs.2.2 b hb).1, (tx_signs.2.2 b hb).2.1⟩) out_in
    have hs : stepLn (h, P, Q) (outL x) = some (h, P, Q ++ [x]) := by
      unfold stepLn
      rw [hn]
      show outStep (h, P, Q) (outL x) = _
      unfold outStep
      rw [hl]
      rfl
    rw [List.map_cons, foldTx, hs]
    show foldTx (h, P, Q ++ [x]) (r.map outL) = _
    rw [fold_outs h P r (Q ++ [x]) (fun y hy => hO y (by simp [hy]))]
    simp

/-- What is printed of a right transaction is read. -/
theorem tx_back (t : TxD) (hx : chkTx t = 0) : linesTx (txText t) = some t := by
  obtain ⟨h, I, O⟩ := t
  have ok := TxOk.of hx
  have e := txText_lines h I O
  obtain ⟨X, hX⟩ : ∃ X, joinB 10 (rowB txB [h] :: (I.map inL ++ O.map outL)) = X := ⟨_, rfl⟩
  rw [hX] at e
  obtain ⟨e1, e2⟩ := ends_data X
  have e3 : linesOf (X ++ ⟨#[10]⟩) = rowB txB [h] :: (I.map inL ++ O.map outL) := by
    unfold linesOf
    rw [e2, ← hX]
    refine spl_join 10 _ (by simp) (fun x hx b hb => ?_)
    rcases List.mem_cons.1 hx with rfl | hx
    · exact row_free txB [h] 10 (fun b hb => (tx_signs.1 b hb).2.2) (Or.inr rfl) b hb
    · rcases List.mem_append.1 hx with hx | hx
      · obtain ⟨y, hy, rfl⟩ := List.mem_map.1 hx
        exact line_free inB _ _ (fun b hb => (tx_signs.2.1 b hb).2.2) (ok.ins y hy).2 b hb
      · obtain ⟨y, hy, rfl⟩ := List.mem_map.1 hx
        exact line_free outB _ _ (fun b hb => (tx_signs.2.2 b hb).2.2) (ok.outs y hy).2 b hb
  have hg := ok.hgt
  have e4 : rowOf (rowB txB [h]) txB 1 = some [h] := rowOf_row txB [h] (fun b hb => (tx_signs.1 b hb).1) (fun z hz => by simp at hz; simp only at hg; omega)
  rw [e]
  unfold linesTx
  rw [e1, e3]
  show (match rowOf (rowB txB [h]) txB 1 with | some Z => foldTx (Z.getD 0 0, [], []) (I.map inL ++ O.map outL) | none => none) = _
  rw [e4]
  show foldTx (h, [], []) (I.map inL ++ O.map outL) = _
  rw [fold_ins h _ I [] ok.ins, fold_outs h _ O [] ok.outs]
  simp

/-- Unlike right transactions have unlike texts. -/
theorem tx_unlike (t u : TxD) (ht : chkTx t = 0) (hu : chkTx u = 0) (e : txText t = txText u) : t = u := by
  have h1 := tx_back t ht
  rw [e, tx_back u hu] at h1
  injection h1 with h1
  exact h1.symm

/-! Lines that are read were written. -/
theorem fold_text : ∀ (ls : List ByteArray) (t u : TxD), foldTx t ls = some u → txText u = ls.foldl endN (txText t)
  | [], t, u, h => by simp only [foldTx] at h; injection h with h; subst h; rfl
  | x :: r, t, u, h => by
    obtain ⟨hh, I, O⟩ := t
    simp only [foldTx] at h
    have out : ∀ v, outStep (hh, I, O) x = some v → txText v = endN (txText (hh, I, O)) x := fun v hv => by
      unfold outStep at hv
      cases hl : lineOf x outB 1 with
      | none => rw [hl] at hv; cases hv
      | some ZL =>
        obtain ⟨Z, L⟩ := ZL
        rw [hl] at hv
        injection hv with hv
        subst hv
        obtain ⟨z, rfl⟩ := List.length_eq_one_iff.1 (lineOf_len hl)
        have hx := line_back hl
        show outsText (insText hh I) (O ++ [(z, L)]) = _
        rw [outsText_snoc]
        show outsText (insText hh I) O ++ outText (z, L) = endN (outsText (insText hh I) O) x
        rw [hx]; rfl
    have step : ∀ v, stepLn (hh, I, O) x = some v → txText v = endN (txText (hh, I, O)) x := fun v hv => by
      unfold stepLn at hv
      cases hl : lineOf x inB 2 with
      | none => rw [hl] at hv; exact out v hv
      | some ZL =>
        obtain ⟨Z, L⟩ := ZL
        rw [hl] at hv
        change (if O.length = 0 then some (hh, I ++ [(Z.getD 0 0, Z.getD 1 0, L)], O) else outStep (hh, I, O) x) = some v at hv
        split at hv
        · rename_i h0
          have e0 : O = [] := List.length_eq_zero_iff.1 h0
          subst e0
          injection hv with hv
          subst hv
          have hz := lineOf_len hl
          obtain ⟨z1, z2, rfl⟩ : ∃ z1 z2, Z = [z1, z2] := by
            match Z, hz with
            | [a, b], _ => exact ⟨a, b, rfl⟩
          have hx := line_back hl
          show insText hh (I ++ [(z1, z2, L)]) = _
          rw [insText_snoc]
          show insText hh I ++ inText (z1, z2, L) = endN (insText hh I) x
          rw [hx]; rfl
        · exact out v hv
    cases hs : stepLn (hh, I, O) x with
    | none => rw [hs] at h; cases h
    | some v =>
      rw [hs] at h
      change foldTx v r = some u at h
      rw [fold_text r v u h, step v hs]
      rfl

/-- What is read as a transaction is its text. -/
theorem tx_text (s : ByteArray) (t : TxD) (h : linesTx s = some t) : txText t = s := by
  unfold linesTx at h
  split at h
  · rename_i he
    cases hr : rowOf ((linesOf s).getD 0 ⟨#[]⟩) txB 1 with
    | none => rw [hr] at h; cases h
    | some Z =>
      rw [hr] at h
      obtain ⟨z, rfl⟩ := List.length_eq_one_iff.1 (rowOf_len hr)
      change foldTx (z, [], []) ((linesOf s).drop 1) = some t at h
      have hs := ends_back s he
      have hj : joinB 10 (linesOf s) = bodyB s := join_spl 10 (bodyB s)
      cases hq : linesOf s with
      | nil => have := spl_pos 10 (bodyB s); change 0 < (linesOf s).length at this; rw [hq] at this; cases this
      | cons l0 ls =>
        rw [hq] at h hr hj
        have h0 : l0 = rowB txB [z] := row_back hr
        have hf := fold_text ls (z, [], []) t h
        rw [hf]
        show ls.foldl endN (headText z) = s
        have e : headText z = l0 ++ ⟨#[10]⟩ := by rw [h0]; rfl
        rw [e, fold_join, hj]
        exact hs.symm
  · cases h

end Go.Proofs.YtifhlohdidfbgaaGreatDoor

/- Blocks that are right and unlike have unlike texts. -/
namespace Go.Proofs.YtifhlohdidfbgaaGreatDoor
open Go.RowKit

/-- Lines, each with its end. -/
def unl (ls : List (List UInt8)) : List UInt8 := (ls.map (· ++ [10])).flatten
theorem unl_cons (x : List UInt8) (ls : List (List UInt8)) : unl (x :: ls) = x ++ 10 :: unl ls := by simp [unl]
theorem unl_append (a b : List (List UInt8)) : unl (a ++ b) = unl a ++ unl b := by simp [unl]
theorem first_end : ∀ (x y r s : List UInt8), (∀ b ∈ x, b ≠ 10) → (∀ b ∈ y, b ≠ 10) → x ++ 10 :: r = y ++ 10 :: s → x = y ∧ r = s
  | [], [], r, s, _, _, h => by simpa using h
  | [], b :: y, r, s, _, hy, h => by
    simp at h
    exact absurd h.1.symm (hy b (by simp))
  | a :: x, [], r, s, hx, _, h => by
    simp at h
    exact absurd h.1 (hx a (by simp))
  | a :: x, b :: y, r, s, hx, hy, h => by
    simp only [List.cons_append, List.cons.injEq] at h
    obtain ⟨h1, h2⟩ := first_end x y r s (fun b hb => hx b (by simp [hb])) (fun b hb => hy b (by simp [hb])) h.2
    exact ⟨by rw [h.1, h1], h2⟩
theorem unl_inj : ∀ (a b : List (List UInt8)), (∀ x ∈ a, ∀ c ∈ x, c ≠ 10) → (∀ x ∈ b, ∀ c ∈ x, c ≠ 10) → unl a = unl b → a = b
  | [], [], _, _, _ => rfl
  | [], y :: b, _, _, h => by rw [unl_cons] at h; simp [unl] at h
  | x :: a, [], _, _, h => by rw [unl_cons] at h; simp [unl] at h
  | x :: a, y :: b, ha, hb, h => by
    rw [unl_cons, unl_cons] at h
    obtain ⟨h1, h2⟩ := first_end x y _ _ (ha x (by simp)) (hb y (by simp)) h
    rw [h1, unl_inj a b (fun z hz => ha z (by simp [hz])) (fun z hz => hb z (by simp [hz])) h2]
theorem join_unl : ∀ (x : List UInt8) (ls : List (List UInt8)), Lib.join (x :: ls) [10] ++ [10] = unl (x :: ls)
  | x, [] => by simp [Lib.join, unl]
  | x, y :: ls => by
    have := join_unl y ls
    rw [unl_cons, ← this]
    simp [Lib.join]

/-- The lines of a transaction's text. -/
def lnsT (t : TxD) : List (List UInt8) := (rowB txB [t.1] :: (t.2.1.map inL ++ t.2.2.map outL)).map (·.data.toList)
theorem tx_unl (t : TxD) : (txText t).data.toList = unl (lnsT t) := by
  obtain ⟨h, I, O⟩ := t
  rw [txText_lines]
  show (joinB 10 (rowB txB [h] :: (I.map inL ++ O.map outL)) ++ ⟨#[10]⟩ : ByteArray).data.toList = _
  have e : (joinB 10 (rowB txB [h] :: (I.map inL ++ O.map outL)) ++ ⟨#[10]⟩ : ByteArray).data.toList = (joinB 10 (rowB txB [h] :: (I.map inL ++ O.map outL))).data.toList ++ [10] := by simp [ByteArray.data_append]
  rw [e, joinB_data]
  exact join_unl _ _
def hd1 (x : List UInt8) : Option UInt8 := x.head?
theorem row_head (word : ByteArray) (Z : List Int) (c : UInt8) (h : word.data.toList.head? = some c) : (rowB word Z).data.toList.head? = some c := by
  rw [row_fold]
  cases hw : word.data.toList with
  | nil => rw [hw] at h; cases h
  | cons a r => rw [hw] at h; simpa using h
theorem line_head (word : ByteArray) (Z : List Int) (l : List (Int × Int)) (c : UInt8) (h : word.data.toList.head? = some c) : (lineT word Z l).data.toList.head? = some c := by
  have := row_head word Z c h
  unfold lineT
  cases hr : (rowB word Z).data.toList with
  | nil => rw [hr] at this; cases this
  | cons a r =>
    rw [hr] at this
    simp [ByteArray.data_append, hr] at this ⊢
    exact this
/-- The first line, and the others: none of them opens as it does. -/
theorem lns_split (t : TxD) : ∃ x r, lnsT t = x :: r ∧ x.head? = some 116 ∧ ∀ y ∈ r, y.head? ≠ some 116 := by
  refine ⟨_, _, rfl, row_head txB _ 116 rfl, fun y hy => ?_⟩
  obtain ⟨z, hz, rfl⟩ := List.mem_map.1 hy
  rcases List.mem_append.1 hz with hz | hz
  · obtain ⟨i, _, rfl⟩ := List.mem_map.1 hz
    rw [show (inL i).data.toList.head? = some 105 from line_head inB _ _ 105 rfl]
    decide
  · obtain ⟨i, _, rfl⟩ := List.mem_map.1 hz
    rw [show (outL i).data.toList.head? = some 111 from line_head outB _ _ 111 rfl]
    decide
theorem cut_alike {α : Type} (P : α → Prop) : ∀ (a b r s : List α), (∀ x ∈ a, ¬ P x) → (∀ x ∈ b, ¬ P x) → (∀ x, r.head? = some x → P x) → (∀ x, s.head? = some x → P x) → a ++ r = b ++ s → a = b ∧ r = s
  | [], [], r, s, _, _, _, _, h => by simpa using h
  | [], y :: b, r, s, _, hb, hr, _, h => by
    simp only [List.nil_append, List.cons_append] at h
    exact absurd (hr y (by rw [h]; rfl)) (hb y (by simp))
  | x :: a, [], r, s, ha, _, _, hs, h => by
    simp only [List.nil_append, List.cons_append] at h
    exact absurd (hs x (by rw [← h]; rfl)) (ha x (by simp))
  | x :: a, y :: b, r, s, ha, hb, hr, hs, h => by
    simp only [List.cons_append, List.cons.injEq] at h
    obtain ⟨h1, h2⟩ := cut_alike P a b r s (fun z hz => ha z (by simp [hz])) (fun z hz => hb z (by simp [hz])) hr hs h.2
    exact ⟨by rw [h.1, h1], h2⟩
def lnsTs (T : List TxD) : List (List UInt8) := (T.map lnsT).flatten
theorem lnsTs_head (T : List TxD) : ∀ x, (lnsTs T).head? = some x → x.head? = some 116 := by
  intro x hx
  cases T with
  | nil => simp [lnsTs] at hx
  | cons t T =>
    obtain ⟨y, r, e, h1, _⟩ := lns_split t
    simp [lnsTs, e] at hx
    rw [← hx]
    exact h1
theorem lnsT_inj {t u : TxD} (ht : chkTx t = 0) (hu : chkTx u = 0) (e : lnsT t = lnsT u) : t = u :=
  tx_unlike t u ht hu (ba_ext (by rw [tx_unl, tx_unl, e]))
theorem lnsTs_inj : ∀ (T U : List TxD), (∀ t ∈ T, chkTx t = 0) → (∀ t ∈ U, chkTx t = 0) → lnsTs T = lnsTs U → T = U
  | [], [], _, _, _ => rfl
  | [], u :: U, _, _, h => by
    obtain ⟨y, r, e, _⟩ := lns_split u
    simp [lnsTs, e] at h
  | t :: T, [], _, _, h => by
    obtain ⟨y, r, e, _⟩ := lns_split t
    simp [lnsTs, e] at h
  | t :: T, u :: U, hT, hU, h => by
    obtain ⟨x, r, e1, _, h2⟩ := lns_split t
    obtain ⟨y, s, e2, _, g2⟩ := lns_split u
    have h : lnsT t ++ lnsTs T = lnsT u ++ lnsTs U := h
    have h0 := h
    rw [e1, e2, List.cons_append, List.cons_append, List.cons.injEq] at h
    obtain ⟨q1, q2⟩ := cut_alike (fun z : List UInt8 => z.head? = some 116) r s _ _ h2 g2 (lnsTs_head T) (lnsTs_head U) h.2
    have e : lnsT t = lnsT u := by rw [e1, e2, h.1, q1]
    rw [lnsT_inj (hT t (by simp)) (hU u (by simp)) e, lnsTs_inj T U (fun z hz => hT z (by simp [hz])) (fun z hz => hU z (by simp [hz])) q2]
theorem txs_unl : ∀ (T : List TxD), (txsText T).data.toList = unl (lnsTs T)
  | [] => rfl
  | t :: T => by
    rw [txsText, show lnsTs (t :: T) = lnsT t ++ lnsTs T from rfl, unl_append]
    simp [ByteArray.data_append, tx_unl, txs_unl T]
theorem lns_free {t : TxD} (h : chkTx t = 0) : ∀ x ∈ lnsT t, ∀ c ∈ x, c ≠ 10 := by
  intro x hx
  obtain ⟨z, hz, rfl⟩ := List.mem_map.1 hx
  have ok := TxOk.of h
  rcases List.mem_cons.1 hz with rfl | hz
  · exact row_free txB _ 10 (fun b hb => (tx_signs.1 b hb).2.2) (.inr rfl)
  · rcases List.mem_append.1 hz with hz | hz
    · obtain ⟨i, hi, rfl⟩ := List.mem_map.1 hz
      exact line_free inB _ _ (fun b hb => (tx_signs.2.1 b hb).2.2) (ok.ins i hi).2
    · obtain ⟨i, hi, rfl⟩ := List.mem_map.1 hz
      exact line_free outB _ _ (fun b hb => (tx_signs.2.2 b hb).2.2) (ok.outs i hi).2
theorem lnsTs_free {T : List TxD} (h : ∀ t ∈ T, chkTx t = 0) : ∀ x ∈ lnsTs T, ∀ c ∈ x, c ≠ 10 := by
  intro x hx
  obtain ⟨l, hl, hx⟩ := List.mem_flatten.1 hx
  obtain ⟨t, ht, rfl⟩ := List.mem_map.1 hl
  exact lns_free (h t ht) x hx
theorem block_signs : ∀ b ∈ blockB.data.toList, b ≠ 32 ∧ b ≠ 58 ∧ b ≠ 10 := by decide +kernel
theorem blk_unl (b : BlkD) : (blkText b).data.toList = unl ((rowB blockB [b.1, b.2.1, b.2.2.1, b.2.2.2.1]).data.toList :: lnsTs b.2.2.2.2) := by
  rw [unl_cons, ← txs_unl]
  simp [blkText, ByteArray.data_append]
theorem head_fits {p h k n : Int} (f : headOk p h k n = true) : ∀ z ∈ [p, h, k, n], -10000000000 ≤ z ∧ z ≤ 10000000000 := by
  simp only [headOk, Bool.and_eq_true, decide_eq_true_eq] at f
  intro z hz
  simp only [List.mem_cons, List.not_mem_nil, or_false] at hz
  rcases hz with rfl | rfl | rfl | rfl <;> omega
theorem row_same {Z Y : List Int} (hl : Z.length = Y.length) (hz : ∀ z ∈ Z, -10000000000 ≤ z ∧ z ≤ 10000000000) (hy : ∀ z ∈ Y, -10000000000 ≤ z ∧ z ≤ 10000000000) (e : (rowB blockB Z).data.toList = (rowB blockB Y).data.toList) : Z = Y := by
  have r1 := rowOf_row blockB Z (fun b hb => (block_signs b hb).1) hz
  have r2 := rowOf_row blockB Y (fun b hb => (block_signs b hb).1) hy
  rw [ba_ext e, hl, r2] at r1
  injection r1 with r1
  exact r1.symm
theorem blk_lines {b : BlkD} (hb : ∀ t ∈ b.2.2.2.2, chkTx t = 0) : ∀ x ∈ (rowB blockB [b.1, b.2.1, b.2.2.1, b.2.2.2.1]).data.toList :: lnsTs b.2.2.2.2, ∀ c ∈ x, c ≠ 10 := by
  intro x hx
  rcases List.mem_cons.1 hx with rfl | hx
  · exact row_free blockB _ 10 (fun b hb => (block_signs b hb).2.2) (.inr rfl)
  · exact lnsTs_free hb x hx
/-- Right blocks that are unlike have unlike texts. -/
theorem blk_unlike {b c : BlkD} (hb : chkB b = 0) (hc : chkB c = 0) (e : blkText b = blkText c) : b = c := by
  have f := chkB_zero (p := b.1) (h := b.2.1) (k := b.2.2.1) (n := b.2.2.2.1) (T := b.2.2.2.2) hb
  have g := chkB_zero (p := c.1) (h := c.2.1) (k := c.2.2.1) (n := c.2.2.2.1) (T := c.2.2.2.2) hc
  have e2 : (blkText b).data.toList = (blkText c).data.toList := congrArg (fun x => x.data.toList) e
  have e3 := unl_inj _ _ (blk_lines f.2.2.2.2) (blk_lines g.2.2.2.2) ((blk_unl b).symm.trans (e2.trans (blk_unl c)))
  have e4 := List.cons.inj e3
  have hT := lnsTs_inj _ _ f.2.2.2.2 g.2.2.2.2 e4.2
  have hZ := row_same (Z := [b.1, b.2.1, b.2.2.1, b.2.2.2.1]) (Y := [c.1, c.2.1, c.2.2.1, c.2.2.2.1]) rfl (head_fits f.1) (head_fits g.1) e4.1
  obtain ⟨p, h, k, n, T⟩ := b
  obtain ⟨p', h', k', n', U⟩ := c
  simp only [List.cons.injEq, and_true] at hZ hT
  obtain ⟨h1, h2, h3, h4⟩ := hZ
  rw [h1, h2, h3, h4, hT]

end Go.Proofs.YtifhlohdidfbgaaGreatDoor

/- Mathematics of the law BlockNamed: names stay in a later book; unlike blocks have unlike names. -/
namespace Go.Proofs.YtifhlohdidfbgaaGreatDoor
open Go.RowKit

theorem nmGo_places : ∀ (l L : List ByteArray) (N : List Int) (M : List ByteArray) (N' : List Int), Bk.nmGo L N l = (M, N', 0) → N' = N ++ l.map (fun s => (Bk.place s M : Int)) ∧ ∀ s ∈ l, 0 < Bk.place s M ∧ s.size ≤ 4000
  | [], L, N, M, N', h => by
    unfold Bk.nmGo at h
    injection h with _ h
    injection h with h _
    exact ⟨by simp [h], fun s hs => by cases hs⟩
  | s :: r, L, N, M, N', h => by
    rw [Bk.nmGo] at h
    split at h
    · next q =>
      obtain ⟨p1, p2, p3⟩ := Bk.nm_place q
      obtain ⟨X, hX⟩ := Bk.nmGo_grows r (Bk.nm L s).1 (N ++ [(Bk.nm L s).2.1]) (by rw [h])
      rw [h] at hX
      simp only at hX
      obtain ⟨h1, h2⟩ := nmGo_places r _ _ M N' h
      have e : Bk.place s M = Bk.place s (Bk.nm L s).1 := by rw [hX]; exact Bk.place_stays X p2
      refine ⟨?_, fun z hz => ?_⟩
      · rw [h1, List.append_assoc, p1, ← e]
        rfl
      · rcases List.mem_cons.1 hz with rfl | hz
        · exact ⟨by rw [e]; exact p2, p3⟩
        · exact h2 z hz
    · next q =>
      injection h with _ h
      injection h with _ h
      exact absurd h q
theorem nmGo_there : ∀ (l Y : List ByteArray) (N : List Int), (∀ s ∈ l, 0 < Bk.place s Y ∧ s.size ≤ 4000) → Bk.nmGo Y N l = (Y, N ++ l.map (fun s => (Bk.place s Y : Int)), 0)
  | [], Y, N, _ => by simp [Bk.nmGo]
  | s :: r, Y, N, h => by
    obtain ⟨h1, h2⟩ := h s (by simp)
    rw [Bk.nmGo, Bk.nm_there h2 h1, if_pos rfl]
    simp only
    rw [nmGo_there r Y _ (fun z hz => h z (by simp [hz])), List.append_assoc]
    rfl
theorem allR_zero {K l X : List ByteArray} {N : List Int} (h : Bk.allR K l = (X, N, 0)) : Bk.Right K ∧ Bk.nmGo K [] l = (X, N, 0) := by
  unfold Bk.allR at h
  split at h
  · next q => exact ⟨(Bk.right_iff K).1 q, h⟩
  · next q =>
    injection h with _ h
    injection h with _ h
    exact absurd h q
theorem allR_right {K l X : List ByteArray} {N : List Int} (h : Bk.allR K l = (X, N, 0)) : Bk.Right X ∧ ∃ M, X = K ++ M := by
  obtain ⟨h1, h2⟩ := allR_zero h
  have r := Bk.nmGo_right l K [] h1 (by rw [h2])
  have g := Bk.nmGo_grows l K [] (by rw [h2])
  rw [h2] at r g
  exact ⟨r, g⟩
theorem nms_zero {K : List ByteArray} {b : BlkD} {X : List ByteArray} {n : Int} {ns : List Int} (h : nmsB K b = (X, n, ns, 0)) : chkB b = 0 ∧ Bk.Right X ∧ (∀ s ∈ txtsOf b, 0 < Bk.place s X ∧ s.size ≤ 4000) ∧ n = (Bk.place (blkText b) X : Int) ∧ ns = b.2.2.2.2.map (fun t => (Bk.place (txText t) X : Int)) ∧ ∃ M, X = K ++ M := by
  unfold nmsB at h
  split at h
  · next q =>
    injection h with _ h
    injection h with _ h
    injection h with _ h
    exact absurd h q
  · next q =>
    split at h
    · next q2 =>
      injection h with _ h
      injection h with _ h
      injection h with _ h
      exact absurd h q2
    · next q2 =>
      obtain ⟨X', N, x, e⟩ : ∃ X' N x, Bk.allR K (txtsOf b) = (X', N, x) := ⟨_, _, _, rfl⟩
      rw [e] at h q2
      obtain rfl : x = 0 := Decidable.not_not.1 q2
      injection h with h1 h
      injection h with h2 h
      injection h with h3 _
      simp only at h1 h2 h3
      subst h1
      obtain ⟨r, g⟩ := allR_right e
      obtain ⟨p1, p2⟩ := nmGo_places _ _ _ _ _ (allR_zero e).2
      rw [List.nil_append] at p1
      refine ⟨Decidable.not_not.1 q, r, p2, ?_, ?_, g⟩
      · rw [← h2, p1]
        simp [txtsOf]
      · rw [← h3, p1]
        simp [txtsOf]
theorem nms_there {Y : List ByteArray} {b : BlkD} (hb : chkB b = 0) (hR : Bk.Right Y) (h : ∀ s ∈ txtsOf b, 0 < Bk.place s Y ∧ s.size ≤ 4000) : nmsB Y b = (Y, (Bk.place (blkText b) Y : Int), b.2.2.2.2.map (fun t => (Bk.place (txText t) Y : Int)), 0) := by
  have e : Bk.allR Y (txtsOf b) = (Y, (txtsOf b).map (fun s => (Bk.place s Y : Int)), 0) := by
    unfold Bk.allR
    rw [if_pos ((Bk.right_iff Y).2 hR), nmGo_there _ Y [] h, List.nil_append]
  unfold nmsB
  rw [if_neg (by simp [hb]), e, if_neg (by simp)]
  simp [txtsOf]
theorem named_stay {K : List ByteArray} {b : BlkD} {X : List ByteArray} {n : Int} {ns : List Int} (h : nmsB K b = (X, n, ns, 0)) {Y : List ByteArray} (hY : ∃ M, Y = X ++ M) (hR : Bk.Right Y) : nmsB Y b = (Y, n, ns, 0) ∧ ns.length = b.2.2.2.2.length := by
  obtain ⟨h1, h2, h3, h4, h5, _⟩ := nms_zero h
  obtain ⟨M, rfl⟩ := hY
  have st : ∀ s ∈ txtsOf b, Bk.place s (X ++ M) = Bk.place s X := fun s hs => Bk.place_stays M (h3 s hs).1
  refine ⟨?_, by rw [h5]; simp⟩
  rw [nms_there h1 hR (fun s hs => by rw [st s hs]; exact h3 s hs), h4, h5, st (blkText b) (by simp [txtsOf])]
  have e : b.2.2.2.2.map (fun t => (Bk.place (txText t) (X ++ M) : Int)) = b.2.2.2.2.map (fun t => (Bk.place (txText t) X : Int)) := by
    apply List.map_congr_left
    intro t ht
    rw [st (txText t) (by simp only [txtsOf, List.mem_append, List.mem_map]; exact .inl ⟨t, ht, rfl⟩)]
  rw [e]
theorem named_other {K : List ByteArray} {b : BlkD} {X : List ByteArray} {n : Int} {ns : List Int} (h : nmsB K b = (X, n, ns, 0)) {Y : List ByteArray} (hY : ∃ M, Y = X ++ M) (hR : Bk.Right Y) {c : BlkD} {Z : List ByteArray} {o : Int} {os : List Int} (hc : nmsB Y c = (Z, o, os, 0)) : o = n ↔ b = c := by
  obtain ⟨h1, _, h3, _⟩ := nms_zero h
  obtain ⟨hs, _⟩ := named_stay h hY hR
  obtain ⟨_, _, g3, g4, _⟩ := nms_zero hs
  obtain ⟨c1, _, c3, c4, _, M, hM⟩ := nms_zero hc
  have p0 := (g3 (blkText b) (by simp [txtsOf])).1
  have st : Bk.place (blkText b) Z = Bk.place (blkText b) Y := by rw [hM]; exact Bk.place_stays M p0
  constructor
  · intro e
    rw [c4, g4] at e
    have e2 : Bk.place (blkText b) Z = Bk.place (blkText c) Z := by rw [st]; omega
    exact blk_unlike h1 c1 (Bk.place_one (by rw [st]; exact p0) e2)
  · rintro rfl
    rw [c4, g4, st]

end Go.Proofs.YtifhlohdidfbgaaGreatDoor

/- The walk of the law BlockNamed (written by a program of ours: mknamed.py). -/
namespace Go.Proofs.YtifhlohdidfbgaaGreatDoor
open Go.RowKit

set_option maxRecDepth 10000 in
set_option maxHeartbeats 12800000 in
theorem named_bad (ka : Option Addr) (kn kc : Nat) (K : List ByteArray) (p h k n : Int) (a : Option Addr) (m c : Nat) (L : List TxD) (la : Option Addr) (ln lc : Nat) (p2 h2 k2 n2 : Int) (a2 : Option Addr) (m2 c2 : Nat) (X : List ByteArray) (nm : Int) (ns : List Int) (e1 : Int) (w : World) (hE : Env w) (hK : Bk.TextsAt w ka kn K) (hL : TxsAt w a m L) (hx : nmsB K (p, h, k, n, L) = (X, nm, ns, e1)) (h1 : e1 ≠ 0) :
    Calls Tryz.prog 6 #[.agg #[.slice ka kn kc], .agg #[.int .i64 p, .int .i64 h, .int .i64 k, .int .i64 n, .slice a m c], .slice la ln lc, .agg #[.int .i64 p2, .int .i64 h2, .int .i64 k2, .int .i64 n2, .slice a2 m2 c2]] w fun e w' => e = .returned (.bool true) ∧ Below w.heap.size w w' := by
  obtain ⟨V0, hV0⟩ : ∃ V0, V0 = ((w.alloc (.cells #[.slice ka kn kc] 37)).alloc (.cells #[.int .i64 p, .int .i64 h, .int .i64 k, .int .i64 n, .slice a m c] 24)).alloc (.cells #[.int .i64 p2, .int .i64 h2, .int .i64 k2, .int .i64 n2, .slice a2 m2 c2] 24) := ⟨_, rfl⟩
  have hb0 : Below w.heap.size w V0 := by rw [hV0]; exact bel_on (bel_on (bel_new _ _) (bel_new _ _)) (bel_new _ _)
  have hk0 : V0.heap[w.heap.size]? = some (.cells [.slice ka kn kc].toArray 37 (0, 0)) := by
    rw [hV0, Below.heap_alloc _ _ _ (by simp; omega), Below.heap_alloc _ _ _ (by simp)]; exact one_heap _ _ _
  have hB0 : V0.heap[w.heap.size + 1]? = some (.cells [.int .i64 p, .int .i64 h, .int .i64 k, .int .i64 n, .slice a m c].toArray 24 (0, 0)) := by
    rw [hV0, Below.heap_alloc _ _ _ (by simp)]
    have := five_heap (w.alloc (.cells #[.slice ka kn kc] 37)) (.int .i64 p) (.int .i64 h) (.int .i64 k) (.int .i64 n) (.slice a m c) 24
    rw [show (w.alloc (.cells #[.slice ka kn kc] 37)).heap.size = w.heap.size + 1 by simp] at this
    exact this
  have hC0 : V0.heap[w.heap.size + 2]? = some (.cells [.int .i64 p2, .int .i64 h2, .int .i64 k2, .int .i64 n2, .slice a2 m2 c2].toArray 24 (0, 0)) := by
    rw [hV0]
    have := five_heap ((w.alloc (.cells #[.slice ka kn kc] 37)).alloc (.cells #[.int .i64 p, .int .i64 h, .int .i64 k, .int .i64 n, .slice a m c] 24)) (.int .i64 p2) (.int .i64 h2) (.int .i64 k2) (.int .i64 n2) (.slice a2 m2 c2) 24
    rw [show ((w.alloc (.cells #[.slice ka kn kc] 37)).alloc (.cells #[.int .i64 p, .int .i64 h, .int .i64 k, .int .i64 n, .slice a m c] 24)).heap.size = w.heap.size + 2 by simp] at this
    exact this
  have C1 := hide (names_any ka kn kc K p h k n a m c L X nm ns e1 V0 (hE.later hb0) (hK.later hb0) (hL.later hb0) hx)
  have CL := hide (fun W (hb : Below w.heap.size w W) => laid_yes W (hE.later hb))
  have HB0 := hide hb0
  have BK0 := hide hk0
  have BB0 := hide hB0
  have BC0 := hide hC0
  have g1 : (e1 != 0) = true := by simp [h1]
  clear hE hK hL hx hb0 hk0 hB0 hC0 h1
  have kkk0 := cell_of (unhide BK0) 0 _ rfl
  have kkkl := lt_of_block (unhide BK0)
  have bbb0 := cell_of (unhide BB0) 0 _ rfl
  have bbb1 := cell_of (unhide BB0) 1 _ rfl
  have bbb2 := cell_of (unhide BB0) 2 _ rfl
  have bbb3 := cell_of (unhide BB0) 3 _ rfl
  have bbb4 := cell_of (unhide BB0) 4 _ rfl
  have bbbl := lt_of_block (unhide BB0)
  go_enter Tryz.func6, Tryz.ntmps6
  go_wp2_with fail
  rw [← hV0]
  clear hV0
  refine (unhide C1).mono ?_
  rintro e w1 ⟨xa, xn, xc, na, nn, nc, rfl, hX1, sX1, hN1, hnc, hb1⟩
  obtain ⟨V1, hV1⟩ : ∃ V1, V1 = w1.alloc (.cells #[.slice xa xn xc] 37) := ⟨_, rfl⟩
  have hbV1 : Below w1.heap.size w1 V1 := by rw [hV1]; exact bel_new _ _
  have BX1 : Hid (V1.heap[w1.heap.size]? = some (.cells [.slice xa xn xc].toArray 37 (0, 0))) := by show _ = _; rw [hV1]; exact one_heap _ _ _
  have hb1V := bel_on hb1 hbV1
  have HB1 := hide (bel_on (unhide HB0) hb1V)
  have BB1 := hide ((hb1V.block _ (lt_of_block (unhide BB0))).trans (unhide BB0))
  have BC1 := hide ((hb1V.block _ (lt_of_block (unhide BC0))).trans (unhide BC0))
  have HX1 := hide (hX1.later hbV1)
  have SX1 := hide sX1
  have HN1 := hide (hN1.later hbV1)
  have HNN := hide hN1.1
  clear hX1 sX1 hN1 hnc hb1 hbV1 hb1V C1 kkk0 kkkl bbb0 bbb1 bbb2 bbb3 bbb4 bbbl
  have CC := hide ((unhide CL) V1 (unhide HB1))
  go_wp2_with fail
  rw [← hV1]
  clear hV1
  refine (unhide CC).mono ?_
  rintro e w2 ⟨rfl, hb2⟩
  have HB2 := hide (bel_on (unhide HB1) hb2)
  have BB2 := hide ((hb2.block _ (lt_of_block (unhide BB1))).trans (unhide BB1))
  have BC2 := hide ((hb2.block _ (lt_of_block (unhide BC1))).trans (unhide BC1))
  have BX2 := hide ((hb2.block _ (lt_of_block (unhide BX1))).trans (unhide BX1))
  clear hb2 CC
  have CC := hide ((unhide CL) w2 (unhide HB2))
  go_wp2_with fail
  refine (unhide CC).mono ?_
  rintro e w3 ⟨rfl, hb3⟩
  have HBF := hide (bel_on (unhide HB2) hb3)
  clear hb3
  go_wp2
  go_ret
  exact ⟨rfl, unhide HBF⟩
  
set_option maxRecDepth 10000 in
set_option maxHeartbeats 12800000 in
theorem named_ok (ka : Option Addr) (kn kc : Nat) (K : List ByteArray) (p h k n : Int) (a : Option Addr) (m c : Nat) (L : List TxD) (la : Option Addr) (ln lc : Nat) (Q : List ByteArray) (p2 h2 k2 n2 : Int) (a2 : Option Addr) (m2 c2 : Nat) (U : List TxD) (X : List ByteArray) (nm : Int) (ns : List Int) (w : World) (hE : Env w) (hK : Bk.TextsAt w ka kn K) (hL : TxsAt w a m L) (hm : m ≤ maxLen) (hQ : Bk.TextsAt w la ln Q) (hln : ln ≤ 17592186044416) (hU : TxsAt w a2 m2 U) (hx : nmsB K (p, h, k, n, L) = (X, nm, ns, 0)) :
    Calls Tryz.prog 6 #[.agg #[.slice ka kn kc], .agg #[.int .i64 p, .int .i64 h, .int .i64 k, .int .i64 n, .slice a m c], .slice la ln lc, .agg #[.int .i64 p2, .int .i64 h2, .int .i64 k2, .int .i64 n2, .slice a2 m2 c2]] w fun e w' => e = .returned (.bool true) ∧ Below w.heap.size w w' := by
  obtain ⟨V0, hV0⟩ : ∃ V0, V0 = ((w.alloc (.cells #[.slice ka kn kc] 37)).alloc (.cells #[.int .i64 p, .int .i64 h, .int .i64 k, .int .i64 n, .slice a m c] 24)).alloc (.cells #[.int .i64 p2, .int .i64 h2, .int .i64 k2, .int .i64 n2, .slice a2 m2 c2] 24) := ⟨_, rfl⟩
  have hb0 : Below w.heap.size w V0 := by rw [hV0]; exact bel_on (bel_on (bel_new _ _) (bel_new _ _)) (bel_new _ _)
  have hk0 : V0.heap[w.heap.size]? = some (.cells [.slice ka kn kc].toArray 37 (0, 0)) := by
    rw [hV0, Below.heap_alloc _ _ _ (by simp; omega), Below.heap_alloc _ _ _ (by simp)]; exact one_heap _ _ _
  have hB0 : V0.heap[w.heap.size + 1]? = some (.cells [.int .i64 p, .int .i64 h, .int .i64 k, .int .i64 n, .slice a m c].toArray 24 (0, 0)) := by
    rw [hV0, Below.heap_alloc _ _ _ (by simp)]
    have := five_heap (w.alloc (.cells #[.slice ka kn kc] 37)) (.int .i64 p) (.int .i64 h) (.int .i64 k) (.int .i64 n) (.slice a m c) 24
    rw [show (w.alloc (.cells #[.slice ka kn kc] 37)).heap.size = w.heap.size + 1 by simp] at this
    exact this
  have hC0 : V0.heap[w.heap.size + 2]? = some (.cells [.int .i64 p2, .int .i64 h2, .int .i64 k2, .int .i64 n2, .slice a2 m2 c2].toArray 24 (0, 0)) := by
    rw [hV0]
    have := five_heap ((w.alloc (.cells #[.slice ka kn kc] 37)).alloc (.cells #[.int .i64 p, .int .i64 h, .int .i64 k, .int .i64 n, .slice a m c] 24)) (.int .i64 p2) (.int .i64 h2) (.int .i64 k2) (.int .i64 n2) (.slice a2 m2 c2) 24
    rw [show ((w.alloc (.cells #[.slice ka kn kc] 37)).alloc (.cells #[.int .i64 p, .int .i64 h, .int .i64 k, .int .i64 n, .slice a m c] 24)).heap.size = w.heap.size + 2 by simp] at this
    exact this
  have C1 := hide (names_any ka kn kc K p h k n a m c L X nm ns 0 V0 (hE.later hb0) (hK.later hb0) (hL.later hb0) hx)
  have CL := hide (fun W (hb : Below w.heap.size w W) => laid_yes W (hE.later hb))
  have HB0 := hide hb0
  have BK0 := hide hk0
  have BB0 := hide hB0
  have BC0 := hide hC0
  obtain ⟨M, N2, e2, hall⟩ : ∃ M N2 e2, Bk.allR X Q = (M, N2, e2) := ⟨_, _, _, rfl⟩
  have CA := hide (fun xa xn xc W (hb : Below w.heap.size w W) (hX : Bk.TextsAt W xa xn X) => Bk.all_is xa la xn xc ln lc X Q M N2 e2 W hX (hQ.later hb) hln hall)
  have CN := hide (fun ya yn yc Y W (hb : Below w.heap.size w W) (hY : Bk.TextsAt W ya yn Y) (hR : nmsB Y (p, h, k, n, L) = (Y, nm, ns, 0)) => names_any ya yn yc Y p h k n a m c L Y nm ns 0 W (hE.later hb) hY (hL.later hb) hR)
  have CO := hide (fun ya yn yc Y Z o os e3 W (hb : Below w.heap.size w W) (hY : Bk.TextsAt W ya yn Y) (hR : nmsB Y (p2, h2, k2, n2, U) = (Z, o, os, e3)) => names_any ya yn yc Y p2 h2 k2 n2 a2 m2 c2 U Z o os e3 W (hE.later hb) hY (hU.later hb) hR)
  have CS := hide (fun o W (hb : Below w.heap.size w W) (ho : sameB (p, h, k, n, L) (p2, h2, k2, n2, U) = o) => blkSame_is p h k n p2 h2 k2 n2 a a2 m c m2 c2 L U o W hm (hL.later hb) (hU.later hb) ho)
  have ST := hide (fun Y (hY : ∃ M, Y = X ++ M) (hR : Bk.Right Y) => named_stay hx hY hR)
  have OT := hide (fun Y (hY : ∃ M, Y = X ++ M) (hR : Bk.Right Y) c Z o os (hc : nmsB Y c = (Z, o, os, 0)) => named_other hx hY hR hc)
  have RX := hide (nms_zero hx).2.1
  have LN := hide hL.1
  have HMM := hide hm
  have HAL := hide hall
  clear hE hK hL hQ hU hx hb0 hk0 hB0 hC0 hln hm hall
  have kkk0 := cell_of (unhide BK0) 0 _ rfl
  have kkkl := lt_of_block (unhide BK0)
  have bbb0 := cell_of (unhide BB0) 0 _ rfl
  have bbb1 := cell_of (unhide BB0) 1 _ rfl
  have bbb2 := cell_of (unhide BB0) 2 _ rfl
  have bbb3 := cell_of (unhide BB0) 3 _ rfl
  have bbb4 := cell_of (unhide BB0) 4 _ rfl
  have bbbl := lt_of_block (unhide BB0)
  go_enter Tryz.func6, Tryz.ntmps6
  go_wp2_with fail
  rw [← hV0]
  clear hV0
  refine (unhide C1).mono ?_
  rintro e w1 ⟨xa, xn, xc, na, nn, nc, rfl, hX1, sX1, hN1, hnc, hb1⟩
  obtain ⟨V1, hV1⟩ : ∃ V1, V1 = w1.alloc (.cells #[.slice xa xn xc] 37) := ⟨_, rfl⟩
  have hbV1 : Below w1.heap.size w1 V1 := by rw [hV1]; exact bel_new _ _
  have BX1 : Hid (V1.heap[w1.heap.size]? = some (.cells [.slice xa xn xc].toArray 37 (0, 0))) := by show _ = _; rw [hV1]; exact one_heap _ _ _
  have hb1V := bel_on hb1 hbV1
  have HB1 := hide (bel_on (unhide HB0) hb1V)
  have BB1 := hide ((hb1V.block _ (lt_of_block (unhide BB0))).trans (unhide BB0))
  have BC1 := hide ((hb1V.block _ (lt_of_block (unhide BC0))).trans (unhide BC0))
  have HX1 := hide (hX1.later hbV1)
  have SX1 := hide sX1
  have HN1 := hide (hN1.later hbV1)
  have HNN := hide hN1.1
  clear hX1 sX1 hN1 hnc hb1 hbV1 hb1V C1 kkk0 kkkl bbb0 bbb1 bbb2 bbb3 bbb4 bbbl
  have CC := hide ((unhide CL) V1 (unhide HB1))
  go_wp2_with fail
  rw [← hV1]
  clear hV1
  refine (unhide CC).mono ?_
  rintro e w2 ⟨rfl, hb2⟩
  have HB2 := hide (bel_on (unhide HB1) hb2)
  have BB2 := hide ((hb2.block _ (lt_of_block (unhide BB1))).trans (unhide BB1))
  have BC2 := hide ((hb2.block _ (lt_of_block (unhide BC1))).trans (unhide BC1))
  have BX2 := hide ((hb2.block _ (lt_of_block (unhide BX1))).trans (unhide BX1))
  have HX2 := hide ((unhide HX1).later hb2)
  have HN2 := hide ((unhide HN1).later hb2)
  clear hb2 CC CL
  have xxx0 := cell_of (unhide BX2) 0 _ rfl
  have xxxl := lt_of_block (unhide BX2)
  have CC := hide ((unhide CA) xa xn xc w2 (unhide HB2) (unhide HX2))
  go_wp2_with fail
  refine (unhide CC).mono ?_
  rintro e w3 ⟨⟨ma, mn, mc, da, dn, dc, rfl, hM3, sM3, hD3, _, _⟩, hb3⟩
  obtain ⟨V3, hV3⟩ : ∃ V3, V3 = w3.alloc (.cells #[.slice ma mn mc] 37) := ⟨_, rfl⟩
  have hbV3 : Below w3.heap.size w3 V3 := by rw [hV3]; exact bel_new _ _
  have BY3 : Hid (V3.heap[w3.heap.size]? = some (.cells [.slice ma mn mc].toArray 37 (0, 0))) := by show _ = _; rw [hV3]; exact one_heap _ _ _
  have hb3V := bel_on hb3 hbV3
  have HB3 := hide (bel_on (unhide HB2) hb3V)
  have BB3 := hide ((hb3V.block _ (lt_of_block (unhide BB2))).trans (unhide BB2))
  have BC3 := hide ((hb3V.block _ (lt_of_block (unhide BC2))).trans (unhide BC2))
  have BX3 := hide ((hb3V.block _ (lt_of_block (unhide BX2))).trans (unhide BX2))
  have HBw := hide (bel_on (unhide HB2) hb3)
  have BCw := hide ((hb3.block _ (lt_of_block (unhide BC2))).trans (unhide BC2))
  have HXw := hide ((unhide HX2).later hb3)
  have HNw := hide ((unhide HN2).later hb3)
  have BBw := hide ((hb3.block _ (lt_of_block (unhide BB2))).trans (unhide BB2))
  have BXw := hide ((hb3.block _ (lt_of_block (unhide BX2))).trans (unhide BX2))
  have HM3 := hide (hM3.later hbV3)
  have HX3 := hide ((unhide HX2).later hb3V)
  have HN3 := hide ((unhide HN2).later hb3V)
  have h23 : w2.heap.size ≤ w3.heap.size := hb3.size
  clear hM3 sM3 hD3 hb3 hbV3 hb3V CC CA HX1 HX2 HN1 HN2 xxx0 xxxl
  by_cases h2e : e2 = 0
  · subst h2e
    have PY := hide (allR_right (unhide HAL)).2
    have RY := hide (allR_right (unhide HAL)).1
    have HY3 := HM3
    have bbb0 := cell_of (unhide BBw) 0 _ rfl
    have bbb1 := cell_of (unhide BBw) 1 _ rfl
    have bbb2 := cell_of (unhide BBw) 2 _ rfl
    have bbb3 := cell_of (unhide BBw) 3 _ rfl
    have bbb4 := cell_of (unhide BBw) 4 _ rfl
    have bbbl := lt_of_block (unhide BBw)
    obtain ⟨st1, st2⟩ := (unhide ST) M (unhide PY) (unhide RY)
    have CC := hide ((unhide CN) ma mn mc M V3 (unhide HB3) (unhide HY3) st1)
    have HST2 := hide st2
    clear st1 st2
    go_wp2_with fail
    rw [← hV3]
    clear hV3
    refine (unhide CC).mono ?_
    rintro e w5 ⟨za, zn, zc, oa, oon, oc, rfl, hZ5, sZ5, hO5, _, hb5⟩
    obtain ⟨V5, hV5⟩ : ∃ V5, V5 = w5.alloc (.cells #[.slice za zn zc] 37) := ⟨_, rfl⟩
    have hbV5 : Below w5.heap.size w5 V5 := by rw [hV5]; exact bel_new _ _
    have BZ5 : Hid (V5.heap[w5.heap.size]? = some (.cells [.slice za zn zc].toArray 37 (0, 0))) := by show _ = _; rw [hV5]; exact one_heap _ _ _
    have hb5V := bel_on hb5 hbV5
    have HB5 := hide (bel_on (unhide HB3) hb5V)
    have BB5 := hide ((hb5V.block _ (lt_of_block (unhide BB3))).trans (unhide BB3))
    have BC5 := hide ((hb5V.block _ (lt_of_block (unhide BC3))).trans (unhide BC3))
    have BY5 := hide ((hb5V.block _ (lt_of_block (unhide BY3))).trans (unhide BY3))
    have HY5 := hide ((unhide HY3).later hb5V)
    have HN5 := hide ((unhide HN3).later hb5V)
    have HZ5 := hide (hZ5.later hbV5)
    have HO5 := hide (hO5.later hbV5)
    clear hZ5 sZ5 hO5 hb5 hbV5 hb5V CC bbb0 bbb1 bbb2 bbb3 bbb4 bbbl
    obtain rfl : oon = nn := by rw [← (unhide HO5).1, ← (unhide HN5).1]
    have HON := hide (unhide HO5).1
    have onl : oon ≤ maxLen := by rw [← (unhide HO5).1, unhide HST2]; show L.length ≤ maxLen; rw [unhide LN]; exact unhide HMM
    have CC := hide (Bk.eqInt_is oa na oon oon oc nc ns ns true V5 onl (unhide HO5) (unhide HN5) (by simp))
    have gnm : (nm != nm) = false := by simp
    go_wp2_with fail
    rw [← hV5]
    clear hV5
    refine (unhide CC).mono ?_
    rintro e w6 ⟨rfl, hb6⟩
    have HB6 := hide (bel_on (unhide HB5) hb6)
    have BB6 := hide ((hb6.block _ (lt_of_block (unhide BB5))).trans (unhide BB5))
    have BC6 := hide ((hb6.block _ (lt_of_block (unhide BC5))).trans (unhide BC5))
    have BY6 := hide ((hb6.block _ (lt_of_block (unhide BY5))).trans (unhide BY5))
    have BZ6 := hide ((hb6.block _ (lt_of_block (unhide BZ5))).trans (unhide BZ5))
    have HY6 := hide ((unhide HY5).later hb6)
    have HZ6 := hide ((unhide HZ5).later hb6)
    clear hb6 CC HO5 HN5
    have zzz0 := cell_of (unhide BZ6) 0 _ rfl
    have zzzl := lt_of_block (unhide BZ6)
    have yyy0 := cell_of (unhide BY6) 0 _ rfl
    have yyyl := lt_of_block (unhide BY6)
    obtain rfl : zn = mn := by rw [← (unhide HZ6).1, ← (unhide HY6).1]
    have znl : zn ≤ maxLen := by have := (unhide RY).1; rw [(unhide HY6).1] at this; unfold maxLen; omega
    have CC := hide (Bk.eqStr_is za ma zn zn zc mc M M true w6 znl (unhide HZ6) (unhide HY6) (by simp))
    go_wp2_with fail
    refine (unhide CC).mono ?_
    rintro e w7 ⟨rfl, hb7⟩
    have HB7 := hide (bel_on (unhide HB6) hb7)
    have BB7 := hide ((hb7.block _ (lt_of_block (unhide BB6))).trans (unhide BB6))
    have BC7 := hide ((hb7.block _ (lt_of_block (unhide BC6))).trans (unhide BC6))
    have BY7 := hide ((hb7.block _ (lt_of_block (unhide BY6))).trans (unhide BY6))
    have HY7 := hide ((unhide HY6).later hb7)
    clear hb7 CC HZ6 HZ5 zzz0 zzzl yyy0 yyyl
    have bbb0 := cell_of (unhide BB7) 0 _ rfl
    have bbb1 := cell_of (unhide BB7) 1 _ rfl
    have bbb2 := cell_of (unhide BB7) 2 _ rfl
    have bbb3 := cell_of (unhide BB7) 3 _ rfl
    have bbb4 := cell_of (unhide BB7) 4 _ rfl
    have bbbl := lt_of_block (unhide BB7)
    have yyy0 := cell_of (unhide BY7) 0 _ rfl
    have yyyl := lt_of_block (unhide BY7)
    have ccc0 := cell_of (unhide BC7) 0 _ rfl
    have ccc1 := cell_of (unhide BC7) 1 _ rfl
    have ccc2 := cell_of (unhide BC7) 2 _ rfl
    have ccc3 := cell_of (unhide BC7) 3 _ rfl
    have ccc4 := cell_of (unhide BC7) 4 _ rfl
    have cccl := lt_of_block (unhide BC7)
    obtain rfl : m = oon := by rw [← unhide LN, ← unhide HON]; exact (unhide HST2).symm
    have gmm : ((m : Int) != (m : Int)) = false := by simp
    obtain ⟨Z, o, os, e3, hZc⟩ : ∃ Z o os e3, nmsB M (p2, h2, k2, n2, U) = (Z, o, os, e3) := ⟨_, _, _, _, rfl⟩
    have CC := hide ((unhide CO) ma zn mc M Z o os e3 w7 (unhide HB7) (unhide HY7) hZc)
    have HZC := hide hZc
    clear hZc
    go_wp2_with fail
    refine (unhide CC).mono ?_
    rintro e w8 ⟨qa, qn, qc, ra, rn, rc, rfl, _, _, _, _, hb8⟩
    obtain ⟨V8, hV8⟩ : ∃ V8, V8 = w8.alloc (.cells #[.slice qa qn qc] 37) := ⟨_, rfl⟩
    have hbV8 : Below w8.heap.size w8 V8 := by rw [hV8]; exact bel_new _ _
    have hb8V := bel_on hb8 hbV8
    have HB8 := hide (bel_on (unhide HB7) hb8V)
    have BB8 := hide ((hb8V.block _ (lt_of_block (unhide BB7))).trans (unhide BB7))
    have BC8 := hide ((hb8V.block _ (lt_of_block (unhide BC7))).trans (unhide BC7))
    have BBx := hide ((hb8.block _ (lt_of_block (unhide BB7))).trans (unhide BB7))
    have BCx := hide ((hb8.block _ (lt_of_block (unhide BC7))).trans (unhide BC7))
    clear hb8 hbV8 hb8V CC yyy0 yyyl bbb0 bbb1 bbb2 bbb3 bbb4 bbbl ccc0 ccc1 ccc2 ccc3 ccc4 cccl
    by_cases h3 : e3 = 0
    · subst h3
      have bbb0 := cell_of (unhide BBx) 0 _ rfl
      have bbb1 := cell_of (unhide BBx) 1 _ rfl
      have bbb2 := cell_of (unhide BBx) 2 _ rfl
      have bbb3 := cell_of (unhide BBx) 3 _ rfl
      have bbb4 := cell_of (unhide BBx) 4 _ rfl
      have bbbl := lt_of_block (unhide BBx)
      have ccc0 := cell_of (unhide BCx) 0 _ rfl
      have ccc1 := cell_of (unhide BCx) 1 _ rfl
      have ccc2 := cell_of (unhide BCx) 2 _ rfl
      have ccc3 := cell_of (unhide BCx) 3 _ rfl
      have ccc4 := cell_of (unhide BCx) 4 _ rfl
      have cccl := lt_of_block (unhide BCx)
      have hiff := (unhide OT) M (unhide PY) (unhide RY) _ Z o os (unhide HZC)
      obtain ⟨q, hq⟩ : ∃ q, sameB (p, h, k, n, L) (p2, h2, k2, n2, U) = q := ⟨_, rfl⟩
      have hoq : (o == nm) = q := by
        rw [Bool.eq_iff_iff, beq_iff_eq, hiff, ← hq, sameB_iff]
      have gqq : (q == q) = true := by simp
      have CC := hide ((unhide CS) q V8 (unhide HB8) hq)
      clear hiff hq
      go_wp2_with fail
      rw [← hV8]
      clear hV8
      refine (unhide CC).mono ?_
      rintro e w9 ⟨rfl, hb9⟩
      have HBF := hide (bel_on (unhide HB8) hb9)
      clear hb9
      go_wp2
      go_ret
      exact ⟨rfl, unhide HBF⟩
    · have g3 : (e3 != 0) = true := by simp [h3]
      clear h3
      have HBF := HB8
      go_wp2
      rw [← hV8]
      go_ret
      exact ⟨rfl, unhide HBF⟩
  · have g2 : (e2 != 0) = true := by simp [h2e]
    have xxx0 := cell_of (unhide BXw) 0 _ rfl
    have xxxl := lt_of_block (unhide BXw)
    obtain ⟨V4, hV4⟩ : ∃ V4, V4 = w3.alloc (.cells #[.slice xa xn xc] 37) := ⟨_, rfl⟩
    have hb4 : Below w3.heap.size w3 V4 := by rw [hV4]; exact bel_new _ _
    have BY4 : Hid (V4.heap[w3.heap.size]? = some (.cells [.slice xa xn xc].toArray 37 (0, 0))) := by show _ = _; rw [hV4]; exact one_heap _ _ _
    have HB4 := hide (bel_on (unhide HBw) hb4)
    have BB4 := hide ((hb4.block _ (lt_of_block (unhide BBw))).trans (unhide BBw))
    have BC4 := hide ((hb4.block _ (lt_of_block (unhide BCw))).trans (unhide BCw))
    have HY4 := hide ((unhide HXw).later hb4)
    have HN4 := hide ((unhide HNw).later hb4)
    have PY : Hid (∃ M, X = X ++ M) := ⟨[], by simp⟩
    have RY := RX
    clear h2e hb4
    have bbb0 := cell_of (unhide BBw) 0 _ rfl
    have bbb1 := cell_of (unhide BBw) 1 _ rfl
    have bbb2 := cell_of (unhide BBw) 2 _ rfl
    have bbb3 := cell_of (unhide BBw) 3 _ rfl
    have bbb4 := cell_of (unhide BBw) 4 _ rfl
    have bbbl := lt_of_block (unhide BBw)
    obtain ⟨st1, st2⟩ := (unhide ST) X (unhide PY) (unhide RY)
    have CC := hide ((unhide CN) xa xn xc X V4 (unhide HB4) (unhide HY4) st1)
    have HST2 := hide st2
    clear st1 st2
    go_wp2_with fail
    rw [← hV4]
    clear hV4
    refine (unhide CC).mono ?_
    rintro e w5 ⟨za, zn, zc, oa, oon, oc, rfl, hZ5, sZ5, hO5, _, hb5⟩
    obtain ⟨V5, hV5⟩ : ∃ V5, V5 = w5.alloc (.cells #[.slice za zn zc] 37) := ⟨_, rfl⟩
    have hbV5 : Below w5.heap.size w5 V5 := by rw [hV5]; exact bel_new _ _
    have BZ5 : Hid (V5.heap[w5.heap.size]? = some (.cells [.slice za zn zc].toArray 37 (0, 0))) := by show _ = _; rw [hV5]; exact one_heap _ _ _
    have hb5V := bel_on hb5 hbV5
    have HB5 := hide (bel_on (unhide HB4) hb5V)
    have BB5 := hide ((hb5V.block _ (lt_of_block (unhide BB4))).trans (unhide BB4))
    have BC5 := hide ((hb5V.block _ (lt_of_block (unhide BC4))).trans (unhide BC4))
    have BY5 := hide ((hb5V.block _ (lt_of_block (unhide BY4))).trans (unhide BY4))
    have HY5 := hide ((unhide HY4).later hb5V)
    have HN5 := hide ((unhide HN4).later hb5V)
    have HZ5 := hide (hZ5.later hbV5)
    have HO5 := hide (hO5.later hbV5)
    clear hZ5 sZ5 hO5 hb5 hbV5 hb5V CC bbb0 bbb1 bbb2 bbb3 bbb4 bbbl
    obtain rfl : oon = nn := by rw [← (unhide HO5).1, ← (unhide HN5).1]
    have HON := hide (unhide HO5).1
    have onl : oon ≤ maxLen := by rw [← (unhide HO5).1, unhide HST2]; show L.length ≤ maxLen; rw [unhide LN]; exact unhide HMM
    have CC := hide (Bk.eqInt_is oa na oon oon oc nc ns ns true V5 onl (unhide HO5) (unhide HN5) (by simp))
    have gnm : (nm != nm) = false := by simp
    go_wp2_with fail
    rw [← hV5]
    clear hV5
    refine (unhide CC).mono ?_
    rintro e w6 ⟨rfl, hb6⟩
    have HB6 := hide (bel_on (unhide HB5) hb6)
    have BB6 := hide ((hb6.block _ (lt_of_block (unhide BB5))).trans (unhide BB5))
    have BC6 := hide ((hb6.block _ (lt_of_block (unhide BC5))).trans (unhide BC5))
    have BY6 := hide ((hb6.block _ (lt_of_block (unhide BY5))).trans (unhide BY5))
    have BZ6 := hide ((hb6.block _ (lt_of_block (unhide BZ5))).trans (unhide BZ5))
    have HY6 := hide ((unhide HY5).later hb6)
    have HZ6 := hide ((unhide HZ5).later hb6)
    clear hb6 CC HO5 HN5
    have zzz0 := cell_of (unhide BZ6) 0 _ rfl
    have zzzl := lt_of_block (unhide BZ6)
    have yyy0 := cell_of (unhide BY6) 0 _ rfl
    have yyyl := lt_of_block (unhide BY6)
    obtain rfl : zn = xn := by rw [← (unhide HZ6).1, ← (unhide HY6).1]
    have znl : zn ≤ maxLen := by have := (unhide RY).1; rw [(unhide HY6).1] at this; unfold maxLen; omega
    have CC := hide (Bk.eqStr_is za xa zn zn zc xc X X true w6 znl (unhide HZ6) (unhide HY6) (by simp))
    go_wp2_with fail
    refine (unhide CC).mono ?_
    rintro e w7 ⟨rfl, hb7⟩
    have HB7 := hide (bel_on (unhide HB6) hb7)
    have BB7 := hide ((hb7.block _ (lt_of_block (unhide BB6))).trans (unhide BB6))
    have BC7 := hide ((hb7.block _ (lt_of_block (unhide BC6))).trans (unhide BC6))
    have BY7 := hide ((hb7.block _ (lt_of_block (unhide BY6))).trans (unhide BY6))
    have HY7 := hide ((unhide HY6).later hb7)
    clear hb7 CC HZ6 HZ5 zzz0 zzzl yyy0 yyyl
    have bbb0 := cell_of (unhide BB7) 0 _ rfl
    have bbb1 := cell_of (unhide BB7) 1 _ rfl
    have bbb2 := cell_of (unhide BB7) 2 _ rfl
    have bbb3 := cell_of (unhide BB7) 3 _ rfl
    have bbb4 := cell_of (unhide BB7) 4 _ rfl
    have bbbl := lt_of_block (unhide BB7)
    have yyy0 := cell_of (unhide BY7) 0 _ rfl
    have yyyl := lt_of_block (unhide BY7)
    have ccc0 := cell_of (unhide BC7) 0 _ rfl
    have ccc1 := cell_of (unhide BC7) 1 _ rfl
    have ccc2 := cell_of (unhide BC7) 2 _ rfl
    have ccc3 := cell_of (unhide BC7) 3 _ rfl
    have ccc4 := cell_of (unhide BC7) 4 _ rfl
    have cccl := lt_of_block (unhide BC7)
    obtain rfl : m = oon := by rw [← unhide LN, ← unhide HON]; exact (unhide HST2).symm
    have gmm : ((m : Int) != (m : Int)) = false := by simp
    obtain ⟨Z, o, os, e3, hZc⟩ : ∃ Z o os e3, nmsB X (p2, h2, k2, n2, U) = (Z, o, os, e3) := ⟨_, _, _, _, rfl⟩
    have CC := hide ((unhide CO) xa zn xc X Z o os e3 w7 (unhide HB7) (unhide HY7) hZc)
    have HZC := hide hZc
    clear hZc
    go_wp2_with fail
    refine (unhide CC).mono ?_
    rintro e w8 ⟨qa, qn, qc, ra, rn, rc, rfl, _, _, _, _, hb8⟩
    obtain ⟨V8, hV8⟩ : ∃ V8, V8 = w8.alloc (.cells #[.slice qa qn qc] 37) := ⟨_, rfl⟩
    have hbV8 : Below w8.heap.size w8 V8 := by rw [hV8]; exact bel_new _ _
    have hb8V := bel_on hb8 hbV8
    have HB8 := hide (bel_on (unhide HB7) hb8V)
    have BB8 := hide ((hb8V.block _ (lt_of_block (unhide BB7))).trans (unhide BB7))
    have BC8 := hide ((hb8V.block _ (lt_of_block (unhide BC7))).trans (unhide BC7))
    have BBx := hide ((hb8.block _ (lt_of_block (unhide BB7))).trans (unhide BB7))
    have BCx := hide ((hb8.block _ (lt_of_block (unhide BC7))).trans (unhide BC7))
    clear hb8 hbV8 hb8V CC yyy0 yyyl bbb0 bbb1 bbb2 bbb3 bbb4 bbbl ccc0 ccc1 ccc2 ccc3 ccc4 cccl
    by_cases h3 : e3 = 0
    · subst h3
      have bbb0 := cell_of (unhide BBx) 0 _ rfl
      have bbb1 := cell_of (unhide BBx) 1 _ rfl
      have bbb2 := cell_of (unhide BBx) 2 _ rfl
      have bbb3 := cell_of (unhide BBx) 3 _ rfl
      have bbb4 := cell_of (unhide BBx) 4 _ rfl
      have bbbl := lt_of_block (unhide BBx)
      have ccc0 := cell_of (unhide BCx) 0 _ rfl
      have ccc1 := cell_of (unhide BCx) 1 _ rfl
      have ccc2 := cell_of (unhide BCx) 2 _ rfl
      have ccc3 := cell_of (unhide BCx) 3 _ rfl
      have ccc4 := cell_of (unhide BCx) 4 _ rfl
      have cccl := lt_of_block (unhide BCx)
      have hiff := (unhide OT) X (unhide PY) (unhide RY) _ Z o os (unhide HZC)
      obtain ⟨q, hq⟩ : ∃ q, sameB (p, h, k, n, L) (p2, h2, k2, n2, U) = q := ⟨_, rfl⟩
      have hoq : (o == nm) = q := by
        rw [Bool.eq_iff_iff, beq_iff_eq, hiff, ← hq, sameB_iff]
      have gqq : (q == q) = true := by simp
      have CC := hide ((unhide CS) q V8 (unhide HB8) hq)
      clear hiff hq
      go_wp2_with fail
      rw [← hV8]
      clear hV8
      refine (unhide CC).mono ?_
      rintro e w9 ⟨rfl, hb9⟩
      have HBF := hide (bel_on (unhide HB8) hb9)
      clear hb9
      go_wp2
      go_ret
      exact ⟨rfl, unhide HBF⟩
    · have g3 : (e3 != 0) = true := by simp [h3]
      clear h3
      have HBF := HB8
      go_wp2
      rw [← hV8]
      go_ret
      exact ⟨rfl, unhide HBF⟩

end Go.Proofs.YtifhlohdidfbgaaGreatDoor
