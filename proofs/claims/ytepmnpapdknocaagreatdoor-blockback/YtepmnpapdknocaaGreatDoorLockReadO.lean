/- Parse of orders: what it answers is the caller's own. -/
import Derived.Test.YtepmnpapdknocaaGreatDoorLockRead
namespace Go.Proofs.YtepmnpapdknocaaGreatDoor
open Go.RowKit

theorem own_base {w : World} {base base' : Nat} {e : TypeId} {size : Nat} {v : Value} {n : Nat} {xs : List Value} (h : w.ownsRow base e size v n xs) (hb : base' ≤ base) : w.ownsRow base' e size v n xs := by
  obtain ⟨hl, h0 | ⟨g, cap, cur, hv, hg, hh, r⟩⟩ := h
  · exact ⟨hl, .inl h0⟩
  · exact ⟨hl, .inr ⟨g, cap, cur, hv, Nat.le_trans hb hg, hh, r⟩⟩

set_option maxRecDepth 10000 in
set_option maxHeartbeats 3200000 in
theorem readO_some (s : ByteArray) (hs : s.size ≤ 4000) (h0 : 0 < (wordsOf s).length) (w : World) (hE : EnvP w) :
    Calls Tryz.prog 171 #[.string s] w fun e w' => ∃ v, e = .returned (.tuple #[v, .int .i64 (prE s)]) ∧ w'.ownsRow w.heap.size 148 2 v (prL s).length (flat (prL s)) ∧ Below w.heap.size w w' := by
  obtain ⟨i0, hi, hz0, hz1, hz2⟩ := info_parts Tryz.infoOp
  have SP := hide (split_any s hs w hE)
  have eE : prE s = match parseAll (wordsOf s) with | none => 1 | some l => chk l := by unfold prE; rw [if_neg (by omega)]; rfl
  have eL : prL s = match parseAll (wordsOf s) with | none => [] | some l => if chk l = 0 then l else [] := by unfold prL; rw [if_neg (by omega)]; rfl
  have hwl : (wordsOf s).length ≤ 4002 := by
    have h1 : s.size ≠ 0 := fun e => by unfold wordsOf at h0; rw [if_pos e] at h0; simp at h0
    rw [words_len s h1]
    have : Lib.countB s sepB ≤ s.size + 1 := Lib.count_le s.data.toList sepB.data.toList
    omega
  have hsm := words_small s
  obtain ⟨ws, hws⟩ : ∃ ws, ws = wordsOf s := ⟨_, rfl⟩
  rw [← hws] at SP eE eL h0 hsm hwl
  obtain ⟨n, hn⟩ : ∃ n, ws.length = n := ⟨_, rfl⟩
  rw [hn] at SP h0 hwl
  have HEE := hide eE
  have HEL := hide eL
  have HSM := hide hsm
  have HN := hide hn
  have HE := hide hE
  have g : ¬ (4000 : Int) < (s.size : Int) := by omega
  clear hE eE eL hsm hws hn
  go_enter Tryz.func171, Tryz.ntmps171
  go_wp2_with fail
  refine (unhide SP).mono ?_
  rintro e w1 ⟨a, cap, rfl, hst, hb1⟩
  obtain ⟨bw, rfl, hbw, hcw⟩ := hst.2 h0
  have HB1 := hide hb1
  have HCW := hide hcw
  clear hb1 hst hcw
  go_wp2
  go_loopw [4, 16] (fun v i wr => ∃ (k : Nat) (l : List (Int × Int)), k ≤ n ∧ i = .int .i64 k ∧ parseAll (ws.take k) = some l ∧ wr.ownsRow w1.heap.size 148 2 v k (flat l) ∧ Below w1.heap.size w1 wr) (fun _ i _ => n - (intOf i).toNat)
  case atStart => exact ⟨0, [], Nat.zero_le _, rfl, rfl, World.ownsRow_nil _ _ _ _, Below.refl _ _⟩
  case round =>
    obtain ⟨k, l, hk, rfl, hpl, hown, hbr⟩ := hrel
    have HPL := hide hpl
    have HOWN := hide hown
    have HBR := hide hbr
    clear hpl hown
    by_cases hlt : k < n
    · have hlk : k < ws.length := by rw [unhide HN]; exact hlt
      have c1 := (unhide HCW) k hlt
      rw [← hbr.cell (p := ⟨bw, k, none⟩) hbw] at c1
      obtain ⟨x, hx⟩ : ∃ x, x = ws.getD k ⟨#[]⟩ := ⟨_, rfl⟩
      rw [← hx] at c1
      have hx' : x = ws[k] := by rw [hx]; simp [hlk]
      have hxs : x.size ≤ 4000 := Nat.le_trans ((unhide HSM) x (by rw [hx']; exact List.getElem_mem hlk)) hs
      have hbwr : Below w.heap.size w wr := bel_tw (unhide HB1) hbr
      have PO := hide (parseOrder_any x hxs wr ((unhide HE).later hbwr))
      have HX := hide hx'
      cases hq : parseW x with
      | none =>
        rw [hq] at PO
        have HQ := hide hq
        have HBW := hide hbwr
        clear hbr hx hx' hxs hbwr hq
        go_wp2_with fail
        refine (unhide PO).mono ?_
        rintro e w2 ⟨rfl, hb2⟩
        have HB2 := hide (bel_tw (unhide HBW) hb2)
        clear hb2
        go_wp2
        go_ret2
        have hd := parseAll_dead (ws := ws) hlk (by rw [← unhide HX]; exact unhide HQ)
        rw [unhide HEE, unhide HEL, hd]
        exact ⟨_, rfl, World.ownsRow_nil _ _ _ _, (unhide HB2).alloc (unhide HB2).size _⟩
      | some q =>
        rw [hq] at PO
        have HQ := hide hq
        obtain ⟨q1, q2⟩ := q
        clear hbr hx hx' hxs hbwr hq
        go_wp2_with fail
        refine (unhide PO).mono ?_
        rintro e w2 ⟨rfl, hb2⟩
        have hbr2 : Below w1.heap.size w1 w2 := (unhide HBR).trans (hb2.mono (unhide HBR).size)
        have hown2 : w2.ownsRow w1.heap.size 148 2 _ k (flat l) := own_keep (unhide HOWN) hb2
        have HBR2 := hide hbr2
        have HOWN2 := hide ((hown2.alloc (.cells #[.int .i64 q1, .int .i64 q2] 148)).alloc (.cells #[.int .i64 q1, .int .i64 q2] 148))
        clear hb2 hbr2 hown2
        have CP : Hid (∀ (j : Nat) (u : Value), ([.int .i64 q1, .int .i64 q2] : List Value)[j]? = some u → ((w2.alloc (.cells #[.int .i64 q1, .int .i64 q2] 148)).alloc (.cells #[.int .i64 q1, .int .i64 q2] 148)).cell? ((⟨w2.heap.size + 1, 0, none⟩ : Addr).add j) = some u) := fun j u hj => by
          have h := cell_pair (w2.alloc (.cells #[.int .i64 q1, .int .i64 q2] 148)) (.int .i64 q1) (.int .i64 q2) 148 j u hj
          rw [show (w2.alloc (.cells #[.int .i64 q1, .int .i64 q2] 148)).heap.size = w2.heap.size + 1 by simp] at h
          exact h
        have HSZ := hide (unhide HBR2).size
        go_wp2_with (at_builtin; refine wpList_append_own _ rfl _ _ 82 rfl w1.heap.size 148 i0 (.agg #[.int .i64 0, .int .i64 0]) 2 16 Tryz.underlying82 hi hz0 hz1 hz2 rfl (by decide) _ _ _ rfl (unhide HOWN2) ⟨w2.heap.size + 1, 0, none⟩ 1 1 [.int .i64 q1, .int .i64 q2] rfl rfl (unhide CP) (fun u hu => by simp at hu; rcases hu with rfl | rfl <;> rfl) (by unfold maxLen; omega) (by omega) (by have := unhide HSZ; simp; omega) ?_; intro v' w3 hown3 hgrow3 _)
        have HOWN3 : Hid (w3.ownsRow w1.heap.size 148 2 v' (k + 1) (flat (l ++ [(q1, q2)]))) := by rw [flat_snoc]; exact hown3
        have HB3 : Hid (Below w1.heap.size w1 w3) := ((((unhide HBR2).alloc (unhide HSZ) _).alloc (by have := unhide HSZ; simp; omega) _).grown hgrow3 (by have := unhide HSZ; simp; omega) (own_ge (unhide HOWN2)))
        clear hown3 hgrow3
        go_wp2
        go_roundw
        case rel =>
          refine ⟨k + 1, l ++ [(q1, q2)], by omega, by go_num, ?_, unhide HOWN3, unhide HB3⟩
          rw [List.take_succ_eq_append_getElem hlk, parseAll_snoc, unhide HPL, ← unhide HX, unhide HQ]; rfl
        case measure => simp [intOf]; omega
    · have e : k = n := by omega
      subst e
      obtain ⟨a', cap', hv, hO⟩ := ops_of_own (unhide HOWN)
      subst hv
      have hpa : parseAll ws = some l := by
        have h1 := unhide HPL
        rw [← unhide HN, List.take_length] at h1
        exact h1
      have hll : l.length = k := hO.1
      have HPA := hide hpa
      have HLL := hide hll
      have HBW := hide (bel_tw (unhide HB1) hbr)
      have CK := hide (check_any a' k cap' l wr hO)
      clear hk hlt hbr hO hpa hll
      by_cases hck : chk l = 0
      · rw [hck] at CK
        have HCK := hide hck
        clear hck
        go_wp2_with fail
        refine (unhide CK).mono ?_
        rintro e w2 ⟨rfl, hb2⟩
        have HO2 := hide (own_base (own_keep (unhide HOWN) hb2) (unhide HB1).size)
        have HB2 := hide (bel_tw (unhide HBW) hb2)
        clear hb2
        go_wp2
        go_ret2
        have e1 : prE s = 0 := by rw [unhide HEE, unhide HPA]; exact unhide HCK
        have e2 : prL s = l := by rw [unhide HEL, unhide HPA]; simp [unhide HCK]
        rw [e1, e2, unhide HLL]
        exact ⟨_, rfl, unhide HO2, unhide HB2⟩
      · obtain ⟨x, hx⟩ : ∃ x, x = chk l := ⟨_, rfl⟩
        rw [← hx] at CK hck
        have hx1 : (x != 0) = true := by simp [hck]
        have HX := hide hx
        have HCK := hide hck
        clear hck hx
        go_wp2_with fail
        refine (unhide CK).mono ?_
        rintro e w2 ⟨rfl, hb2⟩
        have HB2 := hide (bel_tw (unhide HBW) hb2)
        clear hb2
        go_wp2
        go_ret2
        have e1 : prE s = x := by rw [unhide HEE, unhide HPA]; exact (unhide HX).symm
        have e2 : prL s = [] := by
          rw [unhide HEL, unhide HPA]
          show (if chk l = 0 then l else []) = []
          rw [if_neg (by rw [← unhide HX]; exact unhide HCK)]
        rw [e1, e2]
        exact ⟨_, rfl, World.ownsRow_nil _ _ _ _, unhide HB2⟩

theorem parse_own (s : ByteArray) (w : World) (hE : EnvP w) :
    Calls Tryz.prog 171 #[.string s] w fun e w' => ∃ v, e = .returned (.tuple #[v, .int .i64 (prE s)]) ∧ w'.ownsRow w.heap.size 148 2 v (prL s).length (flat (prL s)) ∧ Below w.heap.size w w' := by
  by_cases hs : 4000 < s.size
  · have e1 : prE s = 2 := by unfold prE; rw [if_pos hs]
    have e2 : prL s = [] := by unfold prL; rw [if_pos hs]
    rw [e1, e2]
    exact (read_long s hs w).mono fun e w' ⟨h1, h2⟩ => ⟨_, h1, World.ownsRow_nil _ _ _ _, h2 ▸ Below.refl _ _⟩
  · by_cases h0 : (wordsOf s).length = 0
    · have ew : wordsOf s = [] := List.length_eq_zero_iff.1 h0
      have e1 : prE s = 0 := by unfold prE; rw [if_neg hs, ew]; rfl
      have e2 : prL s = [] := by unfold prL; rw [if_neg hs, ew]; rfl
      rw [e1, e2]
      exact (read_none s (by omega) h0 w hE).mono fun e w' ⟨h1, h2⟩ => ⟨_, h1, World.ownsRow_nil _ _ _ _, h2⟩
    · exact readO_some s (by omega) (by omega) w hE

end Go.Proofs.YtepmnpapdknocaaGreatDoor
