/- Contracts of Path, Work and Best. -/
import Derived.Test.YtmomfkikogbdeaaGreatDoorTrPathToTrCheck
import Derived.WalkKit
import Derived.Deep.RegionLaw
import Derived.Deep.AppendLies
namespace Go.Proofs.YtmomfkikogbdeaaGreatDoor.Tr
open Go.RowKit

theorem chkGo_heads : ∀ (M : List Int) (U : List BlkD) (N : List Int) (T : List BlkD), M.length = U.length → chkGo N T M U = 0 → HeadsOk U
  | [], [], _, _, _, _ => fun b hb => by cases hb
  | [], _ :: _, _, _, h, _ => by cases h
  | _ :: _, [], _, _, h, _ => by cases h
  | x :: M, b :: U, N, T, h, hc => by
    rw [chkGo] at hc
    split at hc
    · next q => exact absurd hc q
    · next q =>
      have h1 := chkB_head (next_chk (Classical.not_not.1 q))
      have h2 := chkGo_heads M U _ _ (by simpa using h) hc
      intro y hy
      rcases List.mem_cons.1 hy with rfl | hy
      · exact h1
      · exact h2 y hy
theorem chkTr_ok {N : List Int} {T : List BlkD} (h : chkTr N T = 0) : N.length = T.length ∧ N.length ≤ 24 ∧ HeadsOk T ∧ chkGo [] [] N T = 0 := by
  unfold chkTr at h
  split at h
  · cases h
  · next q =>
    split at h
    · cases h
    · next q2 => exact ⟨Classical.not_not.1 q, by omega, chkGo_heads N T [] [] (Classical.not_not.1 q) h, h⟩
theorem pathTo_at (a b : Option Addr) (n c d : Nat) (N : List Int) (T : List BlkD) (s : Int) (P : List Int) (pn : Nat) (w : World) (hn : n ≤ maxLen) (hN : IntsAt w a n N) (hT : BlksAt w b n T) (hH : HeadsOk T) (hP : pthD N T s = P) (hpn : P.length = pn) :
    Calls Tryz.prog 131 #[.agg #[.slice a n c, .slice b n d], .int .i64 s] w fun e w' => ∃ v, e = .returned v ∧ w'.ownsRow w.heap.size 3 1 v pn (P.map (Value.int .i64)) ∧ Below w.heap.size w w' := by
  subst hP hpn
  exact pathTo_is a b n c d N T s w hn hN hT hH

set_option maxRecDepth 10000 in
set_option maxHeartbeats 1600000 in
theorem path_is (a b : Option Addr) (n c m d : Nat) (N : List Int) (T : List BlkD) (s : Int) (P : List Int) (pn : Nat) (x : Int) (w : World) (hN : IntsAt w a n N) (hT : BlksAt w b m T) (sN : SlOk a n c) (sT : SlOk b m d) (hx : pathE N T s = (P, x)) (hpn : P.length = pn) :
    Calls Tryz.prog 56 #[.agg #[.slice a n c, .slice b m d], .int .i64 s] w fun e w' => ∃ v, e = .returned (.tuple #[v, .int .i64 x]) ∧ w'.ownsRow w.heap.size 3 1 v pn (P.map (Value.int .i64)) ∧ Below w.heap.size w w' := by
  obtain ⟨X, hX⟩ : ∃ X, X = w.alloc (.cells #[.slice a n c, .slice b m d] 28) := ⟨_, rfl⟩
  have hbX : Below w.heap.size w X := by rw [hX]; exact bel_new _ _
  have hX0 : X.heap[w.heap.size]? = some (.cells [.slice a n c, .slice b m d].toArray 28 (0, 0)) := by rw [hX]; exact two_heap _ _ _ _
  have HB := hide hbX
  have HX0 := hide hX0
  obtain ⟨y, hy⟩ : ∃ y, chkTr N T = y := ⟨_, rfl⟩
  have C1 := hide (trCheck_any a b n c m d N T y X (hN.later hbX) (hT.later hbX) sN sT hy)
  have x0 := cell_of hX0 0 _ rfl
  have x1 := cell_of hX0 1 _ rfl
  have xl := lt_of_block hX0
  unfold pathE at hx
  rw [hy] at hx
  by_cases q : y = 0
  · subst q
    rw [if_neg (by simp)] at hx
    obtain ⟨hl, h24, hH, _⟩ := chkTr_ok hy
    obtain rfl : n = m := by rw [← hN.1, ← hT.1, hl]
    have hnm : n ≤ maxLen := sN.len
    obtain ⟨o, ho⟩ : ∃ o, decide (s ∈ N) = o := ⟨_, rfl⟩
    rw [ho] at hx
    have C2 := hide (fun W (hb : Below X.heap.size X W) => has_is a b n c n d N s o W hnm (hN.later (bel_on hbX hb)) ho)
    have C3 := hide (fun W (hb : Below X.heap.size X W) (hP : pthD N T s = P) => pathTo_at a b n c d N T s P pn W hnm (hN.later (bel_on hbX hb)) (hT.later (bel_on hbX hb)) hH hP hpn)
    have HXX := hide hx
    have HPN := hide hpn
    clear hbX hX0 hN hT sN sT hy hx hl h24 hH ho hpn hnm
    by_cases q1 : s = 0
    · subst q1
      have R : Hid (pthD N T 0 = P ∧ 0 = x) := by
        have h := unhide HXX
        rw [if_neg (by simp)] at h
        exact ⟨congrArg Prod.fst h, congrArg Prod.snd h⟩
      clear HXX C2
      obtain rfl : 0 = x := (unhide R).2
      go_enter Tryz.func56, Tryz.ntmps56
      go_wp2_with fail
      rw [← hX]
      clear hX
      refine (unhide C1).mono ?_
      rintro e w1 ⟨rfl, hb1⟩
      have CC := hide ((unhide C3) _ hb1 (unhide R).1)
      have hc := (hb1.block _ (lt_of_block (unhide HX0))).trans (unhide HX0)
      have t0 := cell_of hc 0 _ rfl
      have t1 := cell_of hc 1 _ rfl
      have tl := lt_of_block hc
      have HB1 := hide (bel_on (unhide HB) hb1)
      clear hb1 x0 x1 xl hc C1 C3
      go_wp2_with fail
      refine (unhide CC).mono ?_
      rintro e w2 ⟨v, rfl, ho2, hb2⟩
      have R2 := hide (own_weak ho2 (unhide HB1).size)
      have HB2 := hide (bel_on (unhide HB1) hb2)
      clear ho2 hb2
      go_wp2
      go_ret2
      exact ⟨v, rfl, unhide R2, unhide HB2⟩
    · have g1 : (s != 0) = true := by simp [q1]
      cases o with
      | false =>
        have R : Hid (([] : List Int) = P ∧ 5 = x) := by
          have h := unhide HXX
          rw [if_pos ⟨q1, rfl⟩] at h
          exact ⟨congrArg Prod.fst h, congrArg Prod.snd h⟩
        clear HXX C3
        obtain ⟨rfl, rfl⟩ := unhide R
        obtain rfl : 0 = pn := unhide HPN
        clear q1
        go_enter Tryz.func56, Tryz.ntmps56
        go_wp2_with fail
        rw [← hX]
        clear hX
        refine (unhide C1).mono ?_
        rintro e w1 ⟨rfl, hb1⟩
        have CC := hide ((unhide C2) _ hb1)
        have hc := (hb1.block _ (lt_of_block (unhide HX0))).trans (unhide HX0)
        have t0 := cell_of hc 0 _ rfl
        have t1 := cell_of hc 1 _ rfl
        have tl := lt_of_block hc
        have HB1 := hide (bel_on (unhide HB) hb1)
        clear hb1 x0 x1 xl hc C1 C2
        go_wp2_with fail
        refine (unhide CC).mono ?_
        rintro e w2 ⟨rfl, hb2⟩
        have HB2 := hide (bel_on (unhide HB1) hb2)
        clear hb2
        go_wp2
        go_ret2
        exact ⟨_, rfl, World.ownsRow_nil _ _ _ _, unhide HB2⟩
      | true =>
        have R : Hid (pthD N T s = P ∧ 0 = x) := by
          have h := unhide HXX
          rw [if_neg (by simp)] at h
          exact ⟨congrArg Prod.fst h, congrArg Prod.snd h⟩
        clear HXX
        obtain rfl : 0 = x := (unhide R).2
        clear q1
        go_enter Tryz.func56, Tryz.ntmps56
        go_wp2_with fail
        rw [← hX]
        clear hX
        refine (unhide C1).mono ?_
        rintro e w1 ⟨rfl, hb1⟩
        have CC := hide ((unhide C2) _ hb1)
        have HB0 := hide hb1
        have hc := (hb1.block _ (lt_of_block (unhide HX0))).trans (unhide HX0)
        have t0 := cell_of hc 0 _ rfl
        have t1 := cell_of hc 1 _ rfl
        have tl := lt_of_block hc
        clear hb1 x0 x1 xl hc C1 C2
        go_wp2_with fail
        refine (unhide CC).mono ?_
        rintro e w2 ⟨rfl, hb2⟩
        have HB2 := hide (bel_on (unhide HB) (bel_on (unhide HB0) hb2))
        have CC := hide ((unhide C3) _ (bel_on (unhide HB0) hb2) (unhide R).1)
        have k0 := cell_later hb2 t0
        have k1 := cell_later hb2 t1
        have kl := Nat.lt_of_lt_of_le tl hb2.size
        clear hb2 t0 t1 tl HB0 C3
        go_wp2_with fail
        refine (unhide CC).mono ?_
        rintro e w3 ⟨v, rfl, ho3, hb3⟩
        have R2 := hide (own_weak ho3 (unhide HB2).size)
        have HB3 := hide (bel_on (unhide HB2) hb3)
        clear ho3 hb3
        go_wp2
        go_ret2
        exact ⟨v, rfl, unhide R2, unhide HB3⟩
  · rw [if_pos q] at hx
    obtain ⟨rfl, rfl⟩ : ([] : List Int) = P ∧ y = x := ⟨congrArg Prod.fst hx, congrArg Prod.snd hx⟩
    obtain rfl : 0 = pn := hpn
    have g : (y != 0) = true := by simp [q]
    clear hbX hX0 hN hT sN sT hy hx q
    go_enter Tryz.func56, Tryz.ntmps56
    go_wp2_with fail
    rw [← hX]
    clear hX
    refine (unhide C1).mono ?_
    rintro e w1 ⟨rfl, hb1⟩
    have HB1 := hide (bel_on (unhide HB) hb1)
    clear hb1 x0 x1 xl
    go_wp2
    go_ret2
    exact ⟨_, rfl, World.ownsRow_nil _ _ _ _, unhide HB1⟩

theorem pathE_ok {N : List Int} {T : List BlkD} {s : Int} (h : (pathE N T s).2 = 0) : chkTr N T = 0 ∧ (s = 0 ∨ s ∈ N) ∧ (pathE N T s).1 = pthD N T s := by
  unfold pathE at h ⊢
  by_cases q : chkTr N T = 0
  · rw [if_neg (by simp [q])] at h ⊢
    by_cases q1 : s ≠ 0 ∧ decide (s ∈ N) = false
    · rw [if_pos q1] at h; cases h
    · rw [if_neg q1]
      refine ⟨q, ?_, rfl⟩
      by_cases e : s = 0
      · exact .inl e
      · right
        by_cases e2 : s ∈ N
        · exact e2
        · exact absurd ⟨e, by simp [e2]⟩ q1
  · rw [if_pos q] at h; exact absurd h q

end Go.Proofs.YtmomfkikogbdeaaGreatDoor.Tr

/- Calls and appends as steps of a region that draws, guarded or not. Nothing of the program. -/
namespace Go.Proofs.YtmomfkikogbdeaaGreatDoor
open Go.RowKit

theorem step_call_w {P : Program} {ops : Array Oper} {o : Oper} {a : Act} {w : World} {K : Act → World → Prop} {Q : Exit → Act → World → Prop} {E : Prop}
    (hw : Region.wanted o (yielded ops a.tmps) = true) (f : FuncId) (vs : Array Value) (he : (execOp a.eval o).run P w = .ok (.enter f vs) w) {R : Ending → World → Prop} (hc : Calls P f vs w R) (h : ∀ e w', R e w' → ∃ v, e = .returned v ∧ K (a.put o.dst v) w') :
    if Region.wanted o (yielded ops a.tmps) = true then Oper.wp P o a w K Q else E := by
  rw [if_pos hw]
  unfold Oper.wp
  rw [he, Oper.upon_enter]
  refine hc.mono ?_
  intro e w' hr
  obtain ⟨v, rfl, hk⟩ := h e w' hr
  exact hk
theorem step_call_go {P : Program} {ops : Array Oper} {o : Oper} {a : Act} {w : World} {K : Act → World → Prop} {Q : Exit → Act → World → Prop} {E : Prop}
    (hg : o.guard = none) (f : FuncId) (vs : Array Value) (he : (execOp a.eval o).run P w = .ok (.enter f vs) w) {R : Ending → World → Prop} (hc : Calls P f vs w R) (h : ∀ e w', R e w' → ∃ v, e = .returned v ∧ K (a.put o.dst v) w') :
    if Region.wanted o (yielded ops a.tmps) = true then Oper.wp P o a w K Q else E :=
  step_call_w (by simp [Region.wanted, hg]) f vs he hc h
end Go.Proofs.YtmomfkikogbdeaaGreatDoor
