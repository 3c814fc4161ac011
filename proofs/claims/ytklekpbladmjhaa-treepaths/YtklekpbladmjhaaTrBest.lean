/- Contracts of Path, Work and Best. -/
import Derived.Test.YtklekpbladmjhaaTrPath
import Derived.Test.YtklekpbladmjhaaTrCheck
namespace Go.Proofs.Ytklekpbladmjhaa
open Go.RowKit

theorem chkGo_heads : ∀ (M : List Int) (U : List BlkD) (N : List Int) (T : List BlkD), M.length = U.length → chkGo N T M U = 0 → HeadsOk U
  | [], [], _, _, _, _ => fun b hb => by cases hb
  | [], _ :: _, _, _, h, _ => by cases h
  | _ :: _, [], _, _, h, _ => by cases h
  | x :: M, b :: U, N, T, h, hc => by
    rw [chkGo] at hc
    split at hc
    · next q => exact absurd hc q
    · next q =>
      have h1 := chkB_head (next_chk (Classical.not_not.1 q))
      have h2 := chkGo_heads M U _ _ (by simpa using h) hc
      intro y hy
      rcases List.mem_cons.1 hy with rfl | hy
      · exact h1
      · exact h2 y hy
theorem chkTr_ok {N : List Int} {T : List BlkD} (h : chkTr N T = 0) : N.length = T.length ∧ N.length ≤ 24 ∧ HeadsOk T ∧ chkGo [] [] N T = 0 := by
  unfold chkTr at h
  split at h
  · cases h
  · next q =>
    split at h
    · cases h
    · next q2 => exact ⟨Classical.not_not.1 q, by omega, chkGo_heads N T [] [] (Classical.not_not.1 q) h, h⟩
theorem pth_len {N : List Int} {T : List BlkD} (h : HeadsOk T) (s : Int) : (pthD N T s).length ≤ 1000 := by
  unfold pthD
  rw [upD_len]
  have := (fnd_ok h s N)
  omega
theorem pathTo_at (a b : Option Addr) (n c d : Nat) (N : List Int) (T : List BlkD) (s : Int) (P : List Int) (pn : Nat) (w : World) (hn : n ≤ maxLen) (hN : IntsAt w a n N) (hT : BlksAt w b n T) (hH : HeadsOk T) (hP : pthD N T s = P) (hpn : P.length = pn) :
    Calls Try.prog 40 #[.agg #[.slice a n c, .slice b n d], .int .i64 s] w fun e w' => ∃ v, e = .returned v ∧ w'.ownsRow w.heap.size 3 1 v pn (P.map (Value.int .i64)) ∧ Below w.heap.size w w' := by
  subst hP hpn
  exact pathTo_is a b n c d N T s w hn hN hT hH

set_option maxRecDepth 10000 in
set_option maxHeartbeats 1600000 in
theorem path_is (a b : Option Addr) (n c m d : Nat) (N : List Int) (T : List BlkD) (s : Int) (P : List Int) (pn : Nat) (x : Int) (w : World) (hN : IntsAt w a n N) (hT : BlksAt w b m T) (sN : SlOk a n c) (sT : SlOk b m d) (hx : pathE N T s = (P, x)) (hpn : P.length = pn) :
    Calls Try.prog 17 #[.agg #[.slice a n c, .slice b m d], .int .i64 s] w fun e w' => ∃ v, e = .returned (.tuple #[v, .int .i64 x]) ∧ w'.ownsRow w.heap.size 3 1 v pn (P.map (Value.int .i64)) ∧ Below w.heap.size w w' := by
  obtain ⟨X, hX⟩ : ∃ X, X = w.alloc (.cells #[.slice a n c, .slice b m d] 25) := ⟨_, rfl⟩
  have hbX : Below w.heap.size w X := by rw [hX]; exact bel_new _ _
  have hX0 : X.heap[w.heap.size]? = some (.cells [.slice a n c, .slice b m d].toArray 25 (0, 0)) := by rw [hX]; exact two_heap _ _ _ _
  have HB := hide hbX
  have HX0 := hide hX0
  obtain ⟨y, hy⟩ : ∃ y, chkTr N T = y := ⟨_, rfl⟩
  have C1 := hide (trCheck_any a b n c m d N T y X (hN.later hbX) (hT.later hbX) sN sT hy)
  have x0 := cell_of hX0 0 _ rfl
  have x1 := cell_of hX0 1 _ rfl
  have xl := lt_of_block hX0
  unfold pathE at hx
  rw [hy] at hx
  by_cases q : y = 0
  · subst q
    rw [if_neg (by simp)] at hx
    obtain ⟨hl, h24, hH, _⟩ := chkTr_ok hy
    obtain rfl : n = m := by rw [← hN.1, ← hT.1, hl]
    have hnm : n ≤ maxLen := sN.len
    obtain ⟨o, ho⟩ : ∃ o, decide (s ∈ N) = o := ⟨_, rfl⟩
    rw [ho] at hx
    have C2 := hide (fun W (hb : Below X.heap.size X W) => has_is a b n c n d N s o W hnm (hN.later (bel_on hbX hb)) ho)
    have C3 := hide (fun W (hb : Below X.heap.size X W) (hP : pthD N T s = P) => pathTo_at a b n c d N T s P pn W hnm (hN.later (bel_on hbX hb)) (hT.later (bel_on hbX hb)) hH hP hpn)
    have HXX := hide hx
    have HPN := hide hpn
    clear hbX hX0 hN hT sN sT hy hx hl h24 hH ho hpn hnm
    by_cases q1 : s = 0
    · subst q1
      have R : Hid (pthD N T 0 = P ∧ 0 = x) := by
        have h := unhide HXX
        rw [if_neg (by simp)] at h
        exact ⟨congrArg Prod.fst h, congrArg Prod.snd h⟩
      clear HXX C2
      obtain rfl : 0 = x := (unhide R).2
      go_enter Try.func17, Try.ntmps17
      go_wp2_with fail
      rw [← hX]
      clear hX
      refine (unhide C1).mono ?_
      rintro e w1 ⟨rfl, hb1⟩
      have CC := hide ((unhide C3) _ hb1 (unhide R).1)
      have hc := (hb1.block _ (lt_of_block (unhide HX0))).trans (unhide HX0)
      have t0 := cell_of hc 0 _ rfl
      have t1 := cell_of hc 1 _ rfl
      have tl := lt_of_block hc
      have HB1 := hide (bel_on (unhide HB) hb1)
      clear hb1 x0 x1 xl hc C1 C3
      go_wp2_with fail
      refine (unhide CC).mono ?_
      rintro e w2 ⟨v, rfl, ho2, hb2⟩
      have R2 := hide (own_weak ho2 (unhide HB1).size)
      have HB2 := hide (bel_on (unhide HB1) hb2)
      clear ho2 hb2
      go_wp2
      go_ret2
      exact ⟨v, rfl, unhide R2, unhide HB2⟩
    · have g1 : (s != 0) = true := by simp [q1]
      cases o with
      | false =>
        have R : Hid (([] : List Int) = P ∧ 5 = x) := by
          have h := unhide HXX
          rw [if_pos ⟨q1, rfl⟩] at h
          exact ⟨congrArg Prod.fst h, congrArg Prod.snd h⟩
        clear HXX C3
        obtain ⟨rfl, rfl⟩ := unhide R
        obtain rfl : 0 = pn := unhide HPN
        clear q1
        go_enter Try.func17, Try.ntmps17
        go_wp2_with fail
        rw [← hX]
        clear hX
        refine (unhide C1).mono ?_
        rintro e w1 ⟨rfl, hb1⟩
        have CC := hide ((unhide C2) _ hb1)
        have hc := (hb1.block _ (lt_of_block (unhide HX0))).trans (unhide HX0)
        have t0 := cell_of hc 0 _ rfl
        have t1 := cell_of hc 1 _ rfl
        have tl := lt_of_block hc
        have HB1 := hide (bel_on (unhide HB) hb1)
        clear hb1 x0 x1 xl hc C1 C2
        go_wp2_with fail
        refine (unhide CC).mono ?_
        rintro e w2 ⟨rfl, hb2⟩
        have HB2 := hide (bel_on (unhide HB1) hb2)
        clear hb2
        go_wp2
        go_ret2
        exact ⟨_, rfl, World.ownsRow_nil _ _ _ _, unhide HB2⟩
      | true =>
        have R : Hid (pthD N T s = P ∧ 0 = x) := by
          have h := unhide HXX
          rw [if_neg (by simp)] at h
          exact ⟨congrArg Prod.fst h, congrArg Prod.snd h⟩
        clear HXX
        obtain rfl : 0 = x := (unhide R).2
        clear q1
        go_enter Try.func17, Try.ntmps17
        go_wp2_with fail
        rw [← hX]
        clear hX
        refine (unhide C1).mono ?_
        rintro e w1 ⟨rfl, hb1⟩
        have CC := hide ((unhide C2) _ hb1)
        have HB0 := hide hb1
        have hc := (hb1.block _ (lt_of_block (unhide HX0))).trans (unhide HX0)
        have t0 := cell_of hc 0 _ rfl
        have t1 := cell_of hc 1 _ rfl
        have tl := lt_of_block hc
        clear hb1 x0 x1 xl hc C1 C2
        go_wp2_with fail
        refine (unhide CC).mono ?_
        rintro e w2 ⟨rfl, hb2⟩
        have HB2 := hide (bel_on (unhide HB) (bel_on (unhide HB0) hb2))
        have CC := hide ((unhide C3) _ (bel_on (unhide HB0) hb2) (unhide R).1)
        have k0 := cell_later hb2 t0
        have k1 := cell_later hb2 t1
        have kl := Nat.lt_of_lt_of_le tl hb2.size
        clear hb2 t0 t1 tl HB0 C3
        go_wp2_with fail
        refine (unhide CC).mono ?_
        rintro e w3 ⟨v, rfl, ho3, hb3⟩
        have R2 := hide (own_weak ho3 (unhide HB2).size)
        have HB3 := hide (bel_on (unhide HB2) hb3)
        clear ho3 hb3
        go_wp2
        go_ret2
        exact ⟨v, rfl, unhide R2, unhide HB3⟩
  · rw [if_pos q] at hx
    obtain ⟨rfl, rfl⟩ : ([] : List Int) = P ∧ y = x := ⟨congrArg Prod.fst hx, congrArg Prod.snd hx⟩
    obtain rfl : 0 = pn := hpn
    have g : (y != 0) = true := by simp [q]
    clear hbX hX0 hN hT sN sT hy hx q
    go_enter Try.func17, Try.ntmps17
    go_wp2_with fail
    rw [← hX]
    clear hX
    refine (unhide C1).mono ?_
    rintro e w1 ⟨rfl, hb1⟩
    have HB1 := hide (bel_on (unhide HB) hb1)
    clear hb1 x0 x1 xl
    go_wp2
    go_ret2
    exact ⟨_, rfl, World.ownsRow_nil _ _ _ _, unhide HB1⟩

theorem pathE_ok {N : List Int} {T : List BlkD} {s : Int} (h : (pathE N T s).2 = 0) : chkTr N T = 0 ∧ (s = 0 ∨ s ∈ N) ∧ (pathE N T s).1 = pthD N T s := by
  unfold pathE at h ⊢
  by_cases q : chkTr N T = 0
  · rw [if_neg (by simp [q])] at h ⊢
    by_cases q1 : s ≠ 0 ∧ decide (s ∈ N) = false
    · rw [if_pos q1] at h; cases h
    · rw [if_neg q1]
      refine ⟨q, ?_, rfl⟩
      by_cases e : s = 0
      · exact .inl e
      · right
        by_cases e2 : s ∈ N
        · exact e2
        · exact absurd ⟨e, by simp [e2]⟩ q1
  · rw [if_pos q] at h; exact absurd h q

set_option maxRecDepth 10000 in
set_option maxHeartbeats 1600000 in
theorem work_is (a b : Option Addr) (n c m d : Nat) (N : List Int) (T : List BlkD) (s z x : Int) (w : World) (hN : IntsAt w a n N) (hT : BlksAt w b m T) (sN : SlOk a n c) (sT : SlOk b m d) (hx : workE N T s = (z, x)) :
    Calls Try.prog 18 #[.agg #[.slice a n c, .slice b m d], .int .i64 s] w fun e w' => e = .returned (.tuple #[.int .i64 z, .int .i64 x]) ∧ Below w.heap.size w w' := by
  obtain ⟨X, hX⟩ : ∃ X, X = w.alloc (.cells #[.slice a n c, .slice b m d] 25) := ⟨_, rfl⟩
  have hbX : Below w.heap.size w X := by rw [hX]; exact bel_new _ _
  have hX0 : X.heap[w.heap.size]? = some (.cells [.slice a n c, .slice b m d].toArray 25 (0, 0)) := by rw [hX]; exact two_heap _ _ _ _
  have HB := hide hbX
  have HX0 := hide hX0
  obtain ⟨P, y, hP⟩ : ∃ P y, pathE N T s = (P, y) := ⟨_, _, rfl⟩
  obtain ⟨pn, hpn⟩ : ∃ pn, P.length = pn := ⟨_, rfl⟩
  have C1 := hide (path_is a b n c m d N T s P pn y X (hN.later hbX) (hT.later hbX) sN sT hP hpn)
  have x0 := cell_of hX0 0 _ rfl
  have x1 := cell_of hX0 1 _ rfl
  have xl := lt_of_block hX0
  unfold workE at hx
  have hok := pathE_ok (N := N) (T := T) (s := s)
  rw [hP] at hx hok
  by_cases q : y = 0
  · subst q
    rw [if_neg (by simp)] at hx
    obtain ⟨hc0, _, hp⟩ := hok rfl
    obtain ⟨hl, h24, hH, _⟩ := chkTr_ok hc0
    obtain rfl : n = m := by rw [← hN.1, ← hT.1, hl]
    have hnm : n ≤ maxLen := sN.len
    have hpl : pn ≤ 1000 := by rw [← hpn]; simp only at hp; rw [hp]; exact pth_len hH s
    obtain ⟨hz, rfl⟩ : wkGo N T 0 P = z ∧ 0 = x := ⟨congrArg Prod.fst hx, congrArg Prod.snd hx⟩
    have C2 := hide (fun pa pc W (hb : Below X.heap.size X W) (hPA : IntsAt W pa pn P) => workOf_is a b pa n c d pn pc N T P z W hnm (hN.later (bel_on hbX hb)) (hT.later (bel_on hbX hb)) hPA hpl hH hz)
    clear hbX hX0 hN hT sN sT hP hx hl h24 hH hpn hnm hok hp hc0 hz
    go_enter Try.func18, Try.ntmps18
    go_wp2_with fail
    rw [← hX]
    clear hX
    refine (unhide C1).mono ?_
    rintro e w1 ⟨v, rfl, ho1, hb1⟩
    obtain ⟨pa, pc, rfl, _, hpa⟩ := ints_of_own ho1
    have CC := hide ((unhide C2) pa pc _ hb1 hpa)
    have hc := (hb1.block _ (lt_of_block (unhide HX0))).trans (unhide HX0)
    have t0 := cell_of hc 0 _ rfl
    have t1 := cell_of hc 1 _ rfl
    have tl := lt_of_block hc
    have HB1 := hide (bel_on (unhide HB) hb1)
    clear hb1 x0 x1 xl hc C1 C2 ho1 hpa
    go_wp2_with fail
    refine (unhide CC).mono ?_
    rintro e w2 ⟨rfl, hb2⟩
    have HB2 := hide (bel_on (unhide HB1) hb2)
    clear hb2
    go_wp2
    go_ret2
    exact ⟨rfl, unhide HB2⟩
  · rw [if_pos q] at hx
    obtain ⟨rfl, rfl⟩ : 0 = z ∧ y = x := ⟨congrArg Prod.fst hx, congrArg Prod.snd hx⟩
    have g : (y != 0) = true := by simp [q]
    clear hbX hX0 hN hT sN sT hP hx q hpn hok
    go_enter Try.func18, Try.ntmps18
    go_wp2_with fail
    rw [← hX]
    clear hX
    refine (unhide C1).mono ?_
    rintro e w1 ⟨v, rfl, _, hb1⟩
    have HB1 := hide (bel_on (unhide HB) hb1)
    clear hb1 x0 x1 xl
    go_wp2
    go_ret2
    exact ⟨rfl, unhide HB1⟩

end Go.Proofs.Ytklekpbladmjhaa
