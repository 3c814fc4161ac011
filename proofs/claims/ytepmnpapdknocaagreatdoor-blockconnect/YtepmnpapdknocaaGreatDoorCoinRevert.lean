/- The contract of Revert. -/
import Derived.Test.YtepmnpapdknocaaGreatDoorCoinBackB
namespace Go.Proofs.YtepmnpapdknocaaGreatDoor
open Go.RowKit

/-- What Revert answers. -/
def RvR (w w' : World) (x : Int) (M : List CoinD) (e : Ending) : Prop :=
  ∃ am nm cm, e = .returned (.tuple #[.slice am nm cm, .int .i64 x]) ∧ CoinsAt w' am nm M ∧ SlOk am nm cm ∧ Below w.heap.size w w'
theorem rv_err {w w' : World} {x y : Int} {M : List CoinD} (h : (x, M) = ((y : Int), ([] : List CoinD))) (hb : Below w.heap.size w w') : RvR w w' x M (.returned (.tuple #[.slice none 0 0, .int .i64 y])) := by
  injection h with h1 h3
  subst h1 h3
  exact ⟨none, 0, 0, rfl, RowsAt.nil _ _, slok_nil, hb⟩

set_option maxRecDepth 10000 in
set_option maxHeartbeats 12800000 in
theorem revert_is (a : Option Addr) (n c : Nat) (L : List CoinD) (h : Int) (ai ao : Option Addr) (ni ci no co : Nat) (I : List InD) (O : List OutD) (name : Int) (sa : Option Addr) (ns cs : Nat) (S : List CoinD) (x : Int) (M : List CoinD) (w : World) (hL : CoinsAt w a n L) (sL : SlOk a n c) (hI : InsAt w ai ni I) (hO : OutsAt w ao no O) (sI : SlOk ai ni ci) (hS : CoinsAt w sa ns S) (hx : rvD L (h, I, O) name S = (x, M)) :
    Calls Tryz.prog 32 #[.slice a n c, .agg #[.int .i64 h, .slice ai ni ci, .slice ao no co], .int .i64 name, .agg #[.slice sa ns cs]] w fun e w' => RvR w w' x M e := by
  obtain ⟨X0, hX0⟩ : ∃ X0, X0 = (w.alloc (.cells #[.int .i64 h, .slice ai ni ci, .slice ao no co] 74)).alloc (.cells #[.slice sa ns cs] 68) := ⟨_, rfl⟩
  have hb0 : Below w.heap.size w X0 := by rw [hX0]; exact bel_on (bel_new _ _) (bel_new _ _)
  have hX1 : X0.heap[w.heap.size]? = some (.cells [.int .i64 h, .slice ai ni ci, .slice ao no co].toArray 74 (0, 0)) := by
    rw [hX0, Below.heap_alloc _ _ _ (by simp)]; exact three_heap _ _ _ _ _
  have hX2 : X0.heap[w.heap.size + 1]? = some (.cells [.slice sa ns cs].toArray 68 (0, 0)) := by
    rw [hX0]
    have := heap_alloc_new (w.alloc (.cells #[.int .i64 h, .slice ai ni ci, .slice ao no co] 74)) (.cells #[.slice sa ns cs] 68)
    rw [show (w.alloc (.cells #[.int .i64 h, .slice ai ni ci, .slice ao no co] 74)).heap.size = w.heap.size + 1 by simp] at this
    exact this
  obtain ⟨x1, h1⟩ : ∃ x1, ckBoth L (h, I, O) = x1 := ⟨_, rfl⟩
  obtain ⟨⟨x2, M2⟩, h2⟩ : ∃ r, backGo name 0 O L = r := ⟨_, rfl⟩
  obtain ⟨⟨x3, M3⟩, h3⟩ : ∃ r, putbGo I S M2 = r := ⟨_, rfl⟩
  obtain ⟨x4, h4⟩ : ∃ x4, ckCoins M3 = x4 := ⟨_, rfl⟩
  rw [rvD_eq h1 h2 h3 h4] at hx
  have hlen : S.length = ns ∧ I.length = ni := ⟨hS.1, hI.1⟩
  have C1 := hide (checkBoth_is a n c L h ai ao ni ci no co I O x1 X0 (hL.later hb0) (hI.later hb0) (hO.later hb0) sI h1)
  have HX1 := hide hX1
  have HX2 := hide hX2
  have HB0 := hide hb0
  have y0 := cell_of hX1 0 _ rfl
  have y1 := cell_of hX1 1 _ rfl
  have y2 := cell_of hX1 2 _ rfl
  have hsz : w.heap.size + 1 < X0.heap.size := lt_of_block hX2
  by_cases e1 : x1 = 0
  · subst e1
    rw [if_neg (by decide)] at hx
    obtain ⟨hRC, hTx⟩ := ckBoth_zero h1
    obtain ⟨t1, t2, t3, _⟩ := chkTx_zero hTx
    have hni : ni ≤ 6 := by rw [← hI.1]; exact t1
    have hno : no ≤ 6 := by rw [← hO.1]; exact t2
    have hn : n ≤ 720 := by rw [← hL.1]; exact hRC.len
    by_cases e0 : ns = ni
    · subst e0
      rw [if_neg (by show ¬ S.length ≠ I.length; omega)] at hx
      have OPN := hide (fun w' (hb : Below X0.heap.size X0 w') => uopen_is a n c L w' (by omega) ((hL.later hb0).later hb) sL)
      have HI := hide (fun w' (hb : Below X0.heap.size X0 w') => (hI.later hb0).later hb)
      have HO := hide (fun w' (hb : Below X0.heap.size X0 w') => (hO.later hb0).later hb)
      have HSp := hide (fun w' (hb : Below X0.heap.size X0 w') => (hS.later hb0).later hb)
      have HRC := hide hRC
      have H2 := hide h2
      have H3 := hide h3
      have H4 := hide h4
      have HX := hide hx
      have HZL := hide hL.1
      clear hL sL hI hO sI hS h1 hX1 hX2 hb0 hRC hTx t1 t2 t3 h2 h3 h4 hx hlen
      go_enter Tryz.func32, Tryz.ntmps32
      go_wp2_with fail
      rw [← hX0]
      clear hX0
      refine (unhide C1).mono ?_
      rintro e w2 ⟨rfl, hb2⟩
      have OP2 := hide ((unhide OPN) w2 hb2)
      have HI2 := hide ((unhide HI) w2 hb2)
      have HO2 := hide ((unhide HO) w2 hb2)
      have HS2 := hide ((unhide HSp) w2 hb2)
      have hh2 := (hb2.block _ (lt_of_block (unhide HX1))).trans (unhide HX1)
      have hu2 := (hb2.block _ (lt_of_block (unhide HX2))).trans (unhide HX2)
      have c1 := cell_of hh2 1 _ rfl
      have u0 := cell_of hu2 0 _ rfl
      have HH2 := hide hh2
      have HU2 := hide hu2
      have HB2 := hide (bel_on (unhide HB0) hb2)
      clear hb2 hh2 hu2 y0 y1 y2 OPN HI HO HSp C1
      go_wp2_with fail
      refine (unhide OP2).mono ?_
      rintro e w3 ⟨p, v, K, rfl, hK, hP3⟩
      have hKl : K.length = n := by rw [← unhide HZL, ← hK, List.length_map]
      have hsrt : Srt (K.map (·.1)) := by rw [hK]; exact (unhide HRC).srt
      have TB := hide (takeBack_is w2 w3 p v K ao no co O name x2 M2 hP3 hsrt (by omega) (unhide HO2) hno (by rw [hK]; exact unhide H2))
      have hh3 := (hP3.bel.block _ (lt_of_block (unhide HH2))).trans (unhide HH2)
      have d2 := cell_of hh3 2 _ rfl
      have HKL := hide hKl
      clear hK hP3 hKl hsrt hh3 OP2 c1 u0
      go_wp2_with fail
      refine (unhide TB).mono ?_
      rintro e w4 ⟨rfl, hb4, hgv⟩
      have hh4 := (hb4.block _ (lt_of_block (unhide HH2))).trans (unhide HH2)
      have hu4 := (hb4.block _ (lt_of_block (unhide HU2))).trans (unhide HU2)
      have k1 := cell_of hh4 1 _ rfl
      have k2 := cell_of hu4 0 _ rfl
      have HB4 := hide hb4
      clear hh4 hu4 d2 TB hb4
      by_cases e2 : x2 = 0
      · subst e2
        obtain ⟨v4, K4, r1, r2, r3, r4, r5⟩ := hgv rfl
        have hx := unhide HX
        rw [if_neg (by decide)] at hx
        have HXa := hide hx
        have hKl := unhide HKL
        have PB := hide (putBack_is w2 w4 p v4 K4 ai ns ci I sa cs S x3 M3 r4 (by rw [r1]; exact r2) (by omega) (unhide HI2) (unhide HS2) hni (by rw [r1]; exact unhide H3))
        have hK4 : K4.length ≤ 720 := by omega
        clear hgv hx HX r1 r2 r3 r4 r5 hKl
        go_wp2_with fail
        refine (unhide PB).mono ?_
        rintro e w5 ⟨rfl, hb5, hgv5⟩
        have HB5 := hide hb5
        clear k1 k2 PB hb5
        by_cases e3 : x3 = 0
        · subst e3
          obtain ⟨v5, K5, s1, s2, s3, s4, s5⟩ := hgv5 rfl
          have hx := unhide HXa
          rw [if_neg (by decide)] at hx
          have HXb := hide hx
          obtain ⟨a6, c6, rfl, hc6, hs6⟩ := s4.coins
          obtain ⟨n6, hn6⟩ : ∃ n6, K5.length = n6 := ⟨_, rfl⟩
          rw [s1, hn6] at hc6
          have hbox := s4.box
          rw [hn6] at hbox
          have p6 := cell_of (X := [.slice a6 n6 c6]) hbox 0 _ rfl
          have hn6' : n6 ≤ 726 := by omega
          have CK := hide (uCheck_any a6 n6 c6 M3 x4 w5 hc6 (unhide H4))
          have HC6 := hide hc6
          have HS6 : Hid (SlOk a6 n6 c6) := by rw [← hn6]; exact hs6
          clear hgv5 hx HXa s1 s2 s3 s4 s5 hc6 hs6 hn6 hbox
          go_wp2_with fail
          refine (unhide CK).mono ?_
          rintro e w7 ⟨rfl, hb7⟩
          have p7 := cell_later hb7 p6
          have HC7 := hide ((unhide HC6).later hb7)
          have HB7 : Hid (Below w2.heap.size w2 w7) := (unhide HB5).trans (hb7.mono (unhide HB5).size)
          clear hb7 p6 CK HC6
          by_cases e4 : x4 = 0
          · subst e4
            have hx := unhide HXb
            rw [if_neg (by decide)] at hx
            have hx0 : x = 0 := by injection hx with hx _; exact hx.symm
            have hxM : M = M3 := by injection hx with _ hx; exact hx.symm
            subst hx0 hxM
            have hRM := (ckCoins_zero M).1 (unhide H4)
            have CP := hide (copyCoins_is a6 n6 c6 M w7 (by omega) (unhide HC7) (unhide HS6) (fun z hz => by have := chk_len (ck1_zero (hRM.one z hz)).2.2.2.2.2.2.2.2; omega))
            clear hx HXb hRM
            go_wp2_with fail
            refine (unhide CP).mono ?_
            rintro e w8 ⟨a8, c8, rfl, hf8, hs8, hb8⟩
            have HEND : Hid (RvR w w8 0 M (.returned (.tuple #[.slice a8 n6 c8, .int .i64 0]))) :=
              ⟨a8, n6, c8, rfl, hf8 w8 (Gr.refl _ _), hs8, bel_on (unhide HB2) ((unhide HB7).trans (hb8.mono (unhide HB7).size))⟩
            clear hf8 hs8 hb8 CP p7
            go_wp2
            go_ret2
            exact unhide HEND
          · have g : (x4 != 0) = true := by simp [e4]
            have HE : Hid ((x, M) = ((x4 : Int), ([] : List CoinD))) := by have := unhide HXb; rw [if_pos e4] at this; exact this.symm
            have HBE := hide (bel_on (unhide HB2) (unhide HB7))
            clear e4 p7
            go_wp2
            go_ret2
            exact rv_err (unhide HE) (unhide HBE)
        · have g : (x3 == 0) = false := by simp [e3]
          have g' : (x3 != 0) = true := by simp [e3]
          have HE : Hid ((x, M) = ((x3 : Int), ([] : List CoinD))) := by have := unhide HXa; rw [if_pos e3] at this; exact this.symm
          have HBE := hide (bel_on (unhide HB2) (unhide HB5))
          clear e3 hgv5
          go_wp2
          go_ret2
          exact rv_err (unhide HE) (unhide HBE)
      · have g : (x2 == 0) = false := by simp [e2]
        have g' : (x2 != 0) = true := by simp [e2]
        have HE : Hid ((x, M) = ((x2 : Int), ([] : List CoinD))) := by have := unhide HX; rw [if_pos e2] at this; exact this.symm
        have HBE := hide (bel_on (unhide HB2) (unhide HB4))
        clear e2 hgv k1 k2
        go_wp2
        go_ret2
        exact rv_err (unhide HE) (unhide HBE)
    · have HE : Hid ((x, M) = ((4 : Int), ([] : List CoinD))) := by rw [if_pos (by show S.length ≠ I.length; omega)] at hx; exact hx.symm
      have g : ((ns : Int) != (ni : Int)) = true := by simp; omega
      clear hL sL hI hO sI hS h1 hX1 hX2 hb0 hRC hTx t1 t2 t3 h2 h3 h4 hx hlen e0
      go_enter Tryz.func32, Tryz.ntmps32
      go_wp2_with fail
      rw [← hX0]
      clear hX0
      refine (unhide C1).mono ?_
      rintro e w2 ⟨rfl, hb2⟩
      have hh2 := (hb2.block _ (lt_of_block (unhide HX1))).trans (unhide HX1)
      have hu2 := (hb2.block _ (lt_of_block (unhide HX2))).trans (unhide HX2)
      have c1 := cell_of hh2 1 _ rfl
      have u0 := cell_of hu2 0 _ rfl
      have HB2 := hide (bel_on (unhide HB0) hb2)
      clear hb2 hh2 hu2 y0 y1 y2
      go_wp2
      go_ret2
      exact rv_err (unhide HE) (unhide HB2)
  · have g : (x1 != 0) = true := by simp [e1]
    have HE : Hid ((x, M) = ((x1 : Int), ([] : List CoinD))) := by rw [if_pos e1] at hx; exact hx.symm
    clear hL sL hI hO sI hS h1 hX1 hX2 hb0 h2 h3 h4 hx e1 hlen
    go_enter Tryz.func32, Tryz.ntmps32
    go_wp2_with fail
    rw [← hX0]
    clear hX0
    refine (unhide C1).mono ?_
    rintro e w2 ⟨rfl, hb2⟩
    have HB2 := hide (bel_on (unhide HB0) hb2)
    clear hb2 y0 y1 y2
    go_wp2
    go_ret2
    exact rv_err (unhide HE) (unhide HB2)

end Go.Proofs.YtepmnpapdknocaaGreatDoor
