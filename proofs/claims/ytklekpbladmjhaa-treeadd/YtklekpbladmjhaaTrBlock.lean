/- The contract of tree.Block. -/
import Derived.Test.YtklekpbladmjhaaTrAdd
namespace Go.Proofs.Ytklekpbladmjhaa
open Go.RowKit

def blockE (N : List Int) (T : List BlkD) (s : Int) : BlkD × Int :=
  if chkTr N T ≠ 0 then (zeroB, chkTr N T) else if decide (s ∈ N) = true then (fnd s N T, 0) else (zeroB, 5)
theorem fnd_at {N : List Int} {T : List BlkD} {s : Int} (hl : N.length = T.length) (h : s ∈ N) : fnd s N T ∈ T := by
  rcases idxI_fnd s N T 0 hl with ⟨_, q, _⟩ | ⟨i, hi, _, _, q⟩
  · exact absurd h q
  · rw [q]; exact List.getElem_mem hi

/-- What Block answers. -/
def BlockR (w w' : World) (x : BlkD) (y : Int) (e : Ending) : Prop :=
  ∃ ta tn tc, e = .returned (.tuple #[.agg #[.int .i64 x.1, .int .i64 x.2.1, .int .i64 x.2.2.1, .int .i64 x.2.2.2.1, .slice ta tn tc], .int .i64 y]) ∧ TxsAt w' ta tn x.2.2.2.2 ∧ SlOk ta tn tc ∧ Below w.heap.size w w'
theorem blockR_nil {w w' : World} {y : Int} (hb : Below w.heap.size w w') : BlockR w w' zeroB y (.returned (.tuple #[.agg #[.int .i64 0, .int .i64 0, .int .i64 0, .int .i64 0, .slice none 0 0], .int .i64 y])) :=
  ⟨none, 0, 0, rfl, RowsAt.nil _ _, ⟨Nat.le_refl _, Nat.zero_le _, fun _ => ⟨rfl, rfl⟩⟩, hb⟩
theorem box5_gr (W : World) (t : Nat) (a b c d e : Value) : Gr W (((((W.setCell ⟨t, 0, none⟩ a).setCell ⟨t, 1, none⟩ b).setCell ⟨t, 2, none⟩ c).setCell ⟨t, 3, none⟩ d).setCell ⟨t, 4, none⟩ e) (fun q => q = t) :=
  (((((Gr.refl W (fun q => q = t)).one t 0 (.inl rfl) _).one t 1 (.inl rfl) _).one t 2 (.inl rfl) _).one t 3 (.inl rfl) _).one t 4 (.inl rfl) _

set_option maxRecDepth 10000 in
set_option maxHeartbeats 6400000 in
theorem block_is (a b : Option Addr) (n c m d : Nat) (N : List Int) (T : List BlkD) (s : Int) (x : BlkD) (y : Int) (w : World) (hN : IntsAt w a n N) (hT : BlksAt w b m T) (sN : SlOk a n c) (sT : SlOk b m d) (hx : blockE N T s = (x, y)) :
    Calls Try.prog 9 #[.agg #[.slice a n c, .slice b m d], .int .i64 s] w fun e w' => BlockR w w' x y e := by
  obtain ⟨X, hX⟩ : ∃ X, X = (w.alloc (.cells #[.slice a n c, .slice b m d] 25)).alloc (.cells #[.int .i64 0, .int .i64 0, .int .i64 0, .int .i64 0, .slice none 0 0] 28) := ⟨_, rfl⟩
  have hbX : Below w.heap.size w X := by rw [hX]; exact bel_on (bel_new _ _) (bel_new _ _)
  have hX0 : X.heap[w.heap.size]? = some (.cells [.slice a n c, .slice b m d].toArray 25 (0, 0)) := by rw [hX, Below.heap_alloc _ _ _ (by simp)]; exact two_heap _ _ _ _
  have hX1 : X.heap[w.heap.size + 1]? = some (.cells [.int .i64 0, .int .i64 0, .int .i64 0, .int .i64 0, .slice none 0 0].toArray 28 (0, 0)) := by
    rw [hX]
    have := five_heap (w.alloc (.cells #[.slice a n c, .slice b m d] 25)) (.int .i64 0) (.int .i64 0) (.int .i64 0) (.int .i64 0) (.slice none 0 0) 28
    rw [show (w.alloc (.cells #[.slice a n c, .slice b m d] 25)).heap.size = w.heap.size + 1 by simp] at this
    exact this
  have HB := hide hbX
  have HX0 := hide hX0
  have HX1 := hide hX1
  obtain ⟨z, hz⟩ : ∃ z, chkTr N T = z := ⟨_, rfl⟩
  have C1 := hide (trCheck_any a b n c m d N T z X (hN.later hbX) (hT.later hbX) sN sT hz)
  have x0 := cell_of hX0 0 _ rfl
  have x1 := cell_of hX0 1 _ rfl
  have xl := lt_of_block hX0
  unfold blockE at hx
  rw [hz] at hx
  by_cases q : z = 0
  · subst q
    rw [if_neg (by simp)] at hx
    obtain ⟨hl, h24, hH, hgo⟩ := chkTr_ok hz
    obtain rfl : n = m := by rw [← hN.1, ← hT.1, hl]
    have hnm : n ≤ maxLen := sN.len
    obtain ⟨o, ho⟩ : ∃ o, decide (s ∈ N) = o := ⟨_, rfl⟩
    rw [ho] at hx
    have C2 := hide (fun W (hb : Below X.heap.size X W) => has_is a b n c n d N s o W hnm (hN.later (bel_on hbX hb)) ho)
    cases o with
    | false =>
      rw [if_neg (by simp)] at hx
      obtain ⟨rfl, rfl⟩ : zeroB = x ∧ 5 = y := ⟨congrArg Prod.fst hx, congrArg Prod.snd hx⟩
      clear hbX hX0 hX1 hN hT sN sT hz hx hl h24 hH hgo ho hnm
      go_enter Try.func9, Try.ntmps9
      go_wp2_with fail
      rw [← hX]
      clear hX
      refine (unhide C1).mono ?_
      rintro e w1 ⟨rfl, hb1⟩
      have CC := hide ((unhide C2) _ hb1)
      have hc := (hb1.block _ (lt_of_block (unhide HX0))).trans (unhide HX0)
      have hc1 := (hb1.block _ (lt_of_block (unhide HX1))).trans (unhide HX1)
      have H0 := hide hc
      have H1 := hide hc1
      have t0 := cell_of hc 0 _ rfl
      have t1 := cell_of hc 1 _ rfl
      have tl := lt_of_block hc
      have HBX1 := hide hb1
      have HB1 := hide (bel_on (unhide HB) hb1)
      clear hb1 x0 x1 xl hc hc1 C1 C2
      go_wp2_with fail
      refine (unhide CC).mono ?_
      rintro e w2 ⟨rfl, hb2⟩
      have hd := (hb2.block _ (lt_of_block (unhide H1))).trans (unhide H1)
      have z0 := cell_of hd 0 _ rfl
      have f0 := frozen_of hd 0
      have z1 := cell_of hd 1 _ rfl
      have f1 := frozen_of hd 1
      have z2 := cell_of hd 2 _ rfl
      have f2 := frozen_of hd 2
      have z3 := cell_of hd 3 _ rfl
      have f3 := frozen_of hd 3
      have z4 := cell_of hd 4 _ rfl
      have f4 := frozen_of hd 4
      have zl := lt_of_block hd
      clear hd
      have HBW := hide (bel_on (unhide HB1) hb2)
      clear hb2 t0 t1 tl
      go_wp2
      (try simp only [Exit.inBlock, Exit.then])
      refine bodyPost_ret (v := .tuple #[.agg #[.int .i64 0, .int .i64 0, .int .i64 0, .int .i64 0, .slice none 0 0], .int .i64 5]) ?_ rfl (blockR_nil ?_)
      · rw [results_cell_tmp1 rfl]
        go_simp
      · exact (box5_gr _ _ _ _ _ _ _).below (unhide HBW) (by omega) (fun k hk => by omega)
    | true =>
      rw [if_pos rfl] at hx
      obtain ⟨hfx, rfl⟩ : fnd s N T = x ∧ 0 = y := ⟨congrArg Prod.fst hx, congrArg Prod.snd hx⟩
      have hmem : x ∈ T := by rw [← hfx]; exact fnd_at hl (by simpa using ho)
      have hsm := blk_small (chkGo_blks N T [] [] hl hgo x hmem)
      have C3 := hide (fun W (hb : Below X.heap.size X W) => find_is a b n c d N T s x W hnm (hN.later (bel_on hbX hb)) (hT.later (bel_on hbX hb)) hfx)
      have HSM := hide hsm
      clear hbX hX0 hX1 hN hT sN sT hz hx hl h24 hH hgo ho hnm hfx hmem hsm
      obtain ⟨p, h, k, r, L⟩ := x
      go_enter Try.func9, Try.ntmps9
      go_wp2_with fail
      rw [← hX]
      clear hX
      refine (unhide C1).mono ?_
      rintro e w1 ⟨rfl, hb1⟩
      have CC := hide ((unhide C2) _ hb1)
      have hc := (hb1.block _ (lt_of_block (unhide HX0))).trans (unhide HX0)
      have hc1 := (hb1.block _ (lt_of_block (unhide HX1))).trans (unhide HX1)
      have H0 := hide hc
      have H1 := hide hc1
      have t0 := cell_of hc 0 _ rfl
      have t1 := cell_of hc 1 _ rfl
      have tl := lt_of_block hc
      have HBX1 := hide hb1
      have HB1 := hide (bel_on (unhide HB) hb1)
      clear hb1 x0 x1 xl hc hc1 C1 C2
      go_wp2_with fail
      refine (unhide CC).mono ?_
      rintro e w2 ⟨rfl, hb2⟩
      have C4 := hide ((unhide C3) _ (bel_on (unhide HBX1) hb2))
      have hc2 := (hb2.block _ (lt_of_block (unhide H0))).trans (unhide H0)
      have hd := (hb2.block _ (lt_of_block (unhide H1))).trans (unhide H1)
      have HD := hide hd
      have u0 := cell_of hc2 0 _ rfl
      have u1 := cell_of hc2 1 _ rfl
      have ul := lt_of_block hc2
      have HB2 := hide (bel_on (unhide HB1) hb2)
      clear hb2 hc2 hd t0 t1 tl CC C3
      go_wp2_with fail
      refine (unhide C4).mono ?_
      rintro e w3 ⟨ta, tn, tc, rfl, hL, sL, hb3⟩
      have hL : TxsAt w2 ta tn L := hL
      have C5 := hide (clBlock_is p h k r ta tn tc L w3 (hL.later hb3) sL (by rw [← hL.1]; exact (unhide HSM).1) (unhide HSM).2)
      have hd := (hb3.block _ (lt_of_block (unhide HD))).trans (unhide HD)
      have HD3 := hide hd
      have HB3 := hide (bel_on (unhide HB2) hb3)
      have HLT := hide hL.1
      clear hb3 hd hL sL u0 u1 ul C4
      unfold blkV
      go_wp2_with fail
      refine (unhide C5).mono ?_
      rintro e w4 ⟨a', c', rfl, hf, hb4⟩
      have hd := (hb4.block _ (lt_of_block (unhide HD3))).trans (unhide HD3)
      have z0 := cell_of hd 0 _ rfl
      have f0 := frozen_of hd 0
      have z1 := cell_of hd 1 _ rfl
      have f1 := frozen_of hd 1
      have z2 := cell_of hd 2 _ rfl
      have f2 := frozen_of hd 2
      have z3 := cell_of hd 3 _ rfl
      have f3 := frozen_of hd 3
      have z4 := cell_of hd 4 _ rfl
      have f4 := frozen_of hd 4
      have zl := lt_of_block hd
      clear hd
      have hg := box5_gr w4 (w.heap.size + 1) (.int .i64 p) (.int .i64 h) (.int .i64 k) (.int .i64 r) (.slice a' tn c')
      have hlw := lt_of_block (unhide HD3)
      have HW := hide (hf _ (hg.mono fun q _ e => by omega))
      have HBW : Hid (Below w.heap.size w (((((w4.setCell ⟨w.heap.size + 1, 0, none⟩ (.int .i64 p)).setCell ⟨w.heap.size + 1, 1, none⟩ (.int .i64 h)).setCell ⟨w.heap.size + 1, 2, none⟩ (.int .i64 k)).setCell ⟨w.heap.size + 1, 3, none⟩ (.int .i64 r)).setCell ⟨w.heap.size + 1, 4, none⟩ (.slice a' tn c'))) := hg.below (bel_on (unhide HB3) hb4) (by omega) (fun k hk => by omega)
      clear hb4 hf hg hlw C5
      go_wp2
      (try simp only [Exit.inBlock, Exit.then])
      refine bodyPost_ret (v := .tuple #[.agg #[.int .i64 p, .int .i64 h, .int .i64 k, .int .i64 r, .slice a' tn c'], .int .i64 0]) ?_ rfl ?_
      · rw [results_cell_tmp1 rfl]
        go_simp
      · obtain ⟨a2, n2, c2, e2, f1, f2⟩ := unhide HW
        cases e2
        exact ⟨_, _, _, rfl, f1, f2, unhide HBW⟩
  · rw [if_pos q] at hx
    obtain ⟨rfl, rfl⟩ : zeroB = x ∧ z = y := ⟨congrArg Prod.fst hx, congrArg Prod.snd hx⟩
    have g : (z != 0) = true := by simp [q]
    clear hbX hX0 hX1 hN hT sN sT hz hx q
    go_enter Try.func9, Try.ntmps9
    go_wp2_with fail
    rw [← hX]
    clear hX
    refine (unhide C1).mono ?_
    rintro e w1 ⟨rfl, hb1⟩
    have hd := (hb1.block _ (lt_of_block (unhide HX1))).trans (unhide HX1)
    have z0 := cell_of hd 0 _ rfl
    have f0 := frozen_of hd 0
    have z1 := cell_of hd 1 _ rfl
    have f1 := frozen_of hd 1
    have z2 := cell_of hd 2 _ rfl
    have f2 := frozen_of hd 2
    have z3 := cell_of hd 3 _ rfl
    have f3 := frozen_of hd 3
    have z4 := cell_of hd 4 _ rfl
    have f4 := frozen_of hd 4
    have zl := lt_of_block hd
    clear hd
    have HB1 := hide (bel_on (unhide HB) hb1)
    clear hb1 x0 x1 xl C1
    go_wp2
    (try simp only [Exit.inBlock, Exit.then])
    refine bodyPost_ret (v := .tuple #[.agg #[.int .i64 0, .int .i64 0, .int .i64 0, .int .i64 0, .slice none 0 0], .int .i64 z]) ?_ rfl (blockR_nil ?_)
    · rw [results_cell_tmp1 rfl]
      go_simp
    · exact (box5_gr _ _ _ _ _ _ _).below (unhide HB1) (by omega) (fun k hk => by omega)

end Go.Proofs.Ytklekpbladmjhaa
