/- The contract of tree.Block. -/
import Derived.Test.YtmomfkikogbdeaaGreatDoorTrAdd
import Derived.Test.YtmomfkikogbdeaaGreatDoorTrFirstToTrStep
import Derived.Test.YtmomfkikogbdeaaGreatDoorTrMemToTrClone
namespace Go.Proofs.YtmomfkikogbdeaaGreatDoor.Tr
open Go.RowKit

def blockE (N : List Int) (T : List BlkD) (s : Int) : BlkD × Int :=
  if chkTr N T ≠ 0 then (zeroB, chkTr N T) else if decide (s ∈ N) = true then (fnd s N T, 0) else (zeroB, 5)
theorem fnd_at {N : List Int} {T : List BlkD} {s : Int} (hl : N.length = T.length) (h : s ∈ N) : fnd s N T ∈ T := by
  rcases idxI_fnd s N T 0 hl with ⟨_, q, _⟩ | ⟨i, hi, _, _, q⟩
  · exact absurd h q
  · rw [q]; exact List.getElem_mem hi

/-- What Block answers. -/
def BlockR (w w' : World) (x : BlkD) (y : Int) (e : Ending) : Prop :=
  ∃ ta tn tc, e = .returned (.tuple #[.agg #[.int .i64 x.1, .int .i64 x.2.1, .int .i64 x.2.2.1, .int .i64 x.2.2.2.1, .slice ta tn tc], .int .i64 y]) ∧ TxsAt w' ta tn x.2.2.2.2 ∧ SlOk ta tn tc ∧ Below w.heap.size w w'
theorem blockR_nil {w w' : World} {y : Int} (hb : Below w.heap.size w w') : BlockR w w' zeroB y (.returned (.tuple #[.agg #[.int .i64 0, .int .i64 0, .int .i64 0, .int .i64 0, .slice none 0 0], .int .i64 y])) :=
  ⟨none, 0, 0, rfl, RowsAt.nil _ _, ⟨Nat.le_refl _, Nat.zero_le _, fun _ => ⟨rfl, rfl⟩⟩, hb⟩
theorem box5_gr (W : World) (t : Nat) (a b c d e : Value) : Gr W (((((W.setCell ⟨t, 0, none⟩ a).setCell ⟨t, 1, none⟩ b).setCell ⟨t, 2, none⟩ c).setCell ⟨t, 3, none⟩ d).setCell ⟨t, 4, none⟩ e) (fun q => q = t) :=
  (((((Gr.refl W (fun q => q = t)).one t 0 (.inl rfl) _).one t 1 (.inl rfl) _).one t 2 (.inl rfl) _).one t 3 (.inl rfl) _).one t 4 (.inl rfl) _

set_option maxRecDepth 10000 in
set_option maxHeartbeats 6400000 in
theorem block_is (a b : Option Addr) (n c m d : Nat) (N : List Int) (T : List BlkD) (s : Int) (x : BlkD) (y : Int) (w : World) (hN : IntsAt w a n N) (hT : BlksAt w b m T) (sN : SlOk a n c) (sT : SlOk b m d) (hx : blockE N T s = (x, y)) :
    Calls Tryz.prog 20 #[.agg #[.slice a n c, .slice b m d], .int .i64 s] w fun e w' => BlockR w w' x y e := by
  obtain ⟨X, hX⟩ : ∃ X, X = (w.alloc (.cells #[.slice a n c, .slice b m d] 28)).alloc (.cells #[.int .i64 0, .int .i64 0, .int .i64 0, .int .i64 0, .slice none 0 0] 39) := ⟨_, rfl⟩
  have hbX : Below w.heap.size w X := by rw [hX]; exact bel_on (bel_new _ _) (bel_new _ _)
  have hX0 : X.heap[w.heap.size]? = some (.cells [.slice a n c, .slice b m d].toArray 28 (0, 0)) := by rw [hX, Below.heap_alloc _ _ _ (by simp)]; exact two_heap _ _ _ _
  have hX1 : X.heap[w.heap.size + 1]? = some (.cells [.int .i64 0, .int .i64 0, .int .i64 0, .int .i64 0, .slice none 0 0].toArray 39 (0, 0)) := by
    rw [hX]
    have := five_heap (w.alloc (.cells #[.slice a n c, .slice b m d] 28)) (.int .i64 0) (.int .i64 0) (.int .i64 0) (.int .i64 0) (.slice none 0 0) 39
    rw [show (w.alloc (.cells #[.slice a n c, .slice b m d] 28)).heap.size = w.heap.size + 1 by simp] at this
    exact this
  have HB := hide hbX
  have HX0 := hide hX0
  have HX1 := hide hX1
  obtain ⟨z, hz⟩ : ∃ z, chkTr N T = z := ⟨_, rfl⟩
  have C1 := hide (trCheck_any a b n c m d N T z X (hN.later hbX) (hT.later hbX) sN sT hz)
  have x0 := cell_of hX0 0 _ rfl
  have x1 := cell_of hX0 1 _ rfl
  have xl := lt_of_block hX0
  unfold blockE at hx
  rw [hz] at hx
  by_cases q : z = 0
  · subst q
    rw [if_neg (by simp)] at hx
    obtain ⟨hl, h24, hH, hgo⟩ := chkTr_ok hz
    obtain rfl : n = m := by rw [← hN.1, ← hT.1, hl]
    have hnm : n ≤ maxLen := sN.len
    obtain ⟨o, ho⟩ : ∃ o, decide (s ∈ N) = o := ⟨_, rfl⟩
    rw [ho] at hx
    have C2 := hide (fun W (hb : Below X.heap.size X W) => has_is a b n c n d N s o W hnm (hN.later (bel_on hbX hb)) ho)
    cases o with
    | false =>
      rw [if_neg (by simp)] at hx
      obtain ⟨rfl, rfl⟩ : zeroB = x ∧ 5 = y := ⟨congrArg Prod.fst hx, congrArg Prod.snd hx⟩
      clear hbX hX0 hX1 hN hT sN sT hz hx hl h24 hH hgo ho hnm
      go_enter Tryz.func20, Tryz.ntmps20
      go_wp2_with fail
      rw [← hX]
      clear hX
      refine (unhide C1).mono ?_
      rintro e w1 ⟨rfl, hb1⟩
      have CC := hide ((unhide C2) _ hb1)
      have hc := (hb1.block _ (lt_of_block (unhide HX0))).trans (unhide HX0)
      have hc1 := (hb1.block _ (lt_of_block (unhide HX1))).trans (unhide HX1)
      have H0 := hide hc
      have H1 := hide hc1
      have t0 := cell_of hc 0 _ rfl
      have t1 := cell_of hc 1 _ rfl
      have tl := lt_of_block hc
      have HBX1 := hide hb1
      have HB1 := hide (bel_on (unhide HB) hb1)
      clear hb1 x0 x1 xl hc hc1 C1 C2
      go_wp2_with fail
      refine (unhide CC).mono ?_
      rintro e w2 ⟨rfl, hb2⟩
      have hd := (hb2.block _ (lt_of_block (unhide H1))).trans (unhide H1)
      have z0 := cell_of hd 0 _ rfl
      have f0 := frozen_of hd 0
      have z1 := cell_of hd 1 _ rfl
      have f1 := frozen_of hd 1
      have z2 := cell_of hd 2 _ rfl
      have f2 := frozen_of hd 2
      have z3 := cell_of hd 3 _ rfl
      have f3 := frozen_of hd 3
      have z4 := cell_of hd 4 _ rfl
      have f4 := frozen_of hd 4
      have zl := lt_of_block hd
      clear hd
      have HBW := hide (bel_on (unhide HB1) hb2)
      clear hb2 t0 t1 tl
      go_wp2
      (try simp only [Exit.inBlock, Exit.then])
      refine bodyPost_ret (v := .tuple #[.agg #[.int .i64 0, .int .i64 0, .int .i64 0, .int .i64 0, .slice none 0 0], .int .i64 5]) ?_ rfl (blockR_nil ?_)
      · rw [results_cell_tmp1 rfl]
        go_simp
      · exact (box5_gr _ _ _ _ _ _ _).below (unhide HBW) (by omega) (fun k hk => by omega)
    | true =>
      rw [if_pos rfl] at hx
      obtain ⟨hfx, rfl⟩ : fnd s N T = x ∧ 0 = y := ⟨congrArg Prod.fst hx, congrArg Prod.snd hx⟩
      have hmem : x ∈ T := by rw [← hfx]; exact fnd_at hl (by simpa using ho)
      have hsm := blk_small (chkGo_blks N T [] [] hl hgo x hmem)
      have C3 := hide (fun W (hb : Below X.heap.size X W) => find_is a b n c d N T s x W hnm (hN.later (bel_on hbX hb)) (hT.later (bel_on hbX hb)) hfx)
      have HSM := hide hsm
      clear hbX hX0 hX1 hN hT sN sT hz hx hl h24 hH hgo ho hnm hfx hmem hsm
      obtain ⟨p, h, k, r, L⟩ := x
      go_enter Tryz.func20, Tryz.ntmps20
      go_wp2_with fail
      rw [← hX]
      clear hX
      refine (unhide C1).mono ?_
      rintro e w1 ⟨rfl, hb1⟩
      have CC := hide ((unhide C2) _ hb1)
      have hc := (hb1.block _ (lt_of_block (unhide HX0))).trans (unhide HX0)
      have hc1 := (hb1.block _ (lt_of_block (unhide HX1))).trans (unhide HX1)
      have H0 := hide hc
      have H1 := hide hc1
      have t0 := cell_of hc 0 _ rfl
      have t1 := cell_of hc 1 _ rfl
      have tl := lt_of_block hc
      have HBX1 := hide hb1
      have HB1 := hide (bel_on (unhide HB) hb1)
      clear hb1 x0 x1 xl hc hc1 C1 C2
      go_wp2_with fail
      refine (unhide CC).mono ?_
      rintro e w2 ⟨rfl, hb2⟩
      have C4 := hide ((unhide C3) _ (bel_on (unhide HBX1) hb2))
      have hc2 := (hb2.block _ (lt_of_block (unhide H0))).trans (unhide H0)
      have hd := (hb2.block _ (lt_of_block (unhide H1))).trans (unhide H1)
      have HD := hide hd
      have u0 := cell_of hc2 0 _ rfl
      have u1 := cell_of hc2 1 _ rfl
      have ul := lt_of_block hc2
      have HB2 := hide (bel_on (unhide HB1) hb2)
      clear hb2 hc2 hd t0 t1 tl CC C3
      go_wp2_with fail
      refine (unhide C4).mono ?_
      rintro e w3 ⟨ta, tn, tc, rfl, hL, sL, hb3⟩
      have hL : TxsAt w2 ta tn L := hL
      have C5 := hide (clBlock_is p h k r ta tn tc L w3 (hL.later hb3) sL (by rw [← hL.1]; exact (unhide HSM).1) (unhide HSM).2)
      have hd := (hb3.block _ (lt_of_block (unhide HD))).trans (unhide HD)
      have HD3 := hide hd
      have HB3 := hide (bel_on (unhide HB2) hb3)
      have HLT := hide hL.1
      clear hb3 hd hL sL u0 u1 ul C4
      unfold blkV
      go_wp2_with fail
      refine (unhide C5).mono ?_
      rintro e w4 ⟨a', c', rfl, hf, hb4⟩
      have hd := (hb4.block _ (lt_of_block (unhide HD3))).trans (unhide HD3)
      have z0 := cell_of hd 0 _ rfl
      have f0 := frozen_of hd 0
      have z1 := cell_of hd 1 _ rfl
      have f1 := frozen_of hd 1
      have z2 := cell_of hd 2 _ rfl
      have f2 := frozen_of hd 2
      have z3 := cell_of hd 3 _ rfl
      have f3 := frozen_of hd 3
      have z4 := cell_of hd 4 _ rfl
      have f4 := frozen_of hd 4
      have zl := lt_of_block hd
      clear hd
      have hg := box5_gr w4 (w.heap.size + 1) (.int .i64 p) (.int .i64 h) (.int .i64 k) (.int .i64 r) (.slice a' tn c')
      have hlw := lt_of_block (unhide HD3)
      have HW := hide (hf _ (hg.mono fun q _ e => by omega))
      have HBW : Hid (Below w.heap.size w (((((w4.setCell ⟨w.heap.size + 1, 0, none⟩ (.int .i64 p)).setCell ⟨w.heap.size + 1, 1, none⟩ (.int .i64 h)).setCell ⟨w.heap.size + 1, 2, none⟩ (.int .i64 k)).setCell ⟨w.heap.size + 1, 3, none⟩ (.int .i64 r)).setCell ⟨w.heap.size + 1, 4, none⟩ (.slice a' tn c'))) := hg.below (bel_on (unhide HB3) hb4) (by omega) (fun k hk => by omega)
      clear hb4 hf hg hlw C5
      go_wp2
      (try simp only [Exit.inBlock, Exit.then])
      refine bodyPost_ret (v := .tuple #[.agg #[.int .i64 p, .int .i64 h, .int .i64 k, .int .i64 r, .slice a' tn c'], .int .i64 0]) ?_ rfl ?_
      · rw [results_cell_tmp1 rfl]
        go_simp
      · obtain ⟨a2, n2, c2, e2, f1, f2⟩ := unhide HW
        cases e2
        exact ⟨_, _, _, rfl, f1, f2, unhide HBW⟩
  · rw [if_pos q] at hx
    obtain ⟨rfl, rfl⟩ : zeroB = x ∧ z = y := ⟨congrArg Prod.fst hx, congrArg Prod.snd hx⟩
    have g : (z != 0) = true := by simp [q]
    clear hbX hX0 hX1 hN hT sN sT hz hx q
    go_enter Tryz.func20, Tryz.ntmps20
    go_wp2_with fail
    rw [← hX]
    clear hX
    refine (unhide C1).mono ?_
    rintro e w1 ⟨rfl, hb1⟩
    have hd := (hb1.block _ (lt_of_block (unhide HX1))).trans (unhide HX1)
    have z0 := cell_of hd 0 _ rfl
    have f0 := frozen_of hd 0
    have z1 := cell_of hd 1 _ rfl
    have f1 := frozen_of hd 1
    have z2 := cell_of hd 2 _ rfl
    have f2 := frozen_of hd 2
    have z3 := cell_of hd 3 _ rfl
    have f3 := frozen_of hd 3
    have z4 := cell_of hd 4 _ rfl
    have f4 := frozen_of hd 4
    have zl := lt_of_block hd
    clear hd
    have HB1 := hide (bel_on (unhide HB) hb1)
    clear hb1 x0 x1 xl C1
    go_wp2
    (try simp only [Exit.inBlock, Exit.then])
    refine bodyPost_ret (v := .tuple #[.agg #[.int .i64 0, .int .i64 0, .int .i64 0, .int .i64 0, .slice none 0 0], .int .i64 z]) ?_ rfl (blockR_nil ?_)
    · rw [results_cell_tmp1 rfl]
      go_simp
    · exact (box5_gr _ _ _ _ _ _ _).below (unhide HB1) (by omega) (fun k hk => by omega)

end Go.Proofs.YtmomfkikogbdeaaGreatDoor.Tr

/- Paths part once: mathematics of forks. Nothing of the program. -/
namespace Go.Proofs.YtmomfkikogbdeaaGreatDoor.Tr
open Go.RowKit

theorem upD_take (N : List Int) (T : List BlkD) : ∀ (d : Nat) (x : Int) (i : Nat), i < d → (upD N T d x).take (i + 1) = upD N T (i + 1) ((upD N T d x).getD i 0)
  | 0, _, _, h => by omega
  | d + 1, x, i, h => by
    have hl := upD_len N T d (fnd x N T).1
    by_cases e : i < d
    · rw [upD, List.take_append_of_le_length (by omega), upD_take N T d _ i e]
      congr 1
      simp [List.getD, List.getElem?_append_left (show i < (upD N T d (fnd x N T).1).length by omega)]
    · have : i = d := by omega
      subst this
      rw [List.take_of_length_le (by rw [upD_len]; omega)]
      congr 1
      simp [upD, List.getD, hl]
/-- Where two paths meet they were one. -/
def Coh (P Q : List Int) : Prop := ∀ i, i < P.length → i < Q.length → P.getD i 0 = Q.getD i 0 → P.take (i + 1) = Q.take (i + 1)
theorem upD_coh (N : List Int) (T : List BlkD) (d e : Nat) (x y : Int) : Coh (upD N T d x) (upD N T e y) := by
  intro i h1 h2 h
  rw [upD_len] at h1 h2
  rw [upD_take N T d x i h1, upD_take N T e y i h2, h]

theorem fnd_out {N : List Int} {T : List BlkD} {x : Int} (hl : N.length = T.length) (h : x ∉ N) : fnd x N T = zeroB := by
  rcases idxI_fnd x N T 0 hl with ⟨_, _, h3⟩ | ⟨i, hi, _, h2, _⟩
  · exact h3
  · exact absurd h2 h
end Go.Proofs.YtmomfkikogbdeaaGreatDoor.Tr

/- What a right tree is, and what it is with a block more: mathematics. Nothing of the program. -/
namespace Go.Proofs.YtmomfkikogbdeaaGreatDoor.Tr
open Go.RowKit

theorem nextD_ok {N : List Int} {T : List BlkD} {x : Int} {b : BlkD} (h : nextD N T x b = 0) : (1 ≤ x ∧ x ≤ 120) ∧ chkB b = 0 ∧ x ∉ N ∧ (b.1 = 0 ∨ b.1 ∈ N) ∧ b.2.1 = (fnd b.1 N T).2.1 + 1 := by
  unfold nextD at h
  split at h
  · cases h
  · next q1 =>
    split at h
    · next q2 => exact absurd h q2
    · next q2 =>
      split at h
      · cases h
      · next q3 =>
        split at h
        · cases h
        · next q4 =>
          split at h
          · cases h
          · next q5 =>
            refine ⟨by simpa using q1, Classical.not_not.1 q2, by simpa using q3, ?_, Classical.not_not.1 q5⟩
            by_cases e : b.1 = 0
            · exact .inl e
            · right
              by_cases e2 : b.1 ∈ N
              · exact e2
              · exact absurd ⟨e, by simp [e2]⟩ q4
theorem fnd_app_l {N M : List Int} {T U : List BlkD} {y : Int} : N.length = T.length → y ∈ N → fnd y (N ++ M) (T ++ U) = fnd y N T := by
  induction N generalizing T with
  | nil => intro _ h; cases h
  | cons a N ih =>
    intro hl h
    cases T with
    | nil => cases hl
    | cons b T =>
      simp only [List.cons_append, fnd]
      by_cases e : y = a
      · simp [e]
      · rw [if_neg e, if_neg e]
        refine ih (by simpa using hl) ?_
        rcases List.mem_cons.1 h with h | h
        · exact absurd h e
        · exact h
theorem fnd_app_r {N M : List Int} {T U : List BlkD} {y : Int} : N.length = T.length → y ∉ N → fnd y (N ++ M) (T ++ U) = fnd y M U := by
  induction N generalizing T with
  | nil =>
    intro hl _
    cases T with
    | nil => rfl
    | cons _ _ => cases hl
  | cons a N ih =>
    intro hl h
    cases T with
    | nil => cases hl
    | cons b T =>
      simp only [List.cons_append, fnd]
      rw [if_neg (fun e => h (by simp [e]))]
      exact ih (by simpa using hl) (fun q => h (by simp [q]))
theorem fnd_one (x : Int) (b : BlkD) : fnd x [x] [b] = b := by simp [fnd]

/-- A right tree. -/
structure TrOk (N : List Int) (T : List BlkD) : Prop where
  len : N.length = T.length
  nd : N.Nodup
  nm : ∀ x ∈ N, 1 ≤ x ∧ x ≤ 120
  par : ∀ x ∈ N, (fnd x N T).1 = 0 ∨ (fnd x N T).1 ∈ N
  hgt : ∀ x ∈ N, (fnd x N T).2.1 = (fnd (fnd x N T).1 N T).2.1 + 1
  chk : ∀ b ∈ T, chkB b = 0
theorem TrOk.nil : TrOk [] [] := ⟨rfl, List.nodup_nil, fun _ h => (by cases h), fun _ h => (by cases h), fun _ h => (by cases h), fun _ h => (by cases h)⟩
theorem TrOk.zero {N : List Int} {T : List BlkD} (h : TrOk N T) : (0 : Int) ∉ N := fun q => by have := (h.nm 0 q).1; omega
theorem TrOk.heads {N : List Int} {T : List BlkD} (h : TrOk N T) : HeadsOk T := fun b hb => chkB_head (h.chk b hb)
/-- Whoever is in the tree, or nothing, is found in the greater one as here. -/
theorem TrOk.same {N : List Int} {T : List BlkD} {x : Int} {b : BlkD} (h : TrOk N T) (hx : 1 ≤ x) {y : Int} (hy : y = 0 ∨ y ∈ N) : fnd y (N ++ [x]) (T ++ [b]) = fnd y N T := by
  by_cases e : y ∈ N
  · exact fnd_app_l h.len e
  · have hy0 : y = 0 := by rcases hy with q | q; exact q; exact absurd q e
    rw [fnd_app_r h.len e, fnd_out h.len e]
    unfold fnd
    rw [if_neg (by omega)]
    unfold fnd
    rfl
theorem TrOk.new {N : List Int} {T : List BlkD} {x : Int} {b : BlkD} (h : TrOk N T) (hx : x ∉ N) : fnd x (N ++ [x]) (T ++ [b]) = b := by
  rw [fnd_app_r h.len hx, fnd_one]
theorem TrOk.add {N : List Int} {T : List BlkD} {x : Int} {b : BlkD} (h : TrOk N T) (hn : nextD N T x b = 0) : TrOk (N ++ [x]) (T ++ [b]) := by
  obtain ⟨h1, h2, h3, h4, h5⟩ := nextD_ok hn
  refine ⟨by simp [h.len], ?_, fun y hy => ?_, fun y hy => ?_, fun y hy => ?_, fun c hc => ?_⟩
  · rw [List.nodup_append]
    exact ⟨h.nd, by simp, fun a ha c hc => by rw [List.mem_singleton.1 hc]; exact fun e => h3 (e ▸ ha)⟩
  · rcases List.mem_append.1 hy with q | q
    · exact h.nm y q
    · rw [List.mem_singleton.1 q]; exact h1
  · rcases List.mem_append.1 hy with q | q
    · rw [h.same h1.1 (.inr q)]
      rcases h.par y q with e | e
      · exact .inl e
      · exact .inr (by simp [e])
    · rw [List.mem_singleton.1 q, h.new h3]
      rcases h4 with e | e
      · exact .inl e
      · exact .inr (by simp [e])
  · rcases List.mem_append.1 hy with q | q
    · rw [h.same h1.1 (.inr q), h.same h1.1 (h.par y q)]
      exact h.hgt y q
    · rw [List.mem_singleton.1 q, h.new h3, h.same h1.1 h4]
      exact h5
  · rcases List.mem_append.1 hc with q | q
    · exact h.chk c q
    · rw [List.mem_singleton.1 q]; exact h2
theorem chkGo_trok : ∀ (M : List Int) (U : List BlkD) (N : List Int) (T : List BlkD), M.length = U.length → TrOk N T → chkGo N T M U = 0 → TrOk (N ++ M) (T ++ U)
  | [], [], N, T, _, h, _ => by simpa using h
  | [], _ :: _, _, _, h, _, _ => by cases h
  | _ :: _, [], _, _, h, _, _ => by cases h
  | x :: M, b :: U, N, T, hl, h, hc => by
    rw [chkGo] at hc
    split at hc
    · next q => exact absurd hc q
    · next q =>
      have := chkGo_trok M U _ _ (by simpa using hl) (h.add (Classical.not_not.1 q)) hc
      simpa using this
theorem TrOk.of {N : List Int} {T : List BlkD} (h : chkTr N T = 0) : TrOk N T := by
  obtain ⟨h1, _, _, h4⟩ := chkTr_ok h
  simpa using chkGo_trok N T [] [] h1 TrOk.nil h4
theorem chkGo_snoc : ∀ (M : List Int) (U : List BlkD) (N : List Int) (T : List BlkD) (x : Int) (b : BlkD), M.length = U.length → chkGo N T M U = 0 → nextD (N ++ M) (T ++ U) x b = 0 → chkGo N T (M ++ [x]) (U ++ [b]) = 0
  | [], [], N, T, x, b, _, _, h => by
    rw [List.append_nil, List.append_nil] at h
    simp [chkGo, h]
  | [], _ :: _, _, _, _, _, h, _, _ => by cases h
  | _ :: _, [], _, _, _, _, h, _, _ => by cases h
  | y :: M, c :: U, N, T, x, b, h, hc, hn => by
    rw [chkGo] at hc
    split at hc
    · next q => exact absurd hc q
    · next q =>
      rw [List.cons_append, List.cons_append, chkGo, if_neg q]
      exact chkGo_snoc M U _ _ x b (by simpa using h) hc (by simpa using hn)
theorem chkTr_snoc {N : List Int} {T : List BlkD} {x : Int} {b : BlkD} (h : chkTr N T = 0) (hn : nextD N T x b = 0) (hl : N.length ≠ 24) : chkTr (N ++ [x]) (T ++ [b]) = 0 := by
  obtain ⟨h1, h2, _, h4⟩ := chkTr_ok h
  unfold chkTr
  rw [if_neg (by simp [h1]), if_neg (by simp; omega)]
  exact chkGo_snoc N T [] [] x b h1 h4 (by simpa using hn)

/-- A set that holds a block's parents with it. -/
theorem TrOk.up {N : List Int} {T : List BlkD} (h : TrOk N T) (y : Int) : (fnd y N T).1 = 0 ∨ (fnd y N T).1 ∈ N := by
  by_cases e : y ∈ N
  · exact h.par y e
  · rw [fnd_out h.len e]; exact .inl rfl
end Go.Proofs.YtmomfkikogbdeaaGreatDoor.Tr

/- The closed fact: two that stand on one. -/
namespace Go.Proofs.YtmomfkikogbdeaaGreatDoor.Tr
open Go.RowKit

def simB (p h k n : Int) : BlkD := (p, h, k, 0, [(h, [], [(n, [])])])
set_option maxRecDepth 10000 in
set_option maxHeartbeats 1600000 in
theorem simple_is (p h k n : Int) (w : World) :
    Calls Tryz.prog 62 #[.int .i64 p, .int .i64 h, .int .i64 k, .int .i64 n] w fun e w' => ∃ a c, e = .returned (.agg #[.int .i64 p, .int .i64 h, .int .i64 k, .int .i64 0, .slice a 1 c]) ∧ TxsAt w' a 1 [(h, [], [(n, [])])] ∧ SlOk a 1 c ∧ Below w.heap.size w w' := by
  obtain ⟨X, hX⟩ : ∃ X, X = (((w.alloc (.cells #[.int .i64 p, .int .i64 h, .int .i64 k, .int .i64 0, .slice (some ⟨w.heap.size + 1 + 1, 0, none⟩) 1 1] 39)).alloc (.cells #[.int .i64 n, .slice none 0 0] 122)).alloc (.cells #[.int .i64 h, .slice none 0 0, .slice (some ⟨w.heap.size + 1, 0, none⟩) 1 1] 59)) := ⟨_, rfl⟩
  have hbX : Below w.heap.size w X := by rw [hX]; exact bel_on (bel_on (bel_new _ _) (bel_new _ _)) (bel_new _ _)
  have hX1 : X.heap[w.heap.size + 1]? = some (.cells [.int .i64 n, .slice none 0 0].toArray 122 (0, 0)) := by
    rw [hX, Below.heap_alloc _ _ _ (by simp)]
    have := two_heap (w.alloc (.cells #[.int .i64 p, .int .i64 h, .int .i64 k, .int .i64 0, .slice (some ⟨w.heap.size + 1 + 1, 0, none⟩) 1 1] 39)) (.int .i64 n) (.slice none 0 0) 122
    rw [show (w.alloc (.cells #[.int .i64 p, .int .i64 h, .int .i64 k, .int .i64 0, .slice (some ⟨w.heap.size + 1 + 1, 0, none⟩) 1 1] 39)).heap.size = w.heap.size + 1 by simp] at this
    exact this
  have hX2 : X.heap[w.heap.size + 1 + 1]? = some (.cells [.int .i64 h, .slice none 0 0, .slice (some ⟨w.heap.size + 1, 0, none⟩) 1 1].toArray 59 (0, 0)) := by
    rw [hX]
    have := three_heap ((w.alloc (.cells #[.int .i64 p, .int .i64 h, .int .i64 k, .int .i64 0, .slice (some ⟨w.heap.size + 1 + 1, 0, none⟩) 1 1] 39)).alloc (.cells #[.int .i64 n, .slice none 0 0] 122)) (.int .i64 h) (.slice none 0 0) (.slice (some ⟨w.heap.size + 1, 0, none⟩) 1 1) 59
    rw [show ((w.alloc (.cells #[.int .i64 p, .int .i64 h, .int .i64 k, .int .i64 0, .slice (some ⟨w.heap.size + 1 + 1, 0, none⟩) 1 1] 39)).alloc (.cells #[.int .i64 n, .slice none 0 0] 122)).heap.size = w.heap.size + 1 + 1 by simp] at this
    exact this
  have sok : ∀ q, SlOk (some ⟨q, 0, none⟩) 1 1 := fun q => ⟨Nat.le_refl _, by unfold maxLen; omega, fun e => by cases e⟩
  have snil : SlOk none 0 0 := ⟨Nat.le_refl _, Nat.zero_le _, fun _ => ⟨rfl, rfl⟩⟩
  have hO : OutsAt X (some ⟨w.heap.size + 1, 0, none⟩) 1 [(n, [])] := ⟨rfl, fun _ => ⟨w.heap.size + 1, 0, rfl, lt_of_block hX1, fun i hi => by
    obtain rfl : i = 0 := by simp at hi; exact hi
    exact ⟨cell_of hX1 0 _ rfl, _, _, _, cell_of hX1 1 _ rfl, ⟨rfl, fun h => absurd h (by omega)⟩, snil⟩⟩⟩
  have hT : TxsAt X (some ⟨w.heap.size + 1 + 1, 0, none⟩) 1 [(h, [], [(n, [])])] := ⟨rfl, fun _ => ⟨w.heap.size + 1 + 1, 0, rfl, lt_of_block hX2, fun i hi => by
    obtain rfl : i = 0 := by simp at hi; exact hi
    exact ⟨cell_of hX2 0 _ rfl, ⟨_, _, _, cell_of hX2 1 _ rfl, RowsAt.nil _ _, snil⟩, _, _, _, cell_of hX2 2 _ rfl, hO, sok _⟩⟩⟩
  have HT := hide hT
  have HB := hide hbX
  have SO := hide sok
  clear hT hbX sok snil hO hX1 hX2
  go_enter Tryz.func62, Tryz.ntmps62
  go_wp2
  (try simp only [Exit.inBlock, Exit.then])
  refine bodyPost_ret (v := .agg #[.int .i64 p, .int .i64 h, .int .i64 k, .int .i64 0, .slice (some ⟨w.heap.size + 1 + 1, 0, none⟩) 1 1]) ?_ rfl ⟨_, _, rfl, ?_, (unhide SO) _, ?_⟩
  · rw [results_cell1 rfl]
    go_simp
  · rw [← hX]; exact unhide HT
  · rw [← hX]; exact unhide HB

/-- A tree in a box of the call's own. -/
def GrS (w : World) (t : Nat) (N : List Int) (T : List BlkD) (n : Nat) (W : World) : Prop :=
  ∃ a1 c1 a2 c2, W.heap[t]? = some (.cells [.slice a1 n c1, .slice a2 n c2].toArray 28 (0, 0)) ∧ IntsAt W a1 n N ∧ BlksAt W a2 n T ∧ SlOk a1 n c1 ∧ SlOk a2 n c2 ∧ Below w.heap.size w W ∧ w.heap.size ≤ t
theorem grS_store {w W w2 : World} {t n n' : Nat} {N' : List Int} {T' : List BlkD} {a1 a2 b1 b2 : Option Addr} {c1 c2 d1 d2 : Nat} (hb : Below w.heap.size w W) (ht : w.heap.size ≤ t) (htW : t < W.heap.size)
    (hx : w2.heap[t]? = some (.cells [.slice b1 n d1, .slice b2 n d2].toArray 28 (0, 0))) (hF : Fresh W.heap.size w2 (fun w3 => IntsAt w3 a1 n' N' ∧ BlksAt w3 a2 n' T')) (s1 : SlOk a1 n' c1) (s2 : SlOk a2 n' c2) (hb2 : Below W.heap.size W w2) :
    GrS w t N' T' n' ((w2.setCell ⟨t, 0, none⟩ (.slice a1 n' c1)).setCell ⟨t, 1, none⟩ (.slice a2 n' c2)) := by
  have hg := ((Gr.refl w2 (fun q => q = t)).one t 0 (.inl rfl) (.slice a1 n' c1)).one t 1 (.inl rfl) (.slice a2 n' c2)
  have h1 := hF _ (hg.mono fun q _ e => by omega)
  refine ⟨a1, c1, a2, c2, set_cells (set_cells hx 0 _) 1 _, h1.1, h1.2, s1, s2, hg.below (bel_on hb hb2) (by have := hb.size; have := hb2.size; omega) (fun q e => by omega), ht⟩

end Go.Proofs.YtmomfkikogbdeaaGreatDoor.Tr

/- The walk of the law TreeGrows. -/
namespace Go.Proofs.YtmomfkikogbdeaaGreatDoor.Tr
open Go.RowKit

theorem addE_ok {N : List Int} {T : List BlkD} {x : Int} {b : BlkD} {N' : List Int} {T' : List BlkD} (h : addE N T x b = (N', T', 0)) : chkTr N T = 0 ∧ nextD N T x b = 0 ∧ N.length ≠ 24 ∧ N' = N ++ [x] ∧ T' = T ++ [b] := by
  unfold addE at h
  split at h
  · next q => exact absurd (congrArg (·.2.2) h) q
  · next q =>
    split at h
    · next q2 => exact absurd (congrArg (·.2.2) h) q2
    · next q2 =>
      split at h
      · next q3 => have := congrArg (·.2.2) h; simp at this
      · next q3 => exact ⟨Classical.not_not.1 q, Classical.not_not.1 q2, q3, (congrArg (·.1) h).symm, (congrArg (·.2.1) h).symm⟩
end Go.Proofs.YtmomfkikogbdeaaGreatDoor.Tr

/- Trees of the same blocks, in whatever order they came: mathematics. Nothing of the program. -/
namespace Go.Proofs.YtmomfkikogbdeaaGreatDoor.Tr
open Go.RowKit

theorem nd_len : ∀ (U N : List Int), U.Nodup → (∀ x ∈ U, x ∈ N) → U.length ≤ N.length
  | [], _, _, _ => Nat.zero_le _
  | x :: U, N, h, hs => by
    have hx : x ∈ N := hs x (by simp)
    have hn := List.nodup_cons.1 h
    have h1 := nd_len U (N.erase x) hn.2 (fun y hy => (List.mem_erase_of_ne (fun (e : y = x) => hn.1 (e ▸ hy))).2 (hs y (by simp [hy])))
    rw [List.length_erase_of_mem hx] at h1
    have : 0 < N.length := List.length_pos_of_mem hx
    simp only [List.length_cons]
    omega

theorem chkGo_each : ∀ (M : List Int) (U : List BlkD) (N : List Int) (T : List BlkD), M.length = U.length → chkGo N T M U = 0 → ∀ i (h : i < M.length) (h' : i < U.length), nextD (N ++ M.take i) (T ++ U.take i) M[i] U[i] = 0
  | [], _, _, _, _, _, _, h, _ => absurd h (by simp)
  | _ :: _, [], _, _, h, _, _, _, _ => by cases h
  | x :: M, b :: U, N, T, hl, hc, 0, _, _ => by
    rw [chkGo] at hc
    split at hc
    · next q => exact absurd hc q
    · next q => simpa using Classical.not_not.1 q
  | x :: M, b :: U, N, T, hl, hc, i + 1, h, h' => by
    rw [chkGo] at hc
    split at hc
    · next q => exact absurd hc q
    · next q =>
      have := chkGo_each M U _ _ (by simpa using hl) hc i (by simpa using h) (by simpa using h')
      simpa using this
/-- Each block stands on nothing or on one ahead of it. -/
theorem ahead {N : List Int} {T : List BlkD} (hc : chkTr N T = 0) (i : Nat) (h : i < N.length) (h' : i < T.length) : fnd N[i] N T = T[i] ∧ (T[i].1 = 0 ∨ T[i].1 ∈ N.take i) := by
  obtain ⟨hl, _, _, hgo⟩ := chkTr_ok hc
  have h1 := chkGo_each N T [] [] hl hgo i h h'
  simp only [List.nil_append] at h1
  obtain ⟨_, _, q3, q4, _⟩ := nextD_ok h1
  refine ⟨?_, q4⟩
  have e1 : N = N.take i ++ (N[i] :: N.drop (i + 1)) := by rw [← List.drop_eq_getElem_cons h, List.take_append_drop]
  have e2 : T = T.take i ++ (T[i] :: T.drop (i + 1)) := by rw [← List.drop_eq_getElem_cons h', List.take_append_drop]
  have := fnd_app_r (N := N.take i) (M := N[i] :: N.drop (i + 1)) (T := T.take i) (U := T[i] :: T.drop (i + 1)) (by rw [List.length_take, List.length_take]; omega) q3
  rw [← e1, ← e2] at this
  rw [this]
  simp [fnd]

/-- A right tree of some of the blocks. -/
structure Sub (U : List Int) (V : List BlkD) (N : List Int) (T : List BlkD) : Prop where
  chk : chkTr U V = 0
  mem : ∀ y ∈ U, y ∈ N
  same : ∀ y ∈ U, fnd y U V = fnd y N T
theorem Sub.nil (N : List Int) (T : List BlkD) : Sub [] [] N T := ⟨rfl, fun _ h => (by cases h), fun _ h => (by cases h)⟩
theorem Sub.all {U : List Int} {V : List BlkD} {N : List Int} {T : List BlkD} (h : Sub U V N T) (hc : chkTr N T = 0) {y : Int} (hy : y = 0 ∨ y ∈ U) : fnd y U V = fnd y N T := by
  by_cases e : y ∈ U
  · exact h.same y e
  · have hy0 : y = 0 := by rcases hy with q | q; exact q; exact absurd q e
    subst hy0
    rw [fnd_out (TrOk.of h.chk).len e, fnd_out (TrOk.of hc).len (TrOk.of hc).zero]
theorem Sub.step {U : List Int} {V : List BlkD} {N : List Int} {T : List BlkD} (h : Sub U V N T) (hc : chkTr N T = 0) {k : Nat} (hk : k < N.length) (hk' : k < T.length) {U' : List Int} {V' : List BlkD} (ha : addE U V N[k] T[k] = (U', V', 0)) : Sub U' V' N T ∧ U' = U ++ [N[k]] := by
  obtain ⟨h1, h2, h3, rfl, rfl⟩ := addE_ok ha
  have ok := TrOk.of h1
  obtain ⟨g1, _, g3, _, _⟩ := nextD_ok h2
  refine ⟨⟨chkTr_snoc h1 h2 h3, fun y hy => ?_, fun y hy => ?_⟩, rfl⟩
  · rcases List.mem_append.1 hy with q | q
    · exact h.mem y q
    · rw [List.mem_singleton.1 q]; exact List.getElem_mem hk
  · rcases List.mem_append.1 hy with q | q
    · rw [ok.same g1.1 (.inr q)]; exact h.same y q
    · rw [List.mem_singleton.1 q, ok.new g3, (ahead hc k hk hk').1]
theorem Sub.full {U : List Int} {V : List BlkD} {N : List Int} {T : List BlkD} (h : Sub U V N T) (hc : chkTr N T = 0) (ha : ∀ j (hj : j < N.length), N[j] ∈ U) : U.length = N.length ∧ ∀ y ∈ N, y ∈ U := by
  have hs : ∀ y ∈ N, y ∈ U := fun y hy => by
    obtain ⟨j, hj, rfl⟩ := List.getElem_of_mem hy
    exact ha j hj
  have h1 := nd_len U N (TrOk.of h.chk).nd h.mem
  have h2 := nd_len N U (TrOk.of hc).nd hs
  exact ⟨by omega, hs⟩

theorem Sub.up {U : List Int} {V : List BlkD} {N : List Int} {T : List BlkD} (h : Sub U V N T) (hc : chkTr N T = 0) : ∀ (d : Nat) (y : Int), (y = 0 ∨ y ∈ U) → upD U V d y = upD N T d y
  | 0, _, _ => rfl
  | d + 1, y, hy => by
    rw [upD, upD, ← h.all hc hy, h.up hc d _ ((TrOk.of h.chk).up y)]
end Go.Proofs.YtmomfkikogbdeaaGreatDoor.Tr

/- Mathematics of the law TreePaths: paths step by step, work summed over all names, the best of sorted names, where paths part. -/
namespace Go.Proofs.YtmomfkikogbdeaaGreatDoor.Tr
open Go.RowKit

theorem TrOk.pth_step {N : List Int} {T : List BlkD} (h : TrOk N T) {x : Int} (hx : x ∈ N) : pthD N T x = pthD N T (fnd x N T).1 ++ [x] := by
  have e := h.hgt x hx
  have h0 := (fnd_ok h.heads (fnd x N T).1 N).1
  unfold pthD
  rw [show (fnd x N T).2.1.toNat = (fnd (fnd x N T).1 N T).2.1.toNat + 1 by omega]
  rfl
theorem pth_length (N : List Int) (T : List BlkD) (x : Int) : (pthD N T x).length = (fnd x N T).2.1.toNat := upD_len _ _ _ _
/-- Each place of a path is the height of the block there. -/
theorem TrOk.pth_at {N : List Int} {T : List BlkD} (h : TrOk N T) : ∀ (d : Nat) (x : Int), (x = 0 ∨ x ∈ N) → (fnd x N T).2.1.toNat = d → ∀ (i : Nat) (z : Int), (pthD N T x)[i]? = some z → z ∈ N ∧ (fnd z N T).2.1 = i + 1 := by
  intro d
  induction d with
  | zero =>
    intro x _ hd i z hz
    have hl := pth_length N T x
    have := (List.getElem?_eq_some_iff.1 hz).1
    omega
  | succ d ih =>
    intro x hx hd i z hz
    have hxN : x ∈ N := by
      rcases hx with rfl | hx
      · rw [fnd_out h.len h.zero] at hd
        simp [zeroB] at hd
      · exact hx
    have e := h.hgt x hxN
    have h0 := (fnd_ok h.heads (fnd x N T).1 N).1
    have hl := pth_length N T (fnd x N T).1
    rw [h.pth_step hxN, List.getElem?_append] at hz
    split at hz
    · exact ih _ (h.par x hxN) (by omega) i z hz
    · next q =>
      obtain ⟨hlt, hz⟩ := List.getElem?_eq_some_iff.1 hz
      simp only [List.length_cons, List.length_nil] at hlt
      have hi : i = (pthD N T (fnd x N T).1).length := by omega
      have hzx : x = z := by simpa using hz
      subst hzx
      exact ⟨hxN, by omega⟩
theorem TrOk.pth_in {N : List Int} {T : List BlkD} (h : TrOk N T) {x : Int} (hx : x = 0 ∨ x ∈ N) {i : Nat} {z : Int} (hz : (pthD N T x)[i]? = some z) : z ∈ N ∧ (fnd z N T).2.1 = i + 1 := h.pth_at _ x hx rfl i z hz
theorem TrOk.pth_nd {N : List Int} {T : List BlkD} (h : TrOk N T) {x : Int} (hx : x = 0 ∨ x ∈ N) : (pthD N T x).Nodup := by
  rw [List.nodup_iff_pairwise_ne, List.pairwise_iff_getElem]
  intro i j hi hj hij e
  have h1 := (h.pth_in hx (List.getElem?_eq_getElem hi)).2
  have h2 := (h.pth_in hx (List.getElem?_eq_getElem hj)).2
  rw [e] at h1
  omega
theorem TrOk.pth_sub {N : List Int} {T : List BlkD} (h : TrOk N T) {x : Int} (hx : x = 0 ∨ x ∈ N) : ∀ z ∈ pthD N T x, z ∈ N := by
  intro z hz
  obtain ⟨i, hi, rfl⟩ := List.getElem_of_mem hz
  exact (h.pth_in hx (List.getElem?_eq_getElem hi)).1

/-! Work: summed over all names that are on a path. -/
/-! The best one: of sorted names the first of those that have most. -/
def srt (N : List Int) : List Int := N.mergeSort fun x y => decide (x ≤ y)
/-! Where two paths part: the last one of the first that is on the other. -/
end Go.Proofs.YtmomfkikogbdeaaGreatDoor.Tr
