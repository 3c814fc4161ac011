/- The contract of tree.Add. -/
import Derived.Test.YtmomfkikogbdeaaGreatDoorBlkCoversToCoinFacts
import Derived.Test.YtmomfkikogbdeaaGreatDoorTrClBlkToTrPath
import Derived.Test.YtmomfkikogbdeaaGreatDoorTrFirstToTrBest
import Derived.Test.YtmomfkikogbdeaaGreatDoorBlkDisLToPolOpen
import Derived.Deep.AppendLies
namespace Go.Proofs.YtmomfkikogbdeaaGreatDoor.Tr
open Go.RowKit

def addE (N : List Int) (T : List BlkD) (x : Int) (b : BlkD) : List Int × List BlkD × Int :=
  if chkTr N T ≠ 0 then ([], [], chkTr N T) else if nextD N T x b ≠ 0 then ([], [], nextD N T x b) else if N.length = 24 then ([], [], 12) else (N ++ [x], T ++ [b], 0)

theorem ins_small : ∀ (l pre : List InD), chkIns pre l = 0 → ∀ x ∈ l, x.2.2.length ≤ 16
  | [], _, _, x, hx => by cases hx
  | y :: r, pre, h, x, hx => by
    rw [chkIns] at h
    split at h
    · next q =>
      rcases List.mem_cons.1 hx with rfl | hx
      · unfold chkIn1 at q
        split at q
        · cases q
        · split at q
          · next q1 => exact absurd q q1
          · next q1 => exact chk_len (Classical.not_not.1 q1)
      · exact ins_small r _ h x hx
    · next q => exact absurd h q
theorem outs_small : ∀ (l : List OutD), chkOuts l = 0 → ∀ x ∈ l, x.2.length ≤ 16
  | [], _, x, hx => by cases hx
  | y :: r, h, x, hx => by
    rw [chkOuts] at h
    split at h
    · next q =>
      rcases List.mem_cons.1 hx with rfl | hx
      · unfold chkOut1 at q
        split at q
        · cases q
        · exact chk_len q
      · exact outs_small r h x hx
    · next q => exact absurd h q
theorem tx_small {t : TxD} (h : chkTx t = 0) : TxSmall t := by
  unfold chkTx at h
  split at h
  · cases h
  · next q0 =>
    split at h
    · cases h
    · split at h
      · cases h
      · split at h
        · next q => exact absurd h q
        · next q =>
          have h1 := ins_small _ _ (Classical.not_not.1 q)
          unfold chkOutsAll at h
          split at h
          · next q2 =>
            have h2 := outs_small _ q2
            exact ⟨by omega, by omega, fun x hx => by have := h1 x hx; omega, fun x hx => by have := h2 x hx; omega⟩
          · next q2 => exact absurd h q2
theorem chkTs_all (h : Int) : ∀ (T : List TxD) (i : Nat), chkTs h i T = 0 → ∀ t ∈ T, chkTx t = 0
  | [], _, _, t, ht => by cases ht
  | u :: r, i, q, t, ht => by
    rw [chkTs] at q
    split at q
    · next q1 => exact absurd q q1
    · next q1 =>
      split at q
      · cases q
      · rcases List.mem_cons.1 ht with rfl | ht
        · exact Classical.not_not.1 q1
        · exact chkTs_all h r _ q t ht
theorem blk_small {b : BlkD} (h : chkB b = 0) : BlkSmall b := by
  unfold chkB at h
  split at h
  · cases h
  · split at h
    · cases h
    · next q =>
      split at h
      · cases h
      · exact ⟨by omega, fun t ht => tx_small (chkTs_all _ _ _ h t ht)⟩
theorem chkGo_blks : ∀ (M : List Int) (U : List BlkD) (N : List Int) (T : List BlkD), M.length = U.length → chkGo N T M U = 0 → ∀ b ∈ U, chkB b = 0
  | [], [], _, _, _, _ => fun b hb => by cases hb
  | [], _ :: _, _, _, h, _ => by cases h
  | _ :: _, [], _, _, h, _ => by cases h
  | x :: M, b :: U, N, T, h, hc => by
    rw [chkGo] at hc
    split at hc
    · next q => exact absurd hc q
    · next q =>
      have h1 := next_chk (Classical.not_not.1 q)
      have h2 := chkGo_blks M U _ _ (by simpa using h) hc
      intro y hy
      rcases List.mem_cons.1 hy with rfl | hy
      · exact h1
      · exact h2 y hy

/-- What Add answers lies in memory of its own. -/
def AddR (w w' : World) (N : List Int) (T : List BlkD) (n : Nat) (x : Int) (e : Ending) : Prop :=
  ∃ a1 c1 a2 c2, e = .returned (.tuple #[.agg #[.slice a1 n c1, .slice a2 n c2], .int .i64 x]) ∧ Fresh w.heap.size w' (fun w2 => IntsAt w2 a1 n N ∧ BlksAt w2 a2 n T) ∧ SlOk a1 n c1 ∧ SlOk a2 n c2 ∧ Below w.heap.size w w'
theorem addR_nil {w w' : World} {x : Int} (hb : Below w.heap.size w w') : AddR w w' [] [] 0 x (.returned (.tuple #[.agg #[.slice none 0 0, .slice none 0 0], .int .i64 x])) :=
  ⟨none, 0, none, 0, rfl, fun _ _ => ⟨IntsAt.nil _ _, RowsAt.nil _ _⟩, ⟨Nat.le_refl _, Nat.zero_le _, fun _ => ⟨rfl, rfl⟩⟩, ⟨Nat.le_refl _, Nat.zero_le _, fun _ => ⟨rfl, rfl⟩⟩, hb⟩

/-- The box of the answer, a zero tree, is stored into. -/
theorem box2_below {w W : World} {t : Nat} (hb : Below w.heap.size w W) (ht : w.heap.size ≤ t) (hs : w.heap.size ≤ W.heap.size) (u v : Value) : Below w.heap.size w ((W.setCell ⟨t, 0, none⟩ u).setCell ⟨t, 1, none⟩ v) :=
  (((Gr.refl W (fun q => q = t)).one t 0 (.inl rfl) u).one t 1 (.inl rfl) v).below hb hs (fun k e => by omega)

/-- The rows of what Add answers. -/
theorem add_fin {B B5 G O t6 n : Nat} {w5 w9 w10 w12 wF : World} {v1 v2 : Value} {g cap g2 cap2 : Nat} {N : List Int} {T : List BlkD} {s : Int} {b : BlkD} {K : List (List Value)} {cs : List Value}
    (hB : B ≤ B5) (ht6 : t6 < B5) (hBG : B5 ≤ G) (hTn : T.length = n) (hF : Fresh G w5 (fun w2 => AllC blkR w2 K T)) (hf : Fresh w9.heap.size w10 (fun w2 => blkR.C w2 cs b))
    (h1 : ∀ q, v1.ownBlock = some q → q < G) (h2 : ∀ q, v2.ownBlock = some q → q < G) (h2' : ∀ q, v2.ownBlock = some q → B5 ≤ q ∧ q < w5.heap.size) (hO : O = w5.heap.size) (hO9 : O < w9.heap.size) (hB9 : B ≤ w9.heap.size) (ht9 : t6 < w9.heap.size)
    (g9 : Gr w5 w9 (fun q => v1.ownBlock = some q)) (gF : Gr w9 wF (fun q => v2.ownBlock = some q ∨ q = O ∨ q = t6)) (g10 : Gr w10 wF (fun q => v2.ownBlock = some q ∨ q = O ∨ q = t6)) (g12 : Gr w12 wF (fun q => q = O ∨ q = t6))
    (on9 : w9.ownsRow B5 3 1 (.slice (some ⟨g, 0, none⟩) (n + 1) cap) (n + 1) ((N ++ [s]).map (Value.int .i64))) (hg : g ≠ O) (hg2 : v2.ownBlock ≠ some g)
    (o12 : w12.ownsRow B5 39 5 (.slice (some ⟨g2, 0, none⟩) (n + 1) cap2) (n + 1) (K.flatten ++ cs)) (hgg : g2 ≠ O) :
    Fresh B wF (fun w2 => IntsAt w2 (some ⟨g, 0, none⟩) (n + 1) (N ++ [s]) ∧ BlksAt w2 (some ⟨g2, 0, none⟩) (n + 1) (T ++ [b])) ∧ SlOk (some ⟨g, 0, none⟩) (n + 1) cap ∧ SlOk (some ⟨g2, 0, none⟩) (n + 1) cap2 := by
  have gb := (on9.lt g rfl).1
  have gb2 := (o12.lt g2 rfl).1
  have onF := gF.own on9 (fun q hq e => by
    cases hq
    rcases e with e | e | e
    · exact hg2 e
    · exact hg e
    · simp only at e; omega)
  have obF := g12.own o12 (fun q hq e => by
    cases hq
    rcases e with e | e
    · exact hgg e
    · simp only at e; omega)
  have hFF : Fresh G wF (fun w2 => AllC blkR w2 K T) := hF.on (((g9.mono (T := fun q => v1.ownBlock = some q ∨ v2.ownBlock = some q ∨ q = O ∨ q = t6) fun q _ e => .inl e).trans (gF.mono fun q _ e => .inr e)).mono fun q hq e => by
    rcases e with e | e | e | e
    · exact h1 q e
    · exact h2 q e
    · omega
    · omega)
  have hfF : Fresh w9.heap.size wF (fun w2 => blkR.C w2 cs b) := hf.on (g10.mono fun q _ e => by
    rcases e with e | e | e
    · have := (h2' q e).2; omega
    · omega
    · omega)
  have s1 := own_slice onF
  have s2 := own_slice obF
  obtain ⟨a1, c1, e1, s1, _⟩ := s1
  obtain ⟨a2, c2, e2, s2, _⟩ := s2
  cases e1
  cases e2
  refine ⟨fun w2 g2 => ?_, s1, s2⟩
  have onW := g2.own onF (fun q hq => by have := (onF.lt q hq).1; omega)
  have obW := g2.own obF (fun q hq => by have := (obF.lt q hq).1; omega)
  obtain ⟨a1, c1, e1, _, i1⟩ := ints_of_own onW
  cases e1
  have hA := (hFF w2 (g2.mono fun q _ e => by omega)).snoc (hfF w2 (g2.mono fun q _ e => by omega))
  have hfl : K.flatten ++ cs = (K ++ [cs]).flatten := by simp
  rw [hfl] at obW
  obtain ⟨a2, c2, e2, r2, _⟩ := rows_of_own blkR obW hA (by rw [List.length_append, hTn]; rfl)
  cases e2
  exact ⟨i1, r2⟩

set_option maxRecDepth 10000 in
set_option maxHeartbeats 12800000 in
theorem add_is (a b : Option Addr) (n c m d : Nat) (N : List Int) (T : List BlkD) (s p h k o : Int) (ta : Option Addr) (tn tc : Nat) (L : List TxD) (N' : List Int) (T' : List BlkD) (n' : Nat) (x : Int) (w : World) (hN : IntsAt w a n N) (hT : BlksAt w b m T) (sN : SlOk a n c) (sT : SlOk b m d) (hL : TxsAt w ta tn L) (sL : SlOk ta tn tc) (hx : addE N T s (p, h, k, o, L) = (N', T', x)) (hn' : N'.length = n') :
    Calls Tryz.prog 63 #[.agg #[.slice a n c, .slice b m d], .int .i64 s, .agg #[.int .i64 p, .int .i64 h, .int .i64 k, .int .i64 o, .slice ta tn tc]] w fun e w' => AddR w w' N' T' n' x e := by
  obtain ⟨i0, hi, hz0, hz1, hz2⟩ := info_parts Tryz.infoInt
  obtain ⟨j0, ji, jz0, jz1, jz2⟩ := info_parts Tryz.infoBlkC
  obtain ⟨X, hX⟩ : ∃ X, X = ((w.alloc (.cells #[.slice a n c, .slice b m d] 28)).alloc (.cells #[.int .i64 p, .int .i64 h, .int .i64 k, .int .i64 o, .slice ta tn tc] 39)).alloc (.cells #[.slice none 0 0, .slice none 0 0] 28) := ⟨_, rfl⟩
  have hbX : Below w.heap.size w X := by rw [hX]; exact bel_on (bel_on (bel_new _ _) (bel_new _ _)) (bel_new _ _)
  have hX0 : X.heap[w.heap.size]? = some (.cells [.slice a n c, .slice b m d].toArray 28 (0, 0)) := by
    rw [hX, Below.heap_alloc _ _ _ (by simp; omega), Below.heap_alloc _ _ _ (by simp)]; exact two_heap _ _ _ _
  have hX1 : X.heap[w.heap.size + 1]? = some (.cells [.int .i64 p, .int .i64 h, .int .i64 k, .int .i64 o, .slice ta tn tc].toArray 39 (0, 0)) := by
    rw [hX, Below.heap_alloc _ _ _ (by simp)]
    have := five_heap (w.alloc (.cells #[.slice a n c, .slice b m d] 28)) (.int .i64 p) (.int .i64 h) (.int .i64 k) (.int .i64 o) (.slice ta tn tc) 39
    rw [show (w.alloc (.cells #[.slice a n c, .slice b m d] 28)).heap.size = w.heap.size + 1 by simp] at this
    exact this
  have hX2 : X.heap[w.heap.size + 2]? = some (.cells [.slice none 0 0, .slice none 0 0].toArray 28 (0, 0)) := by
    rw [hX]
    have := two_heap ((w.alloc (.cells #[.slice a n c, .slice b m d] 28)).alloc (.cells #[.int .i64 p, .int .i64 h, .int .i64 k, .int .i64 o, .slice ta tn tc] 39)) (.slice none 0 0) (.slice none 0 0) 28
    rw [show ((w.alloc (.cells #[.slice a n c, .slice b m d] 28)).alloc (.cells #[.int .i64 p, .int .i64 h, .int .i64 k, .int .i64 o, .slice ta tn tc] 39)).heap.size = w.heap.size + 2 by simp] at this
    exact this
  have hm := sN.2.1
  unfold maxLen at hm
  have hnc := sN.1
  have HB := hide hbX
  have HX0 := hide hX0
  have HX1 := hide hX1
  have HX2 := hide hX2
  obtain ⟨y, hy⟩ : ∃ y, chkTr N T = y := ⟨_, rfl⟩
  obtain ⟨z, hz⟩ : ∃ z, nextD N T s (p, h, k, o, L) = z := ⟨_, rfl⟩
  have C1 := hide (trCheck_any a b n c m d N T y X (hN.later hbX) (hT.later hbX) sN sT hy)
  have x0 := cell_of hX0 0 _ rfl
  have x1 := cell_of hX0 1 _ rfl
  have xl := lt_of_block hX0
  unfold addE at hx
  rw [hy, hz] at hx
  by_cases q : y = 0
  · subst q
    rw [if_neg (by simp)] at hx
    obtain ⟨hl, h24, hH, hgo⟩ := chkTr_ok hy
    obtain rfl : n = m := by rw [← hN.1, ← hT.1, hl]
    have hnm : n ≤ maxLen := sN.len
    have hn24 : n ≤ 24 := by rw [← hN.1]; exact h24
    have HS := hide (fun t ht => blk_small (chkGo_blks N T [] [] hl hgo t ht))
    have C2 := hide (fun W (hb : Below X.heap.size X W) => next_is a b n c d N T s p h k o ta tn tc L z W hnm (hN.later (bel_on hbX hb)) (hT.later (bel_on hbX hb)) (hL.later (bel_on hbX hb)) hH hz)
    rw [hN.1] at hx
    have HXX := hide hx
    have HNN := hide hn'
    have CT := hide (fun W (hb : Below X.heap.size X W) => clTree_is a b n c d N T W (hN.later (bel_on hbX hb)) (hT.later (bel_on hbX hb)) sN sT (by omega) (unhide HS))
    have CB := hide (fun W (hb : Below w.heap.size w W) (q : z = 0) => clBlock_is p h k o ta tn tc L W (hL.later hb) sL (by rw [← hL.1]; exact (blk_small (next_chk (hz.trans q))).1) (blk_small (next_chk (hz.trans q))).2)
    have HZN := hide hN.1
    clear hbX hX0 hX1 hX2 hN hT sN sT hL sL hy hz hl h24 hH hgo hnm hx hn' HS
    go_enter Tryz.func63, Tryz.ntmps63
    go_wp2_with fail
    rw [← hX]
    clear hX
    refine (unhide C1).mono ?_
    rintro e w1 ⟨rfl, hb1⟩
    have HB1 := hide hb1
    have h0 := (hb1.block _ (lt_of_block (unhide HX0))).trans (unhide HX0)
    have h1 := (hb1.block _ (lt_of_block (unhide HX1))).trans (unhide HX1)
    have a0 := cell_of h0 0 _ rfl
    have a1 := cell_of h0 1 _ rfl
    have al := lt_of_block h0
    have b0 := cell_of h1 0 _ rfl
    have b1 := cell_of h1 1 _ rfl
    have b2 := cell_of h1 2 _ rfl
    have b3 := cell_of h1 3 _ rfl
    have b4 := cell_of h1 4 _ rfl
    have bl := lt_of_block h1
    clear hb1 h0 h1 x0 x1 xl C1
    go_wp2_with fail
    refine ((unhide C2) _ (unhide HB1)).mono ?_
    rintro e w2 ⟨rfl, hb2⟩
    have HB2 := hide (bel_on (unhide HB1) hb2)
    clear hb2 a0 a1 al b0 b1 b2 b3 b4 bl C2 HB1
    have h0 := ((unhide HB2).block _ (lt_of_block (unhide HX0))).trans (unhide HX0)
    have h1 := ((unhide HB2).block _ (lt_of_block (unhide HX1))).trans (unhide HX1)
    have h2 := ((unhide HB2).block _ (lt_of_block (unhide HX2))).trans (unhide HX2)
    have c0 := cell_of h2 0 _ rfl
    have c1 := cell_of h2 1 _ rfl
    have f0 := frozen_of h2 0
    have f1 := frozen_of h2 1
    have cl := lt_of_block h2
    have HBW := hide (bel_on (unhide HB) (unhide HB2))
    by_cases q2 : z = 0
    · subst q2
      have a0 := cell_of h0 0 _ rfl
      have a1 := cell_of h0 1 _ rfl
      have al := lt_of_block h0
      by_cases q3 : n = 24
      · subst q3
        obtain ⟨rfl, rfl, rfl⟩ : ([] : List Int) = N' ∧ ([] : List BlkD) = T' ∧ 12 = x := by
          have q := unhide HXX
          rw [if_neg (by simp), if_pos rfl] at q
          exact ⟨congrArg (·.1) q, congrArg (·.2.1) q, congrArg (·.2.2) q⟩
        obtain rfl : 0 = n' := unhide HNN
        clear HXX h0 h1 h2
        go_wp2
        (try simp only [Exit.inBlock, Exit.then])
        refine bodyPost_ret (v := .tuple #[.agg #[.slice none 0 0, .slice none 0 0], .int .i64 12]) ?_ rfl (addR_nil ?_)
        · rw [results_cell_tmp1 rfl]
          go_simp
        · exact box2_below (unhide HBW) (by omega) (unhide HBW).size _ _
      · have R : Hid (N ++ [s] = N' ∧ T ++ [(p, h, k, o, L)] = T' ∧ 0 = x) := by
          have q := unhide HXX
          rw [if_neg (by simp), if_neg q3] at q
          exact ⟨congrArg (·.1) q, congrArg (·.2.1) q, congrArg (·.2.2) q⟩
        obtain rfl : 0 = x := (unhide R).2.2
        have g3 : ((n : Int) == 24) = false := by simp; omega
        have H0 := hide h0
        have H1 := hide h1
        have H2 := hide h2
        obtain rfl : n + 1 = n' := by rw [← unhide HNN, ← (unhide R).1, List.length_append, unhide HZN]; rfl
        clear HXX q3 h0 h1 h2 c0 c1 f0 f1
        go_wp2_with fail
        refine ((unhide CT) _ (unhide HB2)).mono ?_
        rintro e w5 ⟨v1, v2, rfl, hTO, hb5⟩
        obtain ⟨K, G, o1, o2, g1, g2, hBG, hTn, hF⟩ := hTO
        obtain ⟨a1', c1', rfl, s1, r1⟩ := own_slice o1
        obtain ⟨a2', c2', rfl, s2, r2⟩ := own_slice o2
        obtain ⟨t6, ht6⟩ : ∃ t6, t6 = w.heap.size + 2 := ⟨_, rfl⟩
        have hB5 : w.heap.size + 3 ≤ w2.heap.size + 2 := by omega
        have hs5 : w2.heap.size ≤ w5.heap.size := hb5.size
        have hb1lt : ∀ q, (Value.slice a1' n c1').ownBlock = some q → w2.heap.size + 2 ≤ q ∧ q < w5.heap.size := fun q hq => o1.lt q hq
        have hb2lt : ∀ q, (Value.slice a2' n c2').ownBlock = some q → w2.heap.size + 2 ≤ q ∧ q < w5.heap.size := fun q hq => o2.lt q hq
        have OWN : Hid (((w5.alloc (.cells #[.slice a1' n c1', .slice a2' n c2'] 28)).alloc (.cells #[.int .i64 s] 3)).ownsRow (w2.heap.size + 2) 3 1 (.slice a1' n c1') n (N.map (Value.int .i64))) := (o1.alloc _).alloc _
        have NEWS : Hid (∀ j u, ([.int .i64 s] : List Value)[j]? = some u → ((w5.alloc (.cells #[.slice a1' n c1', .slice a2' n c2'] 28)).alloc (.cells #[.int .i64 s] 3)).cell? ((⟨w5.heap.size + 1, 0, none⟩ : Addr).add j) = some u) := by
          have := heap_alloc_new (w5.alloc (.cells #[.slice a1' n c1', .slice a2' n c2'] 28)) (.cells #[.int .i64 s] 3)
          rw [show (w5.alloc (.cells #[.slice a1' n c1', .slice a2' n c2'] 28)).heap.size = w5.heap.size + 1 by simp] at this
          exact World.news_of_block (cs := #[.int .i64 s]) (t := 3) (fr := (0, 0)) this
        have BX : Hid (((w5.alloc (.cells #[.slice a1' n c1', .slice a2' n c2'] 28)).alloc (.cells #[.int .i64 s] 3)).heap[w5.heap.size]? = some (.cells [.slice a1' n c1', .slice a2' n c2'].toArray 28 (0, 0))) := by
          show _ = _
          rw [Below.heap_alloc _ _ _ (by simp)]
          exact two_heap _ _ _ _
        have HO2 := hide o2
        have HF := hide hF
        have HG1 := hide g1
        have HG2 := hide g2
        have HL1 := hide hb1lt
        have HL2 := hide hb2lt
        have HB5 := hide hb5
        have HTN := hide hTn
        have HBG := hide hBG
        have HS2 := hide s2
        clear o1 o2 hF g1 g2 hb1lt hb2lt hb5 a0 a1 al r1 r2 CT hTn hBG s1 s2
        go_wp2_with (at_builtin; refine wpList_append_lies _ rfl _ _ 25 rfl (w2.heap.size + 2) 3 i0 (.int .i64 0) 1 8 Tryz.underlying25 hi hz0 hz1 hz2 rfl (by decide) _ _ _ rfl (unhide OWN) ⟨w5.heap.size + 1, 0, none⟩ 1 1 [.int .i64 s] rfl rfl (unhide NEWS) (fun u hu => by simp at hu; subst hu; rfl) (by decide) (by unfold maxLen; omega) (by omega) (by simp; omega) (w5.heap.size + 2) (by simp) ?_; intro g cap w8 hown8 hgrow8 hor8 hlt8; have bx8 := (hgrow8.block w5.heap.size (by simp; omega) (fun e => by have := ((unhide HL1) _ e.symm).2; omega)).trans (unhide BX); have d0 := cell_of bx8 0 _ rfl; have d1 := cell_of bx8 1 _ rfl; have df := frozen_of bx8 0; have dl := lt_of_block bx8; have HW8 := hide hown8; have HGR8 := hide hgrow8; have HOR8 := hide hor8; have HX8 := hide bx8; clear hown8 hgrow8 hor8 bx8)
        obtain ⟨w9, hw9⟩ : ∃ w9, w9 = w8.setCell ⟨w5.heap.size, 0, none⟩ (.slice (some ⟨g, 0, none⟩) (n + 1) cap) := ⟨_, rfl⟩
        rw [← hw9]
        have hG8 : Gr w5 w8 (fun q => (Value.slice a1' n c1').ownBlock = some q) := (((Gr.refl w5 (fun q => (Value.slice a1' n c1').ownBlock = some q)).new _).new _).grown (unhide HGR8) (fun k hk => .inl hk)
        have hG9 : Gr w5 w9 (fun q => (Value.slice a1' n c1').ownBlock = some q) := by rw [hw9]; exact hG8.one w5.heap.size 0 (.inr (Nat.le_refl _)) _
        have bx9 : w9.heap[w5.heap.size]? = some (.cells [.slice (some ⟨g, 0, none⟩) (n + 1) cap, .slice a2' n c2'].toArray 28 (0, 0)) := by rw [hw9]; exact set_cells (unhide HX8) 0 _
        have hb9 : Below w.heap.size w w9 := hG9.below (bel_on (unhide HBW) (unhide HB5)) (by omega) (fun q hq => by have := ((unhide HL1) q hq).1; omega)
        have h91 := hG9.heap (((unhide HB5).block _ (lt_of_block (unhide H1))).trans (unhide H1)) (fun hq => by have := ((unhide HL1) _ hq).1; have := lt_of_block (unhide H1); omega)
        have h92 := hG9.heap (((unhide HB5).block _ (lt_of_block (unhide H2))).trans (unhide H2)) (fun hq => by have := ((unhide HL1) _ hq).1; omega)
        have hg8 : g ≠ w5.heap.size ∧ w2.heap.size + 2 ≤ g := by
          rcases unhide HOR8 with e | e
          · have := (unhide HL1) g e; omega
          · omega
        have hg82 : (Value.slice a2' n c2').ownBlock ≠ some g := by
          have o28 : w8.ownsRow (w2.heap.size + 2) 39 5 (.slice a2' n c2') n K.flatten := hG8.own (unhide HO2) (fun q hq e => own_apart ((((unhide OWN).kept (w' := (w5.alloc (.cells #[.slice a1' n c1', .slice a2' n c2'] 28)).alloc (.cells #[.int .i64 s] 3)) (row := none) (World.grownBy.refl _ _) (by cases a1' <;> simp [Value.ownBlock])))) (((unhide HO2).alloc _).alloc _) (by decide) q e hq)
          exact own_apart (unhide HW8) o28 (by decide) g rfl
        have on9 : w9.ownsRow (w2.heap.size + 2) 3 1 (.slice (some ⟨g, 0, none⟩) (n + 1) cap) (n + 1) ((N ++ [s]).map (Value.int .i64)) := by
          rw [hw9]
          have := ((Gr.refl w8 (fun q => q = w5.heap.size)).one w5.heap.size 0 (.inl rfl) (.slice (some ⟨g, 0, none⟩) (n + 1) cap)).own (unhide HW8) (fun q hq e => by cases hq; exact hg8.1 e)
          simpa using this
        have ob9 : w9.ownsRow (w2.heap.size + 2) 39 5 (.slice a2' n c2') n K.flatten := hG9.own (unhide HO2) (fun q hq e => own_apart (unhide OWN) (((unhide HO2).alloc _).alloc _) (by decide) q e hq)
        have l9 : w5.heap.size < w9.heap.size := lt_of_block bx9
        have CC := hide ((unhide CB) w9.drew (bel_on hb9 (bel_draw1 _)) (by trivial))
        have e0 := cell_of bx9 0 _ rfl
        have e1 := cell_of bx9 1 _ rfl
        have k0 := cell_of h91 0 _ rfl
        have k1 := cell_of h91 1 _ rfl
        have k2 := cell_of h91 2 _ rfl
        have k3 := cell_of h91 3 _ rfl
        have k4 := cell_of h91 4 _ rfl
        have kl := lt_of_block h91
        have HBX9 := hide bx9
        have HG9 := hide hG9
        have H92 := hide h92
        have HON9 := hide on9
        have HOB9 := hide ob9
        have HB9 := hide hb9
        clear hw9 hG8 hG9 bx9 hb9 h91 h92 on9 ob9 d0 d1 df dl CB
        go_region_law (first
          | (refine step_call_go (by rfl) 71 #[.agg #[.int .i64 p, .int .i64 h, .int .i64 k, .int .i64 o, .slice ta tn tc]] (by kernel_rfl) (unhide CC) ?_
             rintro e w10 ⟨a5, c5, rfl, hf10, hb10⟩
             refine ⟨_, rfl, ?_⟩
             have bx10 := (hb10.block _ (lt_of_block (unhide HBX9))).trans (unhide HBX9)
             have m0 := cell_of bx10 0 _ rfl
             have m1 := cell_of bx10 1 _ rfl
             have ml := lt_of_block bx10
             have HF10 := hide hf10
             have HB10 := hide hb10
             have HBX10 := hide bx10
             have HOB10 := hide ((Gr.of (S := fun _ => False) hb10).own (unhide HOB9).drew (fun _ _ q => q))
             clear hf10 hb10 bx10)
          | (refine step_append_lies _ (by rfl) _ _ _ (by rfl) (w2.heap.size + 2) 39 j0 _ 5 56 Tryz.underlying26 ji jz0 jz1 jz2 rfl (by decide) (.slice a2' n c2') n K.flatten (by rfl) ((unhide HOB10).alloc _) ⟨w10.heap.size, 0, none⟩ 1 1 [.int .i64 p, .int .i64 h, .int .i64 k, .int .i64 o, .slice a5 tn c5] (by rfl) (by rfl) (World.news_of_block (cs := #[.int .i64 p, .int .i64 h, .int .i64 k, .int .i64 o, .slice a5 tn c5]) (t := 39) (fr := (0, 0)) (heap_alloc_new w10 _)) (by simp [Value.oneCell']) (by decide) (by unfold maxLen; omega) (by omega) (by simp; omega) (w10.heap.size + 1) (by simp) ?_
             intro g2 cap2 w12 hown12 hgrow12 hor12 hlt12
             have bx12 := (hgrow12.block w5.heap.size (by simp; omega) (fun e => by have := ((unhide HL2) _ e.symm).2; omega)).trans ((Below.heap_alloc _ _ _ ml).trans (unhide HBX10))
             have n0 := cell_of bx12 0 _ rfl
             have n1 := cell_of bx12 1 _ rfl
             have nf := frozen_of bx12 1
             have nl := lt_of_block bx12
             have HW12 := hide hown12
             have HGR12 := hide hgrow12
             have HOR12 := hide hor12
             have HBX12 := hide bx12
             clear hown12 hgrow12 hor12 bx12))
        all_goals
          have g912 : Gr w9 w12 (fun q => (Value.slice a2' n c2').ownBlock = some q) := ((Gr.of (bel_on (bel_draw1 w9) (unhide HB10))).new _).grown (unhide HGR12) (fun k hk => .inl hk)
          have g1012 : Gr w10 w12 (fun q => (Value.slice a2' n c2').ownBlock = some q) := ((Gr.refl w10 _).new _).grown (unhide HGR12) (fun k hk => .inl hk)
          have t12 := g912.heap (unhide H92) (fun e => by have := ((unhide HL2) _ e).1; omega)
          obtain ⟨w13, hw13⟩ : ∃ w13, w13 = w12.setCell ⟨w5.heap.size, 1, none⟩ (.slice (some ⟨g2, 0, none⟩) (n + 1) cap2) := ⟨_, rfl⟩
          have bx13 : w13.heap[w5.heap.size]? = some (.cells [.slice (some ⟨g, 0, none⟩) (n + 1) cap, .slice (some ⟨g2, 0, none⟩) (n + 1) cap2].toArray 28 (0, 0)) := by rw [hw13]; exact set_cells (unhide HBX12) 1 _
          have t13 : w13.heap[w.heap.size + 2]? = some (.cells [.slice none 0 0, .slice none 0 0].toArray 28 (0, 0)) := by rw [hw13]; exact ((Gr.refl w12 (fun q => q = w5.heap.size)).one w5.heap.size 1 (.inl rfl) _).heap t12 (by omega)
          have gf : ∀ {W : World} {S : Nat → Prop}, Gr W w12 S → Gr W ((w13.setCell ⟨w.heap.size + 2, 0, none⟩ (.slice (some ⟨g, 0, none⟩) (n + 1) cap)).setCell ⟨w.heap.size + 2, 1, none⟩ (.slice (some ⟨g2, 0, none⟩) (n + 1) cap2)) (fun q => S q ∨ q = w5.heap.size ∨ q = w.heap.size + 2) := by
            intro W S hW
            rw [hw13]
            exact (((hW.mono (fun q _ e => .inl e)).one w5.heap.size 1 (.inl (.inr (.inl rfl))) _).one (w.heap.size + 2) 0 (.inl (.inr (.inr rfl))) _).one (w.heap.size + 2) 1 (.inl (.inr (.inr rfl))) _
          have hsz9 := (unhide HB10).size
          have FIN := add_fin (w9 := w9) (B := w.heap.size) (t6 := w.heap.size + 2) (by omega) (by omega) (unhide HBG) (unhide HTN) (unhide HF) (unhide HF10) (unhide HG1) (unhide HG2) (unhide HL2) rfl l9 (by omega) (by have := lt_of_block (unhide H92); omega) (unhide HG9) (gf g912) (gf g1012) ((gf (Gr.refl w12 (fun _ => False))).mono fun q _ e => by rcases e with e | e; exact e.elim; exact e) (unhide HON9) hg8.1 hg82 (unhide HW12) (by
            rcases unhide HOR12 with e | e
            · have := (unhide HL2) g2 e; omega
            · have : w9.heap.size ≤ w10.heap.size := hsz9
              omega)
          have HFIN := hide FIN
          have HBF : Hid (Below w.heap.size w ((w13.setCell ⟨w.heap.size + 2, 0, none⟩ (.slice (some ⟨g, 0, none⟩) (n + 1) cap)).setCell ⟨w.heap.size + 2, 1, none⟩ (.slice (some ⟨g2, 0, none⟩) (n + 1) cap2))) := (gf g912).below (unhide HB9) (by omega) (fun q e => by
            rcases e with e | e | e
            · have := ((unhide HL2) _ e).1; omega
            · omega
            · omega)
          have y0 := cell_of bx13 0 _ rfl
          have y1 := cell_of bx13 1 _ rfl
          have yl := lt_of_block bx13
          have u0 := cell_of t13 0 _ rfl
          have u1 := cell_of t13 1 _ rfl
          have uf0 := frozen_of t13 0
          have uf1 := frozen_of t13 1
          have ul := lt_of_block t13
          rw [← hw13]
          clear hw13 gf FIN g912 g1012 t12 bx13 t13 n0 n1 nf nl m0 m1 ml e0 e1 k0 k1 k2 k3 k4 kl
          go_wp2
          (try simp only [Exit.inBlock, Exit.then])
          refine bodyPost_ret (v := .tuple #[.agg #[.slice (some ⟨g, 0, none⟩) (n + 1) cap, .slice (some ⟨g2, 0, none⟩) (n + 1) cap2], .int .i64 0]) ?_ rfl ?_
          · rw [results_cell_tmp1 rfl]
            go_simp
          · obtain ⟨f1, f2, f3⟩ := unhide HFIN
            rw [← (unhide R).1, ← (unhide R).2.1]
            exact ⟨_, _, _, _, rfl, f1, f2, f3, unhide HBF⟩
    · obtain ⟨rfl, rfl, rfl⟩ : ([] : List Int) = N' ∧ ([] : List BlkD) = T' ∧ z = x := by
        have q := unhide HXX
        rw [if_pos q2] at q
        exact ⟨congrArg (·.1) q, congrArg (·.2.1) q, congrArg (·.2.2) q⟩
      obtain rfl : 0 = n' := unhide HNN
      have g2 : (z != 0) = true := by simp [q2]
      clear HXX h0 h1 h2 q2
      go_wp2
      (try simp only [Exit.inBlock, Exit.then])
      refine bodyPost_ret (v := .tuple #[.agg #[.slice none 0 0, .slice none 0 0], .int .i64 z]) ?_ rfl (addR_nil ?_)
      · rw [results_cell_tmp1 rfl]
        go_simp
      · exact box2_below (unhide HBW) (by omega) (unhide HBW).size _ _
  · rw [if_pos q] at hx
    obtain ⟨rfl, rfl, rfl⟩ : ([] : List Int) = N' ∧ ([] : List BlkD) = T' ∧ y = x := ⟨congrArg (·.1) hx, congrArg (·.2.1) hx, congrArg (·.2.2) hx⟩
    obtain rfl : 0 = n' := hn'
    have g : (y != 0) = true := by simp [q]
    clear hbX hX0 hX1 hX2 hN hT sN sT hL sL hy hz hx q
    go_enter Tryz.func63, Tryz.ntmps63
    go_wp2_with fail
    rw [← hX]
    clear hX
    refine (unhide C1).mono ?_
    rintro e w1 ⟨rfl, hb1⟩
    have h2 := (hb1.block _ (lt_of_block (unhide HX2))).trans (unhide HX2)
    have c0 := cell_of h2 0 _ rfl
    have c1 := cell_of h2 1 _ rfl
    have f0 := frozen_of h2 0
    have f1 := frozen_of h2 1
    have cl := lt_of_block h2
    have HB1 := hide (bel_on (unhide HB) hb1)
    clear hb1 h2 x0 x1 xl C1
    go_wp2
    (try simp only [Exit.inBlock, Exit.then])
    refine bodyPost_ret (v := .tuple #[.agg #[.slice none 0 0, .slice none 0 0], .int .i64 y]) ?_ rfl (addR_nil ?_)
    · rw [results_cell_tmp1 rfl]
      go_simp
    · exact box2_below (unhide HB1) (by omega) (unhide HB1).size _ _

end Go.Proofs.YtmomfkikogbdeaaGreatDoor.Tr
