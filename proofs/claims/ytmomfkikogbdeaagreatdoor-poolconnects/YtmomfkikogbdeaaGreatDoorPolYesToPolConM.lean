/- The closed fact pooled answers true. -/
import Derived.Test.YtmomfkikogbdeaaGreatDoorPolMake
import Derived.Test.YtmomfkikogbdeaaGreatDoorTxStateToChnStep
namespace Go.Proofs.YtmomfkikogbdeaaGreatDoor
open Go.RowKit

def plC : List CoinD := [(1, 0, 9, [], 1, false)]
def plT : TxD := (0, [(1, 0, [(1, 1)])], [(6, [])])
def plK : List ByteArray := (acE [] plC [] plT 4).2.1
def plB : BlkD := (5, 4, 1, 0, [(4, [], [(67, [])]), plT])
theorem pl1 : acE [] plC [] plT 4 = (0, plK, [plT]) := by kernel_rfl
theorem pl2 : acE plK plC [plT] plT 4 = (6, [], []) := by kernel_rfl
theorem pl3 : mkE plK plC [plT] 5 4 1 0 [] = (0, plB) := by kernel_rfl

set_option maxRecDepth 10000 in
set_option maxHeartbeats 6400000 in
theorem pooled_yes (w : World) (hE : Env w) : Calls Tryz.prog 24 #[] w fun e w' => e = .returned (.bool true) ∧ Below w.heap.size w w' := by
  obtain ⟨X, hX⟩ : ∃ X, X = allocs w [.cells #[.int .i64 1, .int .i64 0, .int .i64 9, .slice none 0 0, .int .i64 1, .bool false] 124, .cells #[.int .i64 1, .int .i64 1] 164, .cells #[.int .i64 1, .int .i64 0, .slice (some ⟨w.heap.size + 1, 0, none⟩) 1 1] 119, .cells #[.int .i64 6, .slice none 0 0] 122, .cells #[.int .i64 0, .slice (some ⟨w.heap.size + 1 + 1, 0, none⟩) 1 1, .slice (some ⟨w.heap.size + 1 + 1 + 1, 0, none⟩) 1 1] 59] := ⟨_, rfl⟩
  have hbX : Below w.heap.size w X := by rw [hX]; exact allocs_bel _ _
  have x0 : X.heap[w.heap.size]? = some (.cells [.int .i64 1, .int .i64 0, .int .i64 9, .slice none 0 0, .int .i64 1, .bool false].toArray 124 (0, 0)) := by rw [hX]; exact allocs_at _ w 0 _ rfl
  have x1 : X.heap[w.heap.size + 1]? = some (.cells [.int .i64 1, .int .i64 1].toArray 164 (0, 0)) := by rw [hX]; exact allocs_at _ w 1 _ rfl
  have x2 : X.heap[w.heap.size + 1 + 1]? = some (.cells [.int .i64 1, .int .i64 0, .slice (some ⟨w.heap.size + 1, 0, none⟩) 1 1].toArray 119 (0, 0)) := by rw [hX]; exact allocs_at _ w 2 _ rfl
  have x3 : X.heap[w.heap.size + 1 + 1 + 1]? = some (.cells [.int .i64 6, .slice none 0 0].toArray 122 (0, 0)) := by rw [hX]; exact allocs_at _ w 3 _ rfl
  have x4 : X.heap[w.heap.size + 1 + 1 + 1 + 1]? = some (.cells [.int .i64 0, .slice (some ⟨w.heap.size + 1 + 1, 0, none⟩) 1 1, .slice (some ⟨w.heap.size + 1 + 1 + 1, 0, none⟩) 1 1].toArray 59 (0, 0)) := by rw [hX]; exact allocs_at _ w 4 _ rfl
  have hX' : X = ((((w.alloc (.cells #[.int .i64 1, .int .i64 0, .int .i64 9, .slice none 0 0, .int .i64 1, .bool false] 124)).alloc (.cells #[.int .i64 1, .int .i64 1] 164)).alloc (.cells #[.int .i64 1, .int .i64 0, .slice (some ⟨w.heap.size + 1, 0, none⟩) 1 1] 119)).alloc (.cells #[.int .i64 6, .slice none 0 0] 122)).alloc (.cells #[.int .i64 0, .slice (some ⟨w.heap.size + 1 + 1, 0, none⟩) 1 1, .slice (some ⟨w.heap.size + 1 + 1 + 1, 0, none⟩) 1 1] 59) := hX
  have s1 : ∀ b : Nat, SlOk (some ⟨b, 0, none⟩) 1 1 := fun b => ⟨Nat.le_refl _, by decide, fun e => by cases e⟩
  have hC : CoinsAt X (some ⟨w.heap.size, 0, none⟩) 1 plC := ⟨rfl, fun _ => ⟨w.heap.size, 0, rfl, lt_of_block x0, fun i hi => by
    have ei : i = 0 := by simp [plC] at hi; omega
    subst ei
    exact ⟨cell_of x0 0 _ rfl, cell_of x0 1 _ rfl, cell_of x0 2 _ rfl, ⟨none, 0, 0, cell_of x0 3 _ rfl, ⟨rfl, fun h => absurd h (by omega)⟩, slok_nil⟩, cell_of x0 4 _ rfl, cell_of x0 5 _ rfl⟩⟩⟩
  have hO1 : OpsAt X (some ⟨w.heap.size + 1, 0, none⟩) 1 [(1, 1)] := ⟨rfl, fun _ => ⟨w.heap.size + 1, 0, rfl, fun i hi => by
    have ei : i = 0 := by simp at hi; omega
    subst ei
    exact ⟨cell_of x1 0 _ rfl, cell_of x1 1 _ rfl⟩⟩⟩
  have hI : InsAt X (some ⟨w.heap.size + 1 + 1, 0, none⟩) 1 [(1, 0, [(1, 1)])] := ⟨rfl, fun _ => ⟨w.heap.size + 1 + 1, 0, rfl, lt_of_block x2, fun i hi => by
    have ei : i = 0 := by simp at hi; omega
    subst ei
    exact ⟨cell_of x2 0 _ rfl, cell_of x2 1 _ rfl, _, _, _, cell_of x2 2 _ rfl, hO1, s1 _⟩⟩⟩
  have hO : OutsAt X (some ⟨w.heap.size + 1 + 1 + 1, 0, none⟩) 1 [(6, [])] := ⟨rfl, fun _ => ⟨w.heap.size + 1 + 1 + 1, 0, rfl, lt_of_block x3, fun i hi => by
    have ei : i = 0 := by simp at hi; omega
    subst ei
    exact ⟨cell_of x3 0 _ rfl, _, _, _, cell_of x3 1 _ rfl, ⟨rfl, fun h => absurd h (by omega)⟩, slok_nil⟩⟩⟩
  have A1 := hide (pAccept_is none 0 0 [] (some ⟨w.heap.size, 0, none⟩) 1 1 plC none 0 0 [] 0 (some ⟨w.heap.size + 1 + 1, 0, none⟩) (some ⟨w.heap.size + 1 + 1 + 1, 0, none⟩) 1 1 1 1 [(1, 0, [(1, 1)])] [(6, [])] 4 0 plK [plT] X (hE.later hbX) ⟨rfl, fun h => absurd h (by omega)⟩ hC (s1 _) (RowsAt.nil _ _) hI hO (s1 _) (s1 _) pl1)
  have A2 := hide (fun W (hw : Below X.heap.size X W) ka kn kc sa sc (hk : Bk.TextsAt W ka kn plK) (hs : TxsAt W sa 1 [plT]) => pAccept_is ka kn kc plK (some ⟨w.heap.size, 0, none⟩) 1 1 plC sa 1 sc [plT] 0 (some ⟨w.heap.size + 1 + 1, 0, none⟩) (some ⟨w.heap.size + 1 + 1 + 1, 0, none⟩) 1 1 1 1 [(1, 0, [(1, 1)])] [(6, [])] 4 6 [] [] W (hE.later (bel_on hbX hw)) hk (hC.later hw) (s1 _) hs (hI.later hw) (hO.later hw) (s1 _) (s1 _) pl2)
  have A3 := hide (fun W (hw : Below X.heap.size X W) ka kn kc sa sc (hk : Bk.TextsAt W ka kn plK) (hs : TxsAt W sa 1 [plT]) => pMake_is ka kn kc plK (some ⟨w.heap.size, 0, none⟩) 1 1 plC sa 1 sc [plT] 5 3 1 0 none 0 0 [] 4 0 plB W (hE.later (bel_on hbX hw)) hk (hC.later hw) (s1 _) hs ⟨rfl, fun h => absurd h (by omega)⟩ slok_nil (by omega) (by decide) pl3)
  have HBX := hide hbX
  have HX4 := hide x4
  have t0 := cell_of x4 0 _ rfl
  have t1 := cell_of x4 1 _ rfl
  have t2 := cell_of x4 2 _ rfl
  have tl := lt_of_block x4
  clear hE hbX x0 x1 x2 x3 x4 hX s1 hC hO1 hI hO
  go_enter Tryz.func24, Tryz.ntmps24
  go_wp2_with fail
  rw [← hX']
  clear hX'
  (try go_wp2_with fail)
  refine (unhide A1).mono ?_
  rintro e w1 ⟨ka, kn, kc, sa, sn, sc, rfl, hF1, _, _, hb1⟩
  obtain ⟨hK1, hS1⟩ := hF1 w1 (Gr.refl _ _)
  obtain rfl : sn = 1 := hS1.1.symm
  obtain ⟨Y, hY⟩ : ∃ Y, Y = w1.alloc (.cells #[.slice ka kn kc] 24) := ⟨_, rfl⟩
  have hbY : Below w1.heap.size w1 Y := by rw [hY]; exact bel_new _ _
  have y0 : Y.heap[w1.heap.size]? = some (.cells [.slice ka kn kc].toArray 24 (0, 0)) := by rw [hY]; exact one_heap _ _ _
  have hbXY := bel_on hb1 hbY
  have h4 := (hbXY.block _ (lt_of_block (unhide HX4))).trans (unhide HX4)
  have C2 := hide ((unhide A2) Y hbXY ka kn kc sa sc (hK1.later hbY) (hS1.later hbY))
  have h41 := (hb1.block _ (lt_of_block (unhide HX4))).trans (unhide HX4)
  have t0 := cell_of h41 0 _ rfl
  have t1 := cell_of h41 1 _ rfl
  have t2 := cell_of h41 2 _ rfl
  have tl := lt_of_block h41
  have k0 := cell_of y0 0 _ rfl
  have kl := lt_of_block y0
  have HK := hide (hK1.later hbY)
  have HS := hide (hS1.later hbY)
  have HBY := hide hbXY
  have HY0 := hide y0
  clear hF1 hb1 hK1 hS1 hbY y0 hbXY h4 h41 A1 A2
  go_wp2_with fail
  rw [← hY]
  clear hY
  (try go_wp2_with fail)
  refine (unhide C2).mono ?_
  rintro e w2 ⟨ka2, kn2, kc2, sa2, sn2, sc2, rfl, _, _, _, hb2⟩
  have hbY2 := bel_on (unhide HBY) hb2
  obtain ⟨Z, hZ⟩ : ∃ Z, Z = w2.alloc (.cells #[.slice ka2 kn2 kc2] 24) := ⟨_, rfl⟩
  have hbZ : Below w2.heap.size w2 Z := by rw [hZ]; exact bel_new _ _
  have hYZ := bel_on hb2 hbZ
  have C3 := hide ((unhide A3) Z (bel_on hbY2 hbZ) ka kn kc sa sc ((unhide HK).later hYZ) ((unhide HS).later hYZ))
  have k1 := (hb2.block _ (lt_of_block (unhide HY0))).trans (unhide HY0)
  have k10 := cell_of k1 0 _ rfl
  have k1l := lt_of_block k1
  have HBZ := hide (bel_on hbY2 hbZ)
  clear hb2 hbY2 hbZ hYZ k1 C2 A3 k0 kl t0 t1 t2 tl
  go_wp2_with fail
  rw [← hZ]
  clear hZ
  (try go_wp2_with fail)
  refine (unhide C3).mono ?_
  rintro e w3 ⟨ga, gn, gc, rfl, hF3, _, hb3⟩
  have hT := hF3 w3 (Gr.refl _ _)
  obtain rfl : gn = 2 := hT.1.symm
  obtain ⟨b, off, rfl, hbl, hrow⟩ := hT.2 (by omega)
  obtain ⟨_, _, oa, on, oc, c2, hO3, _⟩ := hrow 0 (by decide)
  obtain rfl : on = 1 := hO3.1.symm
  obtain ⟨ob, ooff, rfl, obl, orow⟩ := hO3.2 (by omega)
  have c3 := (orow 0 (by decide)).1
  have hbW := bel_new w3 (.cells #[.int .i64 plB.1, .int .i64 plB.2.1, .int .i64 plB.2.2.1, .int .i64 plB.2.2.2.1, .slice (some ⟨b, off, none⟩) 2 gc] 39)
  have HB3 := hide (bel_on (unhide HBX) (bel_on (unhide HBZ) (bel_on hb3 hbW)))
  simp only [blkV, plB, plT] at *
  simp only [Nat.zero_mul, Nat.add_zero, List.getElem_cons_zero] at c2 c3
  clear hF3 hb3 hT hrow hO3 orow hbW C3 k10 k1l
  go_wp2
  trace_state
  go_ret
  exact ⟨rfl, unhide HB3⟩

end Go.Proofs.YtmomfkikogbdeaaGreatDoor

/- Two transactions that spend other coins: either order leaves the same. In plain functions, nothing of the program. -/
namespace Go.Proofs.YtmomfkikogbdeaaGreatDoor

/-- Coins that are right one by one and stand in order: what can be wrong is how many they are, and how much. -/
theorem ckGo_only : ∀ (L : List CoinD) (p : Option PtD) (s : Int), (∀ c ∈ L, ck1 c = 0) → Srt L → (∀ c ∈ L, above p c = true) → ckGo p s L = 0 ∨ ckGo p s L = 12
  | [], _, _, _, _, _ => .inl rfl
  | c :: r, p, s, h1, h2, h3 => by
    by_cases e : 1000000000 < s + cv c
    · exact .inr (ckGo_full (h1 c (List.mem_cons_self ..)) (h3 c (List.mem_cons_self ..)) e)
    · rw [ckGo_on (h1 c (List.mem_cons_self ..)) (h3 c (List.mem_cons_self ..)) e]
      exact ckGo_only r _ _ (fun d hd => h1 d (List.mem_cons_of_mem _ hd)) h2.tail (fun d hd => h2.head d hd)
theorem ckCoins_only {L : List CoinD} (h1 : ∀ c ∈ L, ck1 c = 0) (h2 : Srt L) : ckCoins L = 0 ∨ ckCoins L = 12 ∨ ckCoins L = 2 := by
  unfold ckCoins
  split
  · exact .inr (.inr rfl)
  · rcases ckGo_only L none 0 h1 h2 (fun _ _ => rfl) with h | h
    · exact .inl h
    · exact .inr (.inl h)

end Go.Proofs.YtmomfkikogbdeaaGreatDoor

/- What is made of what waits is connected, where there is a name for it: mathematics. -/
namespace Go.Proofs.YtmomfkikogbdeaaGreatDoor
open Bk (Right nm nmGo nameR place)

/-- Transactions that the book knows, done one behind the other. -/
def Chn (K : List ByteArray) (h : Int) : List CoinD → List TxD → List CoinD → Prop
  | C, [], D => C = D
  | C, t :: l, D => ∃ C' s n, chkTx t = 0 ∧ t.2.1.length ≠ 0 ∧ nm K (txText t) = (K, n, 0) ∧ apD C t n h = (0, C', s) ∧ Chn K h C' l D
theorem Chn.nil {K : List ByteArray} {h : Int} (C : List CoinD) : Chn K h C [] C := rfl
theorem Chn.cons {K : List ByteArray} {h : Int} {C C' C1 s : List CoinD} {t : TxD} {l : List TxD} {n : Int} (h1 : chkTx t = 0) (h2 : t.2.1.length ≠ 0) (h3 : nm K (txText t) = (K, n, 0)) (h4 : apD C t n h = (0, C', s)) (h5 : Chn K h C' l C1) : Chn K h C (t :: l) C1 := ⟨C', s, n, h1, h2, h3, h4, h5⟩

theorem nameR_nm {K : List ByteArray} (hK : Right K) (s : ByteArray) : nameR K s = nm K s := by unfold Bk.nameR; rw [if_pos ((Bk.right_iff K).2 hK)]
theorem txT_text {t : TxD} (h : chkTx t = 0) : txT t = txText t := by unfold txT; rw [if_pos h]
theorem do_mk {h n : Int} {K : List ByteArray} {C C' s : List CoinD} {t : TxD} (hK : Right K) (h1 : chkTx t = 0) (h2 : t.2.1.length ≠ 0) (h3 : nm K (txText t) = (K, n, 0)) (h4 : apD C t n h = (0, C', s)) : doD h (K, C) t = (0, K, C') := by
  have h3' : nameR K (txT t) = (K, n, 0) := by rw [nameR_nm hK, txT_text h1, h3]
  unfold doD
  rw [if_neg (fun q => q h1), if_neg h2]
  simp only
  rw [h3']
  simp only
  rw [h4]
  simp

theorem sw_chain {h : Int} {K : List ByteArray} (hK : Right K) : ∀ (S : List TxD) (C C1 : List CoinD), swGo h S (K, C) = (S, K, C1) → Chn K h C S C1
  | [], C, C1, e => by
    rw [swGo] at e
    exact (Prod.mk.inj (Prod.mk.inj e).2).2
  | t :: l, C, C1, e => by
    rw [swGo] at e
    by_cases q : (doD h (K, C) t).1 = 0
    · rw [if_pos q] at e
      injection e with e1 e2
      injection e1 with _ e1
      have e3 : swGo h l (doD h (K, C) t).2 = (l, K, C1) := Prod.ext e1 e2
      obtain ⟨⟨x, K', C'⟩, hd⟩ : ∃ r, doD h (K, C) t = r := ⟨_, rfl⟩
      rw [hd] at q e3
      simp only at q e3
      subst q
      obtain ⟨d1, ⟨M, rfl⟩, _⟩ := do_facts hK hd
      obtain ⟨_, M2, s2⟩ := sw_right (h := h) l (K ++ M) C' d1
      rw [e3] at s2
      have hM : M = [] := by
        have s3 : K = K ++ M ++ M2 := s2
        have := congrArg List.length s3
        rw [List.length_append, List.length_append] at this
        exact List.length_eq_zero_iff.1 (by omega)
      subst hM
      rw [List.append_nil] at hd e3
      obtain ⟨p1, p2, n, s, p3, p4⟩ := do_parts hd
      rw [nameR_nm hK, txT_text p1] at p3
      exact .cons p1 p2 p3 p4 (sw_chain hK l C' C1 e3)
    · rw [if_neg q] at e
      have h1 := congrArg (fun r => r.1.length) e
      have h2 := swT_len h l (K, C)
      have h3 := congrArg List.length (swT_map h l (K, C))
      rw [List.length_map] at h3
      simp only [List.length_cons] at h1
      omega
theorem chn_take {h : Int} {K : List ByteArray} (hK : Right K) {C C1 : List CoinD} {S : List TxD} (hc : Chn K h C S C1) : ∀ k, Chn K h C (S.take k) (lastC C ((swT h S (K, C)).take k)) := by
  induction S generalizing C with
  | nil => intro k; rw [List.take_nil, swT, List.take_nil, lastC_nil]; exact .nil _
  | cons t l ih =>
    obtain ⟨C', s, n, h1, h2, h3, h4, h5⟩ := hc
    intro k
    cases k with
    | zero => rw [List.take_zero, List.take_zero, lastC_nil]; exact .nil _
    | succ k =>
      have hd := do_mk hK h1 h2 h3 h4
      rw [swT, hd, if_pos rfl, List.take_succ_cons, List.take_succ_cons, lastC_cons]
      exact .cons h1 h2 h3 h4 (ih h5 k)
theorem chn_known {h : Int} {K : List ByteArray} {C C1 : List CoinD} {S : List TxD} (hc : Chn K h C S C1) : ∀ t ∈ S, (nm K (txText t)).1 = K ∧ (nm K (txText t)).2.2 = 0 := by
  induction S generalizing C with
  | nil => intro t q; cases q
  | cons t l ih =>
    obtain ⟨_, _, _, _, _, h3, _, h5⟩ := hc
    intro x hx
    rcases List.mem_cons.1 hx with rfl | hx
    · rw [h3]; exact ⟨rfl, rfl⟩
    · exact ih h5 x hx

theorem nm_again {K M : List ByteArray} {s : ByteArray} (hK : Right K) (hM : Right (K ++ M)) (h : (nm K s).1 = K ∧ (nm K s).2.2 = 0) : nm (K ++ M) s = (K ++ M, (nm K s).2.1, 0) := by
  have e := nameR_nm hK s
  obtain ⟨_, _, n3⟩ := name_again (s := s) hK (by rw [e]; exact h.2)
  rw [e, h.1] at n3
  have := n3 M hM
  rwa [nameR_nm hM] at this
theorem nmGo_known {K M : List ByteArray} (hK : Right K) (hM : Right (K ++ M)) : ∀ (R : List TxD) (acc : List Int) (rest : List ByteArray), (∀ t ∈ R, (nm K (txText t)).1 = K ∧ (nm K (txText t)).2.2 = 0) →
    nmGo (K ++ M) acc (R.map txText ++ rest) = nmGo (K ++ M) (acc ++ R.map (fun t => (nm K (txText t)).2.1)) rest
  | [], acc, rest, _ => by simp
  | t :: R, acc, rest, h => by
    have h1 := nm_again hK hM (h t (by simp))
    rw [List.map_cons, List.cons_append, Bk.nmGo, h1, if_pos rfl, nmGo_known hK hM R _ rest (fun x hx => h x (by simp [hx])), List.append_assoc]
    rfl
theorem nm_bounds {K : List ByteArray} {s : ByteArray} (hK : Right K) (h : (nm K s).2.2 = 0) : 1 ≤ (nm K s).2.1 ∧ (nm K s).2.1 ≤ 120 := by
  have h1 := Bk.nm_right hK h
  obtain ⟨p1, p2, _⟩ := Bk.nm_place h
  have h2 := Bk.place_le s (nm K s).1
  have h3 : (nm K s).1.length ≤ 120 := h1.1
  rw [p1]
  omega
theorem made_names {K : List ByteArray} (hK : Right K) {b : BlkD} {t0 : TxD} {R : List TxD} (hT : b.2.2.2.2 = t0 :: R) (hR : ∀ t ∈ R, (nm K (txText t)).1 = K ∧ (nm K (txText t)).2.2 = 0) (hz : (nmsB K b).2.2.2 = 0) :
    ∃ n0, 1 ≤ n0 ∧ n0 ≤ 120 ∧ (nmsB K b).2.2.1 = n0 :: R.map (fun t => (nm K (txText t)).2.1) := by
  unfold nmsB at hz ⊢
  split at hz
  · rename_i q; exact absurd hz q
  rename_i q1
  rw [if_neg q1]
  split at hz
  · rename_i q; exact absurd hz q
  rename_i q2
  rw [if_neg q2]
  have q3 := Decidable.not_not.1 q2
  unfold Bk.allR txtsOf at q3 ⊢
  rw [if_pos ((Bk.right_iff K).2 hK), hT, List.map_cons, List.cons_append, Bk.nmGo] at q3
  rw [if_pos ((Bk.right_iff K).2 hK), hT, List.map_cons, List.cons_append, Bk.nmGo]
  by_cases h0 : (nm K (txText t0)).2.2 = 0
  · rw [if_pos h0] at q3 ⊢
    have hr := Bk.nm_right hK h0
    obtain ⟨M, hM⟩ := Bk.nm_grows h0
    obtain ⟨n0, hn0⟩ : ∃ n0, (nm K (txText t0)).2.1 = n0 := ⟨_, rfl⟩
    have hb := nm_bounds hK h0
    rw [hn0] at hb
    rw [hM] at hr
    rw [hM, hn0, nmGo_known hK hr R _ _ hR] at q3 ⊢
    refine ⟨n0, hb.1, hb.2, ?_⟩
    simp only [Bk.nmGo] at q3 ⊢
    split at q3
    · rename_i q
      rw [if_pos q]
      simp
    · rename_i q
      exact absurd q3 q
  · rw [if_neg h0] at q3
    exact absurd q3 h0

/-- A reward is done, or there is no room for it. -/
theorem pay_done {C : List CoinD} {h n v : Int} {lk : List (Int × Int)} (hC : RightC C) (h1 : chkTx (payD h v lk) = 0) (hn1 : 1 ≤ n) (hn2 : n ≤ 120) (hh1 : 1 ≤ h) (hh2 : h ≤ 1000) :
    (apD C (payD h v lk) n h).1 = 0 ∨ (apD C (payD h v lk) n h).1 = 12 ∨ (apD C (payD h v lk) n h).1 = 6 ∨ (apD C (payD h v lk) n h).1 = 2 := by
  have hr : isR (payD h v lk) = true := rfl
  have c1 : ckApply C (payD h v lk) n h = 0 := by
    unfold ckApply
    have cb : ckBoth C (payD h v lk) = 0 := by unfold ckBoth; rw [if_neg (fun q => q ((ckCoins_zero C).2 hC)), h1]
    rw [if_neg (fun q => q cb), if_neg (by simp [okN, okH, hn1, hn2, hh1, hh2]), if_neg (by rintro ⟨_, q⟩; exact q rfl)]
  have c2 : spendGo h (payD h v lk).2.1 [] C = (0, [], C) := rfl
  have c3 : covD [] (payD h v lk) = 0 := by unfold covD; rw [if_neg (by rw [hr]; simp)]
  unfold apD
  rw [if_neg (fun q => q c1), c2, if_neg (fun q => q rfl), if_neg (fun q => q c3)]
  by_cases hp : hasP (n, ((0 : Nat) : Int)) C = true
  · have e : giveGo n h (isR (payD h v lk)) 0 (payD h v lk).2.2 C = (6, []) := by
      show giveGo n h true 0 [(v, lk)] C = _
      rw [giveGo, if_pos hp]
    rw [e, if_pos (by decide)]
    exact .inr (.inr (.inl rfl))
  · have e : giveGo n h (isR (payD h v lk)) 0 (payD h v lk).2.2 C = (0, putC (newC n 0 (v, lk) h true) C) := by
      show giveGo n h true 0 [(v, lk)] C = _
      rw [giveGo, if_neg hp]; rfl
    rw [e, if_neg (fun q => q rfl)]
    have ho := (chkTx_zero h1).2.2.2.2.2.1
    have hv1 := chkOuts_pos _ ho (v, lk) (by simp [payD])
    have hv2 := (outs_bd h1 (v, lk) (by simp [payD])).2
    have hlk : chk lk = 0 := by
      have ho' : chkOuts [(v, lk)] = 0 := ho
      rw [chkOuts] at ho'
      split at ho'
      · rename_i q; unfold chkOut1 at q; rw [if_neg (by simp only at hv1 ⊢; omega)] at q; exact q
      · rename_i q; exact absurd ho' q
    simp only at hv1 hv2
    have hp' : hasP (pt (newC n 0 (v, lk) h true)) C = false := by simpa [newC, pt] using hp
    have h6 : ∀ c ∈ putC (newC n 0 (v, lk) h true) C, ck1 c = 0 := fun c hc => by
      rcases (mem_putC hp').1 hc with rfl | hc
      · unfold ck1
        rw [if_neg, show ck (newC n 0 (v, lk) h true) = lk from rfl, hlk]
        simp [okC, okPt, okV, okH, newC, pt, cv, ch, hn1, hn2, hv1, hv2, hh1, hh2]
      · exact hC.one c hc
    rcases ckCoins_only h6 (putC_srt hC.srt) with q | q | q
    · rw [if_neg (fun r => r q)]; exact .inl rfl
    · rw [if_pos (by rw [q]; decide), q]; exact .inr (.inl rfl)
    · rw [if_pos (by rw [q]; decide), q]; exact .inr (.inr (.inr rfl))

theorem con_last {h r : Int} {T : List TxD} {N : List Int} {C : List CoinD} {S : List (List CoinD)} {k : Nat} {t0 : TxD} {n0 : Int} (hi : (k + 1) % T.length = 0) (ht : T.getD 0 zeroT = t0) (hn : N.getD 0 0 = n0) (hl : ¬ leftD r T S T.length < 0)
    (hp : (apD C t0 n0 h).1 = 0 ∨ (apD C t0 n0 h).1 = 12 ∨ (apD C t0 n0 h).1 = 6 ∨ (apD C t0 n0 h).1 = 2) (hs : S.length = T.length) :
    ((conGo h r T N 1 k C S).1 = 0 ∧ (conGo h r T N 1 k C S).2.2.length = T.length) ∨ (conGo h r T N 1 k C S).1 = 12 ∨ (conGo h r T N 1 k C S).1 = 6 ∨ (conGo h r T N 1 k C S).1 = 2 := by
  obtain ⟨⟨y, M, s⟩, ha⟩ : ∃ r, apD C t0 n0 h = r := ⟨_, rfl⟩
  rw [ha] at hp
  simp only at hp
  rw [conGo_at (q := 0) hi ht hn ha, if_neg (fun q => hl q.2)]
  by_cases q : y = 0
  · rw [if_neg (fun r => r q)]
    exact .inl ⟨rfl, by simp [conGo, hs]⟩
  · rw [if_pos q]
    rcases hp with p | p
    · exact absurd p q
    · exact .inr p
theorem con_made {K : List ByteArray} {h r F n0 : Int} {lk : List (Int × Int)} {R : List TxD} {C C3 : List CoinD} {N : List Int} (hc : Chn K h C R C3) (h3 : R.length ≤ 3) (hF : F = sumC C - sumC C3) (hN : N = n0 :: R.map (fun t => (nm K (txText t)).2.1))
    (hp : ∀ C', RightC C' → (apD C' (payD h (r + F) lk) n0 h).1 = 0 ∨ (apD C' (payD h (r + F) lk) n0 h).1 = 12 ∨ (apD C' (payD h (r + F) lk) n0 h).1 = 6 ∨ (apD C' (payD h (r + F) lk) n0 h).1 = 2) (hC : RightC C) :
    let T := payD h (r + F) lk :: R
    ((conGo h r T N T.length 0 C (List.replicate T.length [])).1 = 0 ∧ (conGo h r T N T.length 0 C (List.replicate T.length [])).2.2.length = T.length) ∨ (conGo h r T N T.length 0 C (List.replicate T.length [])).1 = 12 ∨ (conGo h r T N T.length 0 C (List.replicate T.length [])).1 = 6 ∨ (conGo h r T N T.length 0 C (List.replicate T.length [])).1 = 2 := by
  intro T
  subst hN hF
  cases R with
  | nil =>
    obtain rfl : C = C3 := hc
    refine con_last (t0 := payD h (r + (sumC C - sumC C)) lk) (n0 := n0) (by simp [T]) rfl rfl ?_ (hp C hC) rfl
    simp [T, leftD, payD, sumO, sumC]
  | cons t1 l =>
    obtain ⟨C1, s1, n1, a1, a2, a3, a4, a5⟩ := hc
    have u1 := ap_sum a4
    have w1 := (ap_right a4).2.1
    cases l with
    | nil =>
      obtain rfl : C3 = C1 := Eq.symm a5
      have e1 : conGo h r T (n0 :: [t1].map (fun t => (nm K (txText t)).2.1)) T.length 0 C (List.replicate T.length []) = conGo h r T (n0 :: [t1].map (fun t => (nm K (txText t)).2.1)) 1 1 C3 [[], s1] := by
        show conGo h r T _ (1 + 1) 0 C [[], []] = _
        rw [conGo_at (i := 1) rfl (t := t1) rfl (nm := n1) (by simp [a3]) a4, if_neg (by simp), if_neg (by simp)]
        rfl
      rw [e1]
      refine con_last (t0 := payD h (r + (sumC C - sumC C3)) lk) (n0 := n0) (by simp [T]) rfl rfl ?_ (hp C3 w1) rfl
      simp only [T, leftD, payD, List.length_cons, List.length_nil, List.take_succ_cons, List.take_zero, List.map_cons, List.map_nil, List.flatten_cons, List.flatten_nil, List.append_nil, List.nil_append, sumO_append]
      simp [sumO] at u1 ⊢
      omega
    | cons t2 l2 =>
      obtain ⟨C2, s2, n2, b1, b2, b3, b4, b5⟩ := a5
      have u2 := ap_sum b4
      have w2 := (ap_right b4).2.1
      cases l2 with
      | nil =>
        obtain rfl : C3 = C2 := Eq.symm b5
        have e1 : conGo h r T (n0 :: [t1, t2].map (fun t => (nm K (txText t)).2.1)) T.length 0 C (List.replicate T.length []) = conGo h r T (n0 :: [t1, t2].map (fun t => (nm K (txText t)).2.1)) 1 2 C3 [[], s1, s2] := by
          show conGo h r T _ (2 + 1) 0 C [[], [], []] = _
          rw [conGo_at (i := 1) rfl (t := t1) rfl (nm := n1) (by simp [a3]) a4, if_neg (by simp), if_neg (by simp)]
          show conGo h r T _ (1 + 1) 1 C1 [[], s1, []] = _
          rw [conGo_at (i := 2) rfl (t := t2) rfl (nm := n2) (by simp [b3]) b4, if_neg (by simp), if_neg (by simp)]
          rfl
        rw [e1]
        refine con_last (t0 := payD h (r + (sumC C - sumC C3)) lk) (n0 := n0) (by simp [T]) rfl rfl ?_ (hp C3 w2) rfl
        simp only [T, leftD, payD, List.length_cons, List.length_nil, List.take_succ_cons, List.take_zero, List.map_cons, List.map_nil, List.flatten_cons, List.flatten_nil, List.append_nil, List.nil_append, sumO_append, sumC_append]
        simp [sumO] at u1 u2 ⊢
        omega
      | cons t3 l3 =>
        obtain ⟨C4, s3, n3, c1, c2, c3, c4, c5⟩ := b5
        have u3 := ap_sum c4
        have w3 := (ap_right c4).2.1
        cases l3 with
        | nil =>
          obtain rfl : C3 = C4 := Eq.symm c5
          have e1 : conGo h r T (n0 :: [t1, t2, t3].map (fun t => (nm K (txText t)).2.1)) T.length 0 C (List.replicate T.length []) = conGo h r T (n0 :: [t1, t2, t3].map (fun t => (nm K (txText t)).2.1)) 1 3 C3 [[], s1, s2, s3] := by
            show conGo h r T _ (3 + 1) 0 C [[], [], [], []] = _
            rw [conGo_at (i := 1) rfl (t := t1) rfl (nm := n1) (by simp [a3]) a4, if_neg (by simp), if_neg (by simp)]
            show conGo h r T _ (2 + 1) 1 C1 [[], s1, [], []] = _
            rw [conGo_at (i := 2) rfl (t := t2) rfl (nm := n2) (by simp [b3]) b4, if_neg (by simp), if_neg (by simp)]
            show conGo h r T _ (1 + 1) 2 C2 [[], s1, s2, []] = _
            rw [conGo_at (i := 3) rfl (t := t3) rfl (nm := n3) (by simp [c3]) c4, if_neg (by simp), if_neg (by simp)]
            rfl
          rw [e1]
          refine con_last (t0 := payD h (r + (sumC C - sumC C3)) lk) (n0 := n0) (by simp [T]) rfl rfl ?_ (hp C3 w3) rfl
          simp only [T, leftD, payD, List.length_cons, List.length_nil, List.take_succ_cons, List.take_zero, List.map_cons, List.map_nil, List.flatten_cons, List.flatten_nil, List.append_nil, List.nil_append, sumO_append, sumC_append]
          simp [sumO] at u1 u2 u3 ⊢
          omega
        | cons _ _ => simp at h3

/-- The law PoolConnects, its last part. -/
theorem made_connects {K : List ByteArray} {C C1 : List CoinD} {S : List TxD} {h : Int} {lk : List (Int × Int)} {bb : BlkD} (hK : Right K) (hC : RightC C) (h1 : 1 ≤ h) (h2 : h ≤ 1000) (e : swGo h S (K, C) = (S, K, C1)) (hm : mkE K C S 0 h 1 0 lk = (0, bb)) :
    ((nmsB K bb).2.2.2 ≠ 0 → (conD K C bb).1 = (nmsB K bb).2.2.2) ∧
    ((nmsB K bb).2.2.2 = 0 → ((conD K C bb).1 = 0 ∧ (conD K C bb).2.2.length = bb.2.2.2.2.length) ∨ (conD K C bb).1 = 12 ∨ (conD K C bb).1 = 6 ∨ (conD K C bb).1 = 2) := by
  have hnf : nfD K C bb = ((nmsB K bb).2.2.1, (nmsB K bb).2.2.2) := by unfold nfD; rw [if_neg (fun q => q ((ckCoins_zero C).2 hC))]
  refine ⟨fun z => ?_, fun z => ?_⟩
  · unfold conD; rw [hnf]; simp only; rw [if_pos z]
  unfold mkE at hm
  split at hm
  · rename_i q; injection hm with hm _; exact absurd hm q
  split at hm
  · injection hm with hm _; exact absurd hm (by decide)
  split at hm
  · rename_i q; injection hm with hm _; exact absurd hm q
  rename_i q1 q2 q3
  injection hm with _ hm
  rw [e] at hm q3
  simp only at hm q3
  obtain ⟨F, hF⟩ : ∃ F, feeD h S K C = F := ⟨_, rfl⟩
  obtain ⟨r, hr⟩ : ∃ r, (rwD h).1 = r := ⟨_, rfl⟩
  rw [hF, hr] at hm q3
  have hch := chn_take hK (sw_chain hK S C C1 e) 3
  have hb0 : chkTx (payD h (r + F) lk) = 0 := by
    have hcb := Decidable.not_not.1 q3
    exact (chkB_zero hcb).2.2.2.2 _ (by simp)
  obtain ⟨n0, b1, b2, hN⟩ := made_names (b := bb) (t0 := payD h (r + F) lk) (R := S.take 3) hK (by rw [← hm]) (chn_known hch) z
  have key := con_made (K := K) (h := h) (r := r) (F := F) (n0 := n0) (lk := lk) (R := S.take 3) (C := C) (N := (nmsB K bb).2.2.1) hch (by rw [List.length_take]; omega) (by rw [← hF]; rfl) hN (fun C' hC' => pay_done hC' hb0 b1 b2 h1 h2) hC
  unfold conD
  rw [hnf]
  simp only
  rw [if_neg (fun q => q z)]
  subst hm
  simp only [hr]
  exact key

end Go.Proofs.YtmomfkikogbdeaaGreatDoor
