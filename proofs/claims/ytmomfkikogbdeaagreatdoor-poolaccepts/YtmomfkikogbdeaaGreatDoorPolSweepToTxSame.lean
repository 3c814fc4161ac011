/- The contract of Sweep. -/
import Derived.Test.YtmomfkikogbdeaaGreatDoorPolKeepW
import Derived.Test.YtmomfkikogbdeaaGreatDoorTxCheckBToTxCheckD
namespace Go.Proofs.YtmomfkikogbdeaaGreatDoor
open Go.RowKit

/-- The boxes that may turn. -/
def D0 (lo hi : Nat) : Nat → Prop := fun q => (lo ≤ q ∧ q < hi) ∨ (Value.slice none 0 0).ownBlock = some q
theorem D0.ge {lo hi q : Nat} (h : D0 lo hi q) : lo ≤ q ∧ q < hi := by
  rcases h with h | h
  · exact h
  · cases h
def DV (lo hi : Nat) (v : Value) : Nat → Prop := fun q => (lo ≤ q ∧ q < hi) ∨ v.ownBlock = some q
theorem DV.dirty {lo hi b p : Nat} {w : World} {v : Value} {K : List (List Value)} {L : List TxD} {N0 : Nat} (h : St b p w v K L) (hh : hi ≤ N0) (hp : N0 ≤ p) (q : Nat) (hq : DV lo hi v q) : q ≠ p ∧ q < w.heap.size ∧ (D0 lo hi q ∨ N0 ≤ q) := by
  have := h.pl
  rcases hq with e | e
  · exact ⟨by omega, by omega, .inl (.inl e)⟩
  · have := h.own.lt q e
    exact ⟨by omega, this.2, .inr (by omega)⟩

def SwI (b b2 lo hi N0 : Nat) (C0 : List CoinD) (p : Nat) (D : Nat → Prop) (w : World) (X : List (TxD × List CoinD)) : Prop :=
  ∃ va vc K, St b p w (.slice va (X.map (·.1)).length vc) K (X.map (·.1)) ∧ FeI w b2 (sumC C0 - sumC (lastC C0 X)) ∧ N0 ≤ p ∧ D = DV lo hi (.slice va (X.map (·.1)).length vc) ∧ 0 ≤ sumC C0 - sumC (lastC C0 X) ∧ (X = [] ∨ (sumC C0 ≤ 1000000000 ∧ RightC (lastC C0 X)))

theorem sum_nn {C : List CoinD} (h : RightC C) : 0 ≤ sumC C := sumC_nonneg C (fun c hc => by have := ck1_zero (h.one c hc); omega)

theorem keepSw (b b2 lo hi : Nat) (w0 : World) (C0 : List CoinD) (hb : w0.heap[b]? = some (.cells #[.slice none 0 0] 37 (0, 0))) (hb2 : FeI w0 b2 0) (h1 : lo ≤ b ∧ b < hi) (h2 : lo ≤ b2 ∧ b2 < hi) (hne : b ≠ b2) (hhi : hi ≤ w0.heap.size) :
    Keep 79 #[.pointer (some ⟨b, 0, none⟩), .pointer (some ⟨b2, 0, none⟩)] w0 C0 (D0 lo hi) (SwI b b2 lo hi w0.heap.size C0) where
  enters := enters_of (fn := Tryz.f79) (by kernel_rfl) (by kernel_rfl) rfl
  start p w hw hp pl := ⟨none, 0, [], St.start ((hw.block b (by omega)).trans hb) (by omega) pl, by
    have : sumC C0 - sumC (lastC C0 []) = 0 := by rw [lastC_nil]; omega
    unfold FeI; rw [this]; exact (hw.block b2 (by omega)).trans hb2, hp, rfl, by rw [lastC_nil]; omega, .inl rfl⟩
  dirty p D w X := by
    rintro ⟨va, vc, K, h, _, hp, rfl, _⟩ q hq
    exact DV.dirty h hhi hp q hq
  on p D w w' X := by
    rintro ⟨va, vc, K, h, hf, hp, hD, r⟩ g
    exact ⟨va, vc, K, h.on g (fun q e => by subst e; exact ⟨Nat.le_refl _, by omega⟩), (g.block b2 (lt_of_block hf) (fun e => by have e : b2 = p := e; omega)).trans hf, hp, hD, r⟩
  call p D wA w X t C' u0 u1 u2 := by
    rintro ⟨va, vc, K, h, hf, hp, rfl, h0, hr⟩ hbw hF r1 r2 r3 hl
    have hs : sumC C0 ≤ 1000000000 := by
      rcases hr with rfl | hr
      · rw [lastC_nil] at r1; exact r1.sum
      · exact hr.1
    have n1 := sum_nn r1
    have n2 := sum_nn r2
    have n3 := r1.sum
    refine (sweep1_is b b2 p va vc K (X.map (·.1)) _ u0 u1 u2 t wA w h _ hf hne (by omega) h0 (by omega) (by omega) (by omega) hbw hF (by rw [List.length_map]; exact hl)).mono ?_
    rintro e w' ⟨rfl, ⟨v', K', hS, hf'⟩, hg⟩
    obtain ⟨a, c, rfl, _, _⟩ := hS.txs
    have e1 : (X ++ [(t, C')]).map (·.1) = X.map (·.1) ++ [t] := by simp
    refine ⟨rfl, hg.mono (fun q _ e => ?_), DV lo hi (.slice a ((X ++ [(t, C')]).map (·.1)).length c), a, c, K', ?_, ?_, hp, rfl, ?_, .inr ⟨hs, ?_⟩⟩
    · rcases e with (e | e) | e
      · subst e; exact .inl h1
      · subst e; exact .inl h2
      · exact .inr e
    · rw [e1]; exact hS
    · rw [lastC_snoc]
      have : sumC C0 - sumC (lastC C0 X) + (sumC (lastC C0 X) - sumC C') = sumC C0 - sumC C' := by omega
      rw [← this]; exact hf'
    · rw [lastC_snoc]; omega
    · rw [lastC_snoc]; exact r2

theorem St.reads {b p : Nat} {w w2 : World} {va : Option Addr} {vc : Nat} {K : List (List Value)} {L : List TxD} {S : Nat → Prop} (h : St b p w (.slice va L.length vc) K L) (g : Gr w w2 S) (hS : ∀ q, S q → q ≤ p) : TxsAt w2 va L.length L ∧ SlOk va L.length vc := by
  have o := g.own h.own (fun k hk e => by have := (h.own.lt k hk).1; have := hS k e; omega)
  obtain ⟨a, c, e, h1, h2⟩ := Tr.rows_of_own Tr.txR o (h.kept w2 (g.mono (fun q _ e => .inl (hS q e)))) rfl
  injection e with e1 _ e3
  subst e1 e3
  exact ⟨h1, h2⟩
/-- What Sweep answers. -/
def SweepR (w w' : World) (x : Int) (K : List ByteArray) (L : List TxD) (C : List CoinD) (f : Int) (e : Ending) : Prop :=
  ∃ ka kn kc sa sn sc ca cn cc, e = .returned (.tuple #[.agg #[.slice ka kn kc], .slice sa sn sc, .slice ca cn cc, .int .i64 f, .int .i64 x]) ∧
    Fresh w.heap.size w' (fun w2 => Bk.TextsAt w2 ka kn K ∧ TxsAt w2 sa sn L ∧ CoinsAt w2 ca cn C) ∧ SlOk ka kn kc ∧ SlOk sa sn sc ∧ SlOk ca cn cc ∧ Below w.heap.size w w'
def swF (K : List ByteArray) (C : List CoinD) (l : List TxD) (h x : Int) : List ByteArray × List TxD × List CoinD × Int :=
  if x = 0 then ((swGo h l (K, C)).2.1, (swGo h l (K, C)).1, (swGo h l (K, C)).2.2, sumC C - sumC (swGo h l (K, C)).2.2) else ([], [], [], 0)

/-! Blocks laid one behind the other. -/
def allocs (w : World) : List Obj → World
  | [] => w
  | o :: r => allocs (w.alloc o) r
theorem allocs_size : ∀ (os : List Obj) (w : World), (allocs w os).heap.size = w.heap.size + os.length
  | [], _ => rfl
  | o :: r, w => by rw [allocs, allocs_size r, List.length_cons]; simp; omega
theorem allocs_bel : ∀ (os : List Obj) (w : World), Below w.heap.size w (allocs w os)
  | [], _ => Below.refl _ _
  | o :: r, w => bel_on (bel_new w o) (allocs_bel r (w.alloc o))
theorem allocs_at : ∀ (os : List Obj) (w : World) (i : Nat) (o : Obj), os[i]? = some o → (allocs w os).heap[w.heap.size + i]? = some o
  | [], _, _, _, h => by simp at h
  | o :: r, w, 0, x, h => by
    simp at h; subst h
    have h1 : (w.alloc o).heap[w.heap.size]? = some o := heap_alloc_new w o
    exact ((allocs_bel r (w.alloc o)).block _ (lt_of_block h1)).trans h1
  | o :: r, w, i + 1, x, h => by
    have := allocs_at r (w.alloc o) i x (by simpa using h)
    rw [show (w.alloc o).heap.size + i = w.heap.size + (i + 1) by simp; omega] at this
    exact this

theorem results_cctct {fn : Func} {p q u v z : Tmp} {ty ty2 ty3 : TypeId} (h : fn.results = #[.cell p ty, .cell q ty2, .tmp u, .cell v ty3, .tmp z]) (tmps : Array Value) (P : Program) (w : World) :
    (results fn tmps).run P w =
      ((asAddr (tmps.getD p undef)).run P w).andThen fun a w₁ => ((loadVar ty a).run P w₁).andThen fun x w₂ => ((asAddr (tmps.getD q undef)).run P w₂).andThen fun a2 w₃ => ((loadVar ty2 a2).run P w₃).andThen fun y w₄ => ((asAddr (tmps.getD v undef)).run P w₄).andThen fun a3 w₅ => ((loadVar ty3 a3).run P w₅).andThen fun z3 w₆ => .ok (.tuple #[x, y, tmps.getD u undef, z3, tmps.getD z undef]) w₆ := by
  simp only [results, h]
  simp [Sem.run_bind, Result.andThen]

set_option maxRecDepth 10000 in
set_option maxHeartbeats 6400000 in
theorem pSweep_is (ka : Option Addr) (kn kc : Nat) (K : List ByteArray) (la : Option Addr) (ln lc : Nat) (C : List CoinD) (a : Option Addr) (m c : Nat) (L : List TxD) (h x : Int) (K' : List ByteArray) (L' : List TxD) (C' : List CoinD) (f : Int) (w : World)
    (hE : Env w) (hK : Bk.TextsAt w ka kn K) (hC : CoinsAt w la ln C) (sC : SlOk la ln lc) (hL : TxsAt w a m L) (hx : swE K C L h = x) (hr : swF K C L h x = (K', L', C', f)) :
    Calls Tryz.prog 23 #[.agg #[.slice ka kn kc], .slice la ln lc, .slice a m c, .int .i64 h] w fun e w' => SweepR w w' x K' L' C' f e := by
  obtain ⟨X, hX⟩ : ∃ X, X = allocs w [.cells #[.slice ka kn kc] 24, .cells #[.slice none 0 0] 24, .cells #[.slice none 0 0] 37, .cells #[.int .i64 0] 3] := ⟨_, rfl⟩
  have hbX : Below w.heap.size w X := by rw [hX]; exact allocs_bel _ _
  have hXs : X.heap.size = w.heap.size + 4 := by rw [hX]; exact allocs_size _ _
  have x0 : X.heap[w.heap.size]? = some (.cells #[.slice ka kn kc] 24 (0, 0)) := by rw [hX]; exact allocs_at _ w 0 _ rfl
  have x1 : X.heap[w.heap.size + 1]? = some (.cells #[.slice none 0 0] 24 (0, 0)) := by rw [hX]; exact allocs_at _ w 1 _ rfl
  have x2 : X.heap[w.heap.size + 2]? = some (.cells #[.slice none 0 0] 37 (0, 0)) := by rw [hX]; exact allocs_at _ w 2 _ rfl
  have x3 : X.heap[w.heap.size + 3]? = some (.cells #[.int .i64 0] 3 (0, 0)) := by rw [hX]; exact allocs_at _ w 3 _ rfl
  have hX' : X = (((w.alloc (.cells #[.slice ka kn kc] 24)).alloc (.cells #[.slice none 0 0] 24)).alloc (.cells #[.slice none 0 0] 37)).alloc (.cells #[.int .i64 0] 3) := hX
  have hKp := keepSw (w.heap.size + 2) (w.heap.size + 3) (w.heap.size + 2) (w.heap.size + 4) X C x2 x3 (by omega) (by omega) (by omega) (by omega)
  have hin : ∀ V, Gr X V (D0 (w.heap.size + 2) (w.heap.size + 4)) → Below w.heap.size w V := fun V g => g.below hbX hbX.size (fun q e => by have := e.ge; omega)
  have C1 := hide (psweep_is _ _ _ _ ka kn kc K la ln lc C a m c L h x X hKp w hin hE hK hC sC hL hx)
  have HBX := hide hbX
  have HXs := hide hXs
  have HR := hide hr
  have HIN := hide hin
  have HX1 := hide x1
  have HX2 := hide x2
  have HX3 := hide x3
  have t0 := cell_of (X := [.slice ka kn kc]) x0 0 _ rfl
  have tl := lt_of_block x0
  clear hE hK hC sC hL hx hr hbX hXs x0 x1 x2 x3 hX hKp hin
  go_enter Tryz.func23, Tryz.ntmps23
  go_wp2_with fail
  rw [← hX']
  clear hX'
  (try go_wp2_with fail)
  refine (unhide C1).mono ?_
  rintro e w1 hres
  rcases hres with ⟨h0, rfl, hb1⟩ | ⟨h0, p, D, rfl, hp, hg1, hd, hI⟩
  · have gx : (x != 0) = true := by simp [h0]
    have y1 := (hb1.block _ (lt_of_block (unhide HX1))).trans (unhide HX1)
    have y2 := (hb1.block _ (lt_of_block (unhide HX2))).trans (unhide HX2)
    have y3 := (hb1.block _ (lt_of_block (unhide HX3))).trans (unhide HX3)
    have y10 := cell_of (X := [.slice none 0 0]) y1 0 _ rfl
    have y20 := cell_of (X := [.slice none 0 0]) y2 0 _ rfl
    have y30 := cell_of (X := [.int .i64 0]) y3 0 _ rfl
    have y1f := frozen_of y1 0
    have y2f := frozen_of y2 0
    have y3f := frozen_of y3 0
    have y1l := lt_of_block y1
    have y2l := lt_of_block y2
    have y3l := lt_of_block y3
    have HRE : Hid (K' = [] ∧ L' = [] ∧ C' = [] ∧ f = 0) := by
      have := unhide HR
      unfold swF at this
      rw [if_neg h0] at this
      simp only [Prod.mk.injEq] at this
      exact ⟨this.1.symm, this.2.1.symm, this.2.2.1.symm, this.2.2.2.symm⟩
    have HB := hide (bel_on (unhide HBX) hb1)
    clear hb1 y1 y2 y3 C1 HR
    go_wp2
    (try simp only [Exit.inBlock, Exit.then])
    refine bodyPost_ret (v := .tuple #[.agg #[.slice none 0 0], .slice none 0 0, .slice none 0 0, .int .i64 0, .int .i64 x]) ?_ rfl ?_
    · rw [results_cctct rfl]
      go_simp
    · obtain ⟨rfl, rfl, rfl, rfl⟩ := unhide HRE
      exact ⟨_, _, _, _, _, _, _, _, _, rfl, fun _ _ => ⟨Bk.TextsAt.nil _ _, RowsAt.nil _ _, RowsAt.nil _ _⟩, slok_nil, slok_nil, slok_nil, ((((unhide HB).setCell (p := ⟨w.heap.size + 1, 0, none⟩) (by simp) _).setCell (p := ⟨w.heap.size + 2, 0, none⟩) (by simp) _).setCell (p := ⟨w.heap.size + 3, 0, none⟩) (by simp) _)⟩
  · obtain ⟨va, vc, Kl, hS, hf, _, _, _, _⟩ := hI
    obtain ⟨ka', kn', kc', la', ln', lc', hpb, hFr, sK', sC'⟩ := hd
    have y1 := (hg1.block _ (lt_of_block (unhide HX1)) (fun e => by have := e.ge; omega)).trans (unhide HX1)
    have y10 := cell_of (X := [.slice none 0 0]) y1 0 _ rfl
    have y20 := cell_of (X := [_]) hS.box 0 _ rfl
    have y30 := cell_of (X := [_]) hf 0 _ rfl
    have p0 := cell_of hpb 0 _ rfl
    have p1 := cell_of hpb 1 _ rfl
    have pl := lt_of_block hpb
    have y1f := frozen_of y1 0
    have y2f := frozen_of hS.box 0
    have y3f := frozen_of hf 0
    have y1l := lt_of_block y1
    have y2l := lt_of_block hS.box
    have y3l := lt_of_block hf
    subst h0
    have hRE : swGo h L (K, C) = (L', K', C') ∧ f = sumC C - sumC C' := by
      have := unhide HR
      unfold swF at this
      rw [if_pos rfl] at this
      simp only [Prod.mk.injEq] at this
      obtain ⟨r1, r2, r3, r4⟩ := this
      exact ⟨Prod.ext r2 (Prod.ext r1 r3), by rw [← r4, r3]⟩
    obtain ⟨hsw, hfe⟩ := hRE
    have e1 : (swT h L (K, C)).map (·.1) = L' := by rw [swT_map, hsw]
    have e2 : lastC C (swT h L (K, C)) = C' := by have := swT_last h L (K, C); rw [hsw] at this; exact this
    rw [hsw] at hFr
    rw [e1] at hS y20
    rw [e2, ← hfe] at hf y30
    obtain ⟨n, hn⟩ : ∃ n, L'.length = n := ⟨_, rfl⟩
    have FIN : Hid (∀ W, Gr w1 W (fun q => w.heap.size + 1 ≤ q ∧ q < w.heap.size + 4) → SweepR w W 0 K' L' C' f (.returned (.tuple #[.agg #[.slice ka' kn' kc'], .slice va n vc, .slice la' ln' lc', .int .i64 f, .int .i64 0]))) := fun W g => by
      have hxs := unhide HXs
      have hb1 := (unhide HIN) w1 hg1
      have hsz := hg1.size
      subst hn
      refine ⟨ka', kn', kc', va, L'.length, vc, la', ln', lc', rfl, fun W2 g2 => ?_, sK', (hS.reads (Gr.refl w1 (fun _ => False)) (fun _ q => q.elim)).2, sC', g.below hb1 hb1.size (fun q e => by omega)⟩
      have r1 := hFr W2 ((g.mono (fun q _ e => by omega)).trans (g2.mono (fun q _ e => by omega)))
      have r2 := (hS.reads ((g.mono (T := fun q => q < w.heap.size + 4) (fun q _ e => e.2)).trans (g2.mono (fun q _ e => by omega))) (fun q e => by omega)).1
      exact ⟨r1.1, r2, r1.2⟩
    rw [hn] at y20
    clear hS hf hFr hpb hg1 hsw hfe e1 e2 y1 HR C1 sK' sC' HX1 HX2 HX3 hn
    go_wp2_with fail
    go_region
    go_wp2
    (try simp only [Exit.inBlock, Exit.then])
    refine bodyPost_ret (v := .tuple #[.agg #[.slice ka' kn' kc'], .slice va n vc, .slice la' ln' lc', .int .i64 f, .int .i64 0]) ?_ rfl ?_
    · rw [results_cctct rfl]
      go_simp
    · exact (unhide FIN) _ ((((Gr.refl w1 (fun q => w.heap.size + 1 ≤ q ∧ q < w.heap.size + 4)).one (w.heap.size + 1) 0 (.inl (by omega)) _).one (w.heap.size + 1 + 1) 0 (.inl (by omega)) _).one (w.heap.size + 1 + 1 + 1) 0 (.inl (by omega)) _).draw

end Go.Proofs.YtmomfkikogbdeaaGreatDoor

/- Contracts of what holds orders, ins, outs and transactions against each other, whatever they are. -/
namespace Go.Proofs.YtmomfkikogbdeaaGreatDoor
open Go.RowKit

theorem below_dw (w : World) (n : Nat) : Below w.heap.size w (w.drewN n) := ⟨rfl, rfl, rfl, Nat.le_refl _, fun _ _ => rfl⟩

theorem take_same {α : Type} {l k : List α} {j : Nat} (h1 : j < l.length) (h2 : j < k.length) (h : l.take j = k.take j) (e : l[j] = k[j]) : l.take (j + 1) = k.take (j + 1) := by
  rw [List.take_succ_eq_append_getElem h1, List.take_succ_eq_append_getElem h2, h, e]
theorem take_unlike {α : Type} {l k : List α} {j : Nat} (h1 : j < l.length) (h2 : j < k.length) (e : l[j] ≠ k[j]) : l ≠ k := fun h => by
  subst h; exact e rfl

set_option maxHeartbeats 1600000 in
theorem eqOps_some (b1 o1 b2 o2 n c d : Nat) (l k : List (Int × Int)) (o : Bool) (w : World) (hn : n ≤ maxLen) (z1 : l.length = n) (z2 : k.length = n)
    (h1 : ∀ i, i < n → w.cell? ⟨b1, o1 + i * 2, none⟩ = some (.int .i64 (l.getD i (0, 0)).1) ∧ w.cell? ⟨b1, o1 + i * 2 + 1, none⟩ = some (.int .i64 (l.getD i (0, 0)).2))
    (h2 : ∀ i, i < n → w.cell? ⟨b2, o2 + i * 2, none⟩ = some (.int .i64 (k.getD i (0, 0)).1) ∧ w.cell? ⟨b2, o2 + i * 2 + 1, none⟩ = some (.int .i64 (k.getD i (0, 0)).2)) (ho : decide (l = k) = o) :
    Calls Tryz.prog 94 #[.slice (some ⟨b1, o1, none⟩) n c, .slice (some ⟨b2, o2, none⟩) n d] w fun e w' => e = .returned (.bool o) ∧ ∃ m, w' = w.drewN m := by
  subst ho
  unfold maxLen at hn
  have H1 := hide h1
  have H2 := hide h2
  have Z1 := hide z1
  have Z2 := hide z2
  clear h1 h2 z1 z2
  go_enter Tryz.func94, Tryz.ntmps94
  go_wp2
  go_loopw [13] (fun i wr => ∃ j m : Nat, j ≤ n ∧ i = .int .i64 j ∧ wr = w.drewN m ∧ Hid (l.take j = k.take j)) (fun i _ => n - (intOf i).toNat)
  case atStart => exact ⟨0, 0, Nat.zero_le _, rfl, rfl, rfl⟩
  case round =>
    obtain ⟨j, m, hk, rfl, rfl, A⟩ := hrel
    by_cases hlt : j < n
    · have hl1 : j < l.length := by rw [unhide Z1]; exact hlt
      have hl2 : j < k.length := by rw [unhide Z2]; exact hlt
      obtain ⟨g1, g2⟩ := (unhide H1) j hlt
      obtain ⟨g3, g4⟩ := (unhide H2) j hlt
      have e1 : l.getD j (0, 0) = l[j] := by simp [hl1]
      have e2 : k.getD j (0, 0) = k[j] := by simp [hl2]
      rw [e1] at g1 g2
      rw [e2] at g3 g4
      have TS := hide (take_same hl1 hl2 (unhide A))
      have TU := hide (take_unlike hl1 hl2)
      obtain ⟨q, hq⟩ : ∃ q, l[j] = q := ⟨_, rfl⟩
      obtain ⟨r, hr⟩ : ∃ r, k[j] = r := ⟨_, rfl⟩
      rw [hq] at g1 g2
      rw [hr] at g3 g4
      rw [hq, hr] at TS TU
      obtain ⟨q1, q2⟩ := q
      obtain ⟨r1, r2⟩ := r
      simp only at g1 g2 g3 g4
      clear hq hr e1 e2 A
      by_cases he : q1 = r1
      · subst he
        by_cases hf : q2 = r2
        · subst hf
          have T := hide ((unhide TS) rfl)
          clear TS TU
          go_wp2
          go_quiet (fail)
          go_wp2
          go_roundw
          case rel => exact ⟨j + 1, m + nq, by omega, by go_num, rfl, T⟩
          case measure => simp [intOf]; omega
        · have U : Hid (decide (l = k) = false) := decide_eq_false ((unhide TU) (fun e => hf (by injection e)))
          clear TS TU
          go_wp2
          go_quiet (fail)
          go_wp2
          go_ret
          exact ⟨by rw [unhide U]; rfl, m + nq, by simp [World.drewN, Nat.add_assoc]⟩
      · have U : Hid (decide (l = k) = false) := decide_eq_false ((unhide TU) (fun e => he (by injection e)))
        clear TS TU
        go_wp2
        go_quiet (fail)
        go_wp2
        go_ret
        exact ⟨by rw [unhide U]; rfl, m + nq, by simp [World.drewN, Nat.add_assoc]⟩
    · have U : Hid (decide (l = k) = true) := by
        have h := unhide A
        rw [List.take_of_length_le (by rw [unhide Z1]; omega), List.take_of_length_le (by rw [unhide Z2]; omega)] at h
        exact decide_eq_true h
      clear A
      go_wp2
      go_ret
      exact ⟨by rw [unhide U]; rfl, m, rfl⟩

set_option maxHeartbeats 400000 in
theorem eqOps_lens (a b : Option Addr) (n m c d : Nat) (w : World) (h : n ≠ m) :
    Calls Tryz.prog 94 #[.slice a n c, .slice b m d] w fun e w' => e = .returned (.bool false) ∧ w = w' := by
  have g : ((n : Int) != (m : Int)) = true := by simp; omega
  clear h
  go_enter Tryz.func94, Tryz.ntmps94
  go_wp2
  go_ret
  exact ⟨rfl, rfl⟩

set_option maxHeartbeats 400000 in
theorem eqOps_none (a b : Option Addr) (c d : Nat) (w : World) :
    Calls Tryz.prog 94 #[.slice a 0 c, .slice b 0 d] w fun e w' => e = .returned (.bool true) ∧ w = w' := by
  go_enter Tryz.func94, Tryz.ntmps94
  go_wp2
  refine wp_loop_rounds 1 ?_
  rw [rounds_succ]
  go_wp2
  go_ret
  exact ⟨rfl, rfl⟩

theorem eqOps_is (a b : Option Addr) (n m c d : Nat) (l k : List (Int × Int)) (o : Bool) (w : World) (hn : n ≤ maxLen) (hA : OpsAt w a n l) (hB : OpsAt w b m k) (ho : decide (l = k) = o) :
    Calls Tryz.prog 94 #[.slice a n c, .slice b m d] w fun e w' => e = .returned (.bool o) ∧ Below w.heap.size w w' := by
  by_cases h : n = m
  · subst h
    by_cases h0 : n = 0
    · subst h0
      have e1 : l = [] := List.length_eq_zero_iff.1 hA.1
      have e2 : k = [] := List.length_eq_zero_iff.1 hB.1
      subst e1 e2
      rw [decide_eq_true rfl] at ho
      subst ho
      exact (eqOps_none a b c d w).mono fun e w' ⟨h1, h2⟩ => ⟨h1, h2 ▸ Below.refl _ _⟩
    · obtain ⟨b1, o1, rfl, h1⟩ := hA.2 (by omega)
      obtain ⟨b2, o2, rfl, h2⟩ := hB.2 (by omega)
      exact (eqOps_some b1 o1 b2 o2 n c d l k o w hn hA.1 hB.1 h1 h2 ho).mono fun e w' ⟨e1, q, e2⟩ => ⟨e1, by rw [e2]; exact below_dw w q⟩
  · have e : l ≠ k := fun e => h (by rw [← hA.1, ← hB.1, e])
    rw [decide_eq_false e] at ho
    subst ho
    exact (eqOps_lens a b n m c d w h).mono fun e w' ⟨h1, h2⟩ => ⟨h1, h2 ▸ Below.refl _ _⟩

/-! Ins and outs, one against one. -/
set_option maxRecDepth 10000 in
set_option maxHeartbeats 1600000 in
theorem sameIn_is (x y : InD) (a b : Option Addr) (n c m d : Nat) (o : Bool) (w : World) (hn : n ≤ maxLen) (hA : OpsAt w a n x.2.2) (hB : OpsAt w b m y.2.2) (ho : decide (x = y) = o) :
    Calls Tryz.prog 93 #[.agg #[.int .i64 x.1, .int .i64 x.2.1, .slice a n c], .agg #[.int .i64 y.1, .int .i64 y.2.1, .slice b m d]] w fun e w' => e = .returned (.bool o) ∧ Below w.heap.size w w' := by
  obtain ⟨x1, x2, k⟩ := x
  obtain ⟨y1, y2, l⟩ := y
  simp only at hA hB ⊢
  have hb := bel_on (bel_new w (.cells #[.int .i64 x1, .int .i64 x2, .slice a n c] 119)) (bel_new _ (.cells #[.int .i64 y1, .int .i64 y2, .slice b m d] 119))
  have HB := hide hb
  by_cases h1 : x1 = y1
  · subst h1
    by_cases h2 : x2 = y2
    · subst h2
      have C := hide (eqOps_is a b n m c d k l o _ hn (hA.later hb) (hB.later hb) (by rw [← ho]; simp))
      clear hA hB hb ho
      go_enter Tryz.func93, Tryz.ntmps93
      go_wp2_with fail
      refine (unhide C).mono ?_
      rintro e w2 ⟨rfl, hb2⟩
      have HB2 := hide (bel_on (unhide HB) hb2)
      clear hb2
      go_wp2
      go_ret
      exact ⟨rfl, unhide HB2⟩
    · have e : o = false := by rw [← ho]; exact decide_eq_false (fun e => h2 (by injection e with _ e; injection e))
      subst e
      clear hA hB hb ho
      go_enter Tryz.func93, Tryz.ntmps93
      go_wp2
      go_ret
      exact ⟨rfl, unhide HB⟩
  · have e : o = false := by rw [← ho]; exact decide_eq_false (fun e => h1 (by injection e))
    subst e
    clear hA hB hb ho
    go_enter Tryz.func93, Tryz.ntmps93
    go_wp2
    go_ret
    exact ⟨rfl, unhide HB⟩

set_option maxRecDepth 10000 in
set_option maxHeartbeats 1600000 in
theorem sameOut_is (x y : OutD) (a b : Option Addr) (n c m d : Nat) (o : Bool) (w : World) (hn : n ≤ maxLen) (hA : OpsAt w a n x.2) (hB : OpsAt w b m y.2) (ho : decide (x = y) = o) :
    Calls Tryz.prog 97 #[.agg #[.int .i64 x.1, .slice a n c], .agg #[.int .i64 y.1, .slice b m d]] w fun e w' => e = .returned (.bool o) ∧ Below w.heap.size w w' := by
  obtain ⟨x1, k⟩ := x
  obtain ⟨y1, l⟩ := y
  simp only at hA hB ⊢
  have hb := bel_on (bel_new w (.cells #[.int .i64 x1, .slice a n c] 122)) (bel_new _ (.cells #[.int .i64 y1, .slice b m d] 122))
  have HB := hide hb
  by_cases h1 : x1 = y1
  · subst h1
    have C := hide (eqOps_is a b n m c d k l o _ hn (hA.later hb) (hB.later hb) (by rw [← ho]; simp))
    clear hA hB hb ho
    go_enter Tryz.func97, Tryz.ntmps97
    go_wp2_with fail
    refine (unhide C).mono ?_
    rintro e w2 ⟨rfl, hb2⟩
    have HB2 := hide (bel_on (unhide HB) hb2)
    clear hb2
    go_wp2
    go_ret
    exact ⟨rfl, unhide HB2⟩
  · have e : o = false := by rw [← ho]; exact decide_eq_false (fun e => h1 (by injection e))
    have g : (x1 == y1) = false := by simp [h1]
    subst e
    clear hA hB hb ho
    go_enter Tryz.func97, Tryz.ntmps97
    go_wp2
    go_ret
    exact ⟨rfl, unhide HB⟩

/-! Rows of ins and of outs. -/
set_option maxRecDepth 10000 in
set_option maxHeartbeats 3200000 in
theorem eqIns_some (b1 o1 b2 o2 n c d : Nat) (l k : List InD) (o : Bool) (w : World) (hn : n ≤ maxLen) (z1 : l.length = n) (z2 : k.length = n)
    (h1 : ∀ i (h : i < l.length), InAt w b1 (o1 + i * 3) l[i]) (h2 : ∀ i (h : i < k.length), InAt w b2 (o2 + i * 3) k[i]) (ho : decide (l = k) = o) :
    Calls Tryz.prog 95 #[.slice (some ⟨b1, o1, none⟩) n c, .slice (some ⟨b2, o2, none⟩) n d, .func (.func 93) #[] #[]] w fun e w' => e = .returned (.bool o) ∧ Below w.heap.size w w' := by
  subst ho
  unfold maxLen at hn
  have H1 := hide h1
  have H2 := hide h2
  have Z1 := hide z1
  have Z2 := hide z2
  clear h1 h2 z1 z2
  go_enter Tryz.func95, Tryz.ntmps95
  go_wp2
  go_loopw [17] (fun i wr => ∃ j : Nat, j ≤ n ∧ i = .int .i64 j ∧ Below w.heap.size w wr ∧ Hid (l.take j = k.take j)) (fun i _ => n - (intOf i).toNat)
  case atStart => exact ⟨0, Nat.zero_le _, rfl, Below.refl _ _, rfl⟩
  case round =>
    obtain ⟨j, hk, rfl, hb, A⟩ := hrel
    have HB := hide hb
    by_cases hlt : j < n
    · have hl1 : j < l.length := by rw [unhide Z1]; exact hlt
      have hl2 : j < k.length := by rw [unhide Z2]; exact hlt
      have g := InAt.kept _ _ _ _ _ hb ((unhide H1) j hl1)
      have f := InAt.kept _ _ _ _ _ hb ((unhide H2) j hl2)
      have TS := hide (take_same hl1 hl2 (unhide A))
      have TU := hide (take_unlike hl1 hl2)
      obtain ⟨q, hq⟩ : ∃ q, l[j] = q := ⟨_, rfl⟩
      obtain ⟨r, hr⟩ : ∃ r, k[j] = r := ⟨_, rfl⟩
      rw [hq] at g
      rw [hr] at f
      rw [hq, hr] at TS TU
      obtain ⟨g1, g2, qa, qn, qc, g3, g4, g5⟩ := g
      obtain ⟨f1, f2, ra, rn, rc, f3, f4, _⟩ := f
      obtain ⟨q1, q2, qk⟩ := q
      obtain ⟨r1, r2, rk⟩ := r
      simp only at g1 g2 g3 g4 f1 f2 f3 f4
      have lt2 : b2 < wr.heap.size := World.block_lt_of_cell? _ _ f1
      have hb2 := bel_on (bel_new wr (.cells #[.int .i64 q1, .int .i64 q2, .slice qa qn qc] 119)) (bel_new _ (.cells #[.int .i64 r1, .int .i64 r2, .slice ra rn rc] 119))
      have HB2 := hide hb2
      have C : Hid (∀ o, decide (((q1, q2, qk) : InD) = (r1, r2, rk)) = o → Calls Tryz.prog 93 #[.agg #[.int .i64 q1, .int .i64 q2, .slice qa qn qc], .agg #[.int .i64 r1, .int .i64 r2, .slice ra rn rc]] ((wr.alloc (.cells #[.int .i64 q1, .int .i64 q2, .slice qa qn qc] 119)).alloc (.cells #[.int .i64 r1, .int .i64 r2, .slice ra rn rc] 119)) fun e w' => e = .returned (.bool o) ∧ Below _ _ w') :=
        fun o ho => sameIn_is (q1, q2, qk) (r1, r2, rk) qa ra qn qc rn rc o _ g5.len (g4.later hb2) (f4.later hb2) ho
      clear hq hr A g4 f4 g5 hb hb2
      by_cases he : ((q1, q2, qk) : InD) = (r1, r2, rk)
      · have T := hide ((unhide TS) he)
        have C2 := hide ((unhide C) true (decide_eq_true he))
        clear TS TU C he
        go_wp2_with fail
        refine (unhide C2).mono ?_
        rintro e w3 ⟨rfl, hb3⟩
        have HB3 := hide (bel_on (bel_on (unhide HB) (unhide HB2)) hb3)
        clear hb3
        go_wp2
        go_roundw
        case rel => exact ⟨j + 1, by omega, by go_num, unhide HB3, T⟩
        case measure => simp [intOf]; omega
      · have U : Hid (decide (l = k) = false) := decide_eq_false ((unhide TU) he)
        have C2 := hide ((unhide C) false (decide_eq_false he))
        clear TS TU C he
        go_wp2_with fail
        refine (unhide C2).mono ?_
        rintro e w3 ⟨rfl, hb3⟩
        have HB3 := hide (bel_on (bel_on (unhide HB) (unhide HB2)) hb3)
        clear hb3
        go_wp2
        go_ret
        exact ⟨by rw [unhide U]; rfl, unhide HB3⟩
    · have U : Hid (decide (l = k) = true) := by
        have h := unhide A
        rw [List.take_of_length_le (by rw [unhide Z1]; omega), List.take_of_length_le (by rw [unhide Z2]; omega)] at h
        exact decide_eq_true h
      clear A hb
      go_wp2
      go_ret
      exact ⟨by rw [unhide U]; rfl, unhide HB⟩

end Go.Proofs.YtmomfkikogbdeaaGreatDoor
