/- Contracts of Copy of an output and of a coin. -/
import Derived.Test.YtmomfkikogbdeaaGreatDoorCoinSpendBToCoinCopy
import Derived.Test.YtmomfkikogbdeaaGreatDoorCoinFlatToCoinInsertB
import Derived.Test.YtmomfkikogbdeaaGreatDoorCoinInsertCToCoinPlace
import Derived.Test.YtmomfkikogbdeaaGreatDoorCoinTakeToLockMach
import Derived.Deep.RegionHeld3
import Derived.Lib.SliceRun
import Derived.Lib.OwnKind
import Derived.Test.YtmomfkikogbdeaaGreatDoorTxCheckToRowLaws
import Derived.Deep.WholeRow
import Derived.Laws.CopyOwn
namespace Go.Proofs.YtmomfkikogbdeaaGreatDoor
open Go.RowKit

theorem results_cell0 {fn : Func} {p : Tmp} {ty : TypeId} (h : fn.results = #[.cell p ty]) (tmps : Array Value) (P : Program) (w : World) :
    (results fn tmps).run P w = ((asAddr (tmps.getD p undef)).run P w).andThen fun a w₁ => (loadVar ty a).run P w₁ := by
  simp only [results, h]
  simp [Sem.run_bind, Result.andThen]

theorem OpsAt.gr {w w' : World} {S : Nat → Prop} {a : Option Addr} {n : Nat} {l : List (Int × Int)} (h : OpsAt w a n l) (g : Gr w w' S) (hn : ∀ ad, a = some ad → ¬ S ad.block) : OpsAt w' a n l := by
  refine ⟨h.1, fun h0 => ?_⟩
  obtain ⟨b, off, rfl, hc⟩ := h.2 h0
  refine ⟨b, off, rfl, fun i hi => ?_⟩
  obtain ⟨c0, c1⟩ := hc i hi
  have hb := g.block b (World.block_lt_of_cell? _ _ c0) (hn _ rfl)
  exact ⟨(World.cell?_of_block (a := ⟨b, off + i * 2, none⟩) hb).trans c0, (World.cell?_of_block (a := ⟨b, off + i * 2 + 1, none⟩) hb).trans c1⟩

set_option maxRecDepth 10000 in
set_option maxHeartbeats 1600000 in
theorem outCopy_is (x : Int) (a : Option Addr) (n c : Nat) (l : List (Int × Int)) (w : World) (hn : n ≤ 4096) (h : OpsAt w a n l) (hs : SlOk a n c) :
    Calls Tryz.prog 161 #[.agg #[.int .i64 x, .slice a n c]] w fun e w' => ∃ a' c', e = .returned (.agg #[.int .i64 x, .slice a' n c']) ∧ OpsAt w' a' n l ∧ SlOk a' n c' ∧ (∀ ad, a' = some ad → w.heap.size ≤ ad.block) ∧ Below w.heap.size w w' := by
  obtain ⟨X, hX⟩ : ∃ X, X = (w.alloc (.cells #[.int .i64 x, .slice a n c] 122)).alloc (.cells #[.int .i64 0, .slice none 0 0] 122) := ⟨_, rfl⟩
  have hbX : Below w.heap.size w X := by rw [hX]; exact bel_on (bel_new _ _) (bel_new _ _)
  have x0 : X.cell? ⟨w.heap.size, 0, none⟩ = some (.int .i64 x) := by rw [hX]; exact cell_later (bel_new _ _) (two_cells w _ _ _).1
  have x1 : X.cell? ⟨w.heap.size, 1, none⟩ = some (.slice a n c) := by rw [hX]; exact cell_later (bel_new _ _) (two_cells w _ _ _).2
  have hX1 : X.heap[w.heap.size + 1]? = some (.cells [.int .i64 0, .slice none 0 0].toArray 122 (0, 0)) := by
    rw [hX]
    have := heap_alloc_new (w.alloc (.cells #[.int .i64 x, .slice a n c] 122)) (.cells #[.int .i64 0, .slice none 0 0] 122)
    rw [show (w.alloc (.cells #[.int .i64 x, .slice a n c] 122)).heap.size = w.heap.size + 1 by simp] at this
    exact this
  have C := hide (cloneOp_any a n c l X.drew hn (h.later (bel_on hbX (bel_draw1 X))) hs)
  have HX1 := hide hX1
  have HBX := hide hbX
  clear h hs hbX hX1
  go_enter Tryz.func161, Tryz.ntmps161
  go_wp2_with fail
  rw [← hX]
  clear hX
  go_region_with (go_at_call 150; refine (unhide C).mono ?_; rintro e w3 ⟨a', c', rfl, ho3, hs3, hb3', hb3⟩; have o2 : w3.cell? ⟨w.heap.size, 0, none⟩ = some (.int .i64 x) := cell_later hb3 (cell_later (bel_draw1 _) x0); have hz3 := (hb3.block _ (lt_of_block (unhide HX1))).trans (unhide HX1); have c0 := cell_of hz3 0 _ rfl; have c1 := cell_of hz3 1 _ rfl; have f0 := frozen_of hz3 0; have f1 := frozen_of hz3 1; have H3 : Hid (OpsAt w3 a' n l ∧ SlOk a' n c' ∧ (∀ ad, a' = some ad → X.heap.size ≤ ad.block) ∧ Below X.drew.heap.size X.drew w3) := ⟨ho3, hs3, hb3', hb3⟩; clear ho3 hs3 hb3' hb3 hz3)
  all_goals
    go_wp2
    (try simp only [Exit.inBlock, Exit.then])
    obtain ⟨ho3, hs3, hb3', hb3⟩ := unhide H3
    have hG := ((Gr.refl w3 (fun q => q = w.heap.size + 1)).one (w.heap.size + 1) 0 (.inl rfl) (.int .i64 x)).one (w.heap.size + 1) 1 (.inl rfl) (.slice a' n c')
    have hlt := lt_of_block (unhide HX1)
    refine bodyPost_ret (v := .agg #[.int .i64 x, .slice a' n c']) ?_ rfl ⟨a', c', rfl, ho3.gr hG (fun ad e q => ?_), hs3, fun ad e => ?_, ?_⟩
    · rw [results_cell0 rfl]
      go_simp
    · have := hb3' ad e; omega
    · have := hb3' ad e; omega
    · have hsz : X.heap.size ≤ w3.heap.size := hb3.size
      exact hG.below (bel_on (bel_on (unhide HBX) (bel_draw1 _)) hb3) (by omega) (fun k hk => by omega)

set_option maxRecDepth 10000 in
set_option maxHeartbeats 3200000 in
theorem copyCoin_is (x : CoinD) (a : Option Addr) (n c : Nat) (w : World) (hn : n ≤ 4096) (h : OpsAt w a n (ck x)) (hs : SlOk a n c) :
    Calls Tryz.prog 139 #[cnV x a n c] w fun e w' => ∃ a' c', e = .returned (cnV x a' n c') ∧ OpsAt w' a' n (ck x) ∧ SlOk a' n c' ∧ (∀ ad, a' = some ad → w.heap.size ≤ ad.block) ∧ Below w.heap.size w w' := by
  unfold cnV
  obtain ⟨X, hX⟩ : ∃ X, X = (w.alloc (.cells #[.int .i64 x.1, .int .i64 x.2.1, .int .i64 (cv x), .slice a n c, .int .i64 (ch x), .bool (cr x)] 124)).alloc (.cells #[.int .i64 0, .int .i64 0, .int .i64 0, .slice none 0 0, .int .i64 0, .bool false] 124) := ⟨_, rfl⟩
  have hbX : Below w.heap.size w X := by rw [hX]; exact bel_on (bel_new _ _) (bel_new _ _)
  have hX0 : X.heap[w.heap.size]? = some (.cells [.int .i64 x.1, .int .i64 x.2.1, .int .i64 (cv x), .slice a n c, .int .i64 (ch x), .bool (cr x)].toArray 124 (0, 0)) := by
    rw [hX, Below.heap_alloc _ _ _ (by simp)]; exact six_heap _ _ _ _ _ _ _ _
  have hX1 : X.heap[w.heap.size + 1]? = some (.cells zeroCs.toArray 124 (0, 0)) := by
    rw [hX]
    have := heap_alloc_new (w.alloc (.cells #[.int .i64 x.1, .int .i64 x.2.1, .int .i64 (cv x), .slice a n c, .int .i64 (ch x), .bool (cr x)] 124)) (.cells zeroCs.toArray 124)
    rw [show (w.alloc (.cells #[.int .i64 x.1, .int .i64 x.2.1, .int .i64 (cv x), .slice a n c, .int .i64 (ch x), .bool (cr x)] 124)).heap.size = w.heap.size + 1 by simp] at this
    exact this
  have C := hide (outCopy_is (cv x) a n c (ck x) X hn (h.later hbX) hs)
  have HX0 := hide hX0
  have HX1 := hide hX1
  have HBX := hide hbX
  have x2 := cell_of hX0 2 _ rfl
  have x3 := cell_of hX0 3 _ rfl
  clear h hs hbX hX1 hX0
  go_enter Tryz.func139, Tryz.ntmps139
  go_wp2_with fail
  rw [← hX]
  clear hX x2 x3
  refine (unhide C).mono ?_
  rintro e w3 ⟨a', c', rfl, ho3, hs3, hb3', hb3⟩
  have h0 := (hb3.block _ (lt_of_block (unhide HX0))).trans (unhide HX0)
  have h1 := (hb3.block _ (lt_of_block (unhide HX1))).trans (unhide HX1)
  have c0 := cell_of h0 0 _ rfl
  have c1 := cell_of h0 1 _ rfl
  have c2 := cell_of h0 2 _ rfl
  have c3 := cell_of h0 3 _ rfl
  have c4 := cell_of h0 4 _ rfl
  have c5 := cell_of h0 5 _ rfl
  have f2 := frozen_of h0 2
  have f3 := frozen_of h0 3
  have z0 := cell_of h1 0 _ rfl
  have z1 := cell_of h1 1 _ rfl
  have z2 := cell_of h1 2 _ rfl
  have z3 := cell_of h1 3 _ rfl
  have z4 := cell_of h1 4 _ rfl
  have z5 := cell_of h1 5 _ rfl
  have y0 := frozen_of h1 0
  have y1 := frozen_of h1 1
  have y2 := frozen_of h1 2
  have y3 := frozen_of h1 3
  have y4 := frozen_of h1 4
  have y5 := frozen_of h1 5
  have HX2 : Hid (w.heap.size + 1 < X.heap.size) := lt_of_block (unhide HX1)
  have H3 : Hid (OpsAt w3 a' n (ck x) ∧ SlOk a' n c' ∧ (∀ ad, a' = some ad → X.heap.size ≤ ad.block) ∧ Below X.heap.size X w3) := ⟨ho3, hs3, hb3', hb3⟩
  clear ho3 hs3 hb3' hb3 h0 h1
  go_wp2
  (try simp only [Exit.inBlock, Exit.then])
  obtain ⟨ho3, hs3, hb3', hb3⟩ := unhide H3
  have hlt := unhide HX2
  have hG := (((Gr.refl w3 (fun q => q = w.heap.size ∨ q = w.heap.size + 1)).one w.heap.size 2 (.inl (.inl rfl)) (.int .i64 (cv x))).one w.heap.size 3 (.inl (.inl rfl)) (.slice a' n c')).six (w.heap.size + 1) (.inl (.inr rfl)) (.int .i64 x.1) (.int .i64 x.2.1) (.int .i64 (cv x)) (.slice a' n c') (.int .i64 (ch x)) (.bool (cr x))
  refine bodyPost_ret (v := .agg #[.int .i64 x.1, .int .i64 x.2.1, .int .i64 (cv x), .slice a' n c', .int .i64 (ch x), .bool (cr x)]) ?_ rfl ⟨a', c', rfl, ho3.gr hG (fun ad e q => ?_), hs3, fun ad e => ?_, ?_⟩
  · rw [results_cell0 rfl]
    go_simp
  · have := hb3' ad e; rcases q with q | q <;> omega
  · have := hb3' ad e; omega
  · exact hG.below (bel_on (unhide HBX) hb3) (Nat.le_of_lt (Nat.lt_of_lt_of_le (by omega) hb3.size)) (fun k hk => by rcases hk with q | q <;> omega)

end Go.Proofs.YtmomfkikogbdeaaGreatDoor

/- The contract of clone.Coins. -/
namespace Go.Proofs.YtmomfkikogbdeaaGreatDoor
open Go.RowKit

/-- A coin whose lock lies in memory from s on. -/
def LkIn (w : World) (s : Nat) (x : CV) : Prop := LkAt w x ∧ ∀ ad, x.2.1 = some ad → s ≤ ad.block
theorem LkIn.later {w w' : World} {s : Nat} {x : CV} (h : LkIn w s x) (hb : Below w.heap.size w w') : LkIn w' s x := ⟨h.1.later hb, h.2⟩

/-- It holds in each world that is the same from B on. -/
def Fresh (B : Nat) (w : World) (Q : World → Prop) : Prop := ∀ w2, Gr w w2 (fun k => k < B) → Q w2

theorem own_head {w : World} {base : Nat} {e : TypeId} {size : Nat} {v : Value} {n : Nat} {xs : List Value} (h : w.ownsRow base e size v n xs) : ∃ a c, v = .slice a n c ∧ SlOk a n c ∧ (0 < n → ∃ g, a = some ⟨g, 0, none⟩ ∧ base ≤ g ∧ g < w.heap.size) := by
  rcases h.2 with ⟨rfl, rfl⟩ | ⟨g, cap, cur, rfl, hg, hh, h1, h2, h3, h4⟩
  · exact ⟨none, 0, rfl, ⟨Nat.le_refl _, Nat.zero_le _, fun _ => ⟨rfl, rfl⟩⟩, fun h => absurd h (by omega)⟩
  · exact ⟨_, cap, rfl, ⟨h1, h2, fun e => by cases e⟩, fun _ => ⟨g, rfl, hg, lt_of_block hh⟩⟩

set_option maxRecDepth 10000 in
set_option maxHeartbeats 6400000 in
theorem copyCoins_is (a : Option Addr) (n c : Nat) (L : List CoinD) (w : World) (hn : n ≤ 4096) (h : CoinsAt w a n L) (hsl : SlOk a n c) (hk : ∀ x ∈ L, (ck x).length ≤ 4096) :
    Calls Tryz.prog 66 #[.slice a n c] w fun e w' => ∃ a' c', e = .returned (.slice a' n c') ∧ Fresh w.heap.size w' (fun w2 => CoinsAt w2 a' n L) ∧ SlOk a' n c' ∧ Below w.heap.size w w' := by
  have C1 := hide (cloneCoin_any a n c L w hn h hsl)
  have HZ := hide h.1
  have HK := hide hk
  clear h hk hsl
  go_enter Tryz.func66, Tryz.ntmps66
  go_wp2_with fail
  refine (unhide C1).mono ?_
  rintro e w2 ⟨v, K, rfl, hK, hlk, hown, hb2⟩
  have hKn : K.length = n := by rw [← unhide HZ, ← hK, List.length_map]
  rw [hKn] at hown
  obtain ⟨a1, c1, rfl, hs1, hg1⟩ := own_head hown
  obtain ⟨G, hG⟩ : ∃ G, w2.heap.size = G := ⟨_, rfl⟩
  rw [hG] at hg1
  have HG1 := hide hg1
  have HS1 := hide hs1
  have HKK := hide hK
  have HKL := hide hKn
  have HLK := hide hlk
  have ST : Hid (w2.ownsRow w.heap.size 124 6 (.slice a1 n c1) n (flatC ([] ++ K.drop 0))) := hown
  have HB2 := hide hb2
  have HGl : Hid (G ≤ w2.heap.size) := Nat.le_of_eq hG.symm
  have HwG : Hid (w.heap.size ≤ G) := by rw [← hG]; exact hb2.size
  clear hown hb2 hK hlk hs1 hg1 C1 hG hKn
  go_wp2_with fail
  go_loopw [9] (fun i wr => ∃ (k : Nat) (T : List CV), k ≤ n ∧ i = .int .i64 k ∧ Hid (T.map (·.1) = L.take k) ∧ Hid (T.length = k) ∧ Hid (wr.ownsRow w.heap.size 124 6 (.slice a1 n c1) n (flatC (T ++ K.drop k))) ∧ Hid (∀ z ∈ T, LkIn wr G z) ∧ Hid (Below w.heap.size w wr) ∧ Hid (G ≤ wr.heap.size)) (fun i _ => n - (intOf i).toNat)
  case atStart => exact ⟨0, [], Nat.zero_le _, rfl, rfl, rfl, ST, (fun z hz => (by cases hz) : ∀ z ∈ ([] : List CV), LkIn w2 G z), HB2, HGl⟩
  case round =>
    obtain ⟨k, T, hk, rfl, HT, HTl, HO, HLk, HB, HGr⟩ := hrel
    clear ST HB2 HGl
    by_cases hlt : k < n
    · have hlk : k < L.length := by rw [unhide HZ]; exact hlt
      have hkK : k < K.length := by rw [unhide HKL]; exact hlt
      obtain ⟨g, rfl, hgw, hgG⟩ := (unhide HG1) (by omega)
      have hKx : (K[k]).1 = L[k] := by
        have := unhide HKK
        subst this
        rw [List.getElem_map]
      have hkl := (unhide HK) _ (List.getElem_mem hlk)
      have hLK := ((unhide HLK) _ (List.getElem_mem hkK)).later (unhide HB)
      have HTK : Hid (L.take (k + 1) = L.take k ++ [L[k]]) := List.take_succ_eq_append_getElem hlk
      have HR' : Hid (T ++ K.drop k = T ++ K[k] :: K.drop (k + 1)) := by
        show _ = _
        rw [List.drop_eq_getElem_cons hkK]
      obtain ⟨z, hz⟩ : ∃ z, K[k] = z := ⟨_, rfl⟩
      rw [hz] at hKx HR' hLK
      rw [← hKx] at HTK hkl
      obtain ⟨x, la, ln, lc⟩ := z
      simp only at HTK hkl
      obtain ⟨hO4, hs4⟩ := hLK
      simp only at hO4 hs4
      have hln : ln ≤ 4096 := by rw [← hO4.1]; exact hkl
      have hTk := unhide HTl
      have hOr := unhide HO
      rw [unhide HR'] at hOr
      have har : ∀ j, j < 6 → wr.cell? ⟨g, k * 6 + j, none⟩ = (sixV (x, la, ln, lc))[j]? := fun j hj => by
        rw [World.ownsRow.cellAt hOr _ (by omega), ← hTk, flatC_mid_at _ _ _ j hj]
      have g0 : wr.cell? ⟨g, k * 6, none⟩ = some (.int .i64 x.1) := (har 0 (by decide)).trans rfl
      have g1 : wr.cell? ⟨g, k * 6 + 1, none⟩ = some (.int .i64 x.2.1) := (har 1 (by decide)).trans rfl
      have g2 : wr.cell? ⟨g, k * 6 + 2, none⟩ = some (.int .i64 (cv x)) := (har 2 (by decide)).trans rfl
      have g3 : wr.cell? ⟨g, k * 6 + 3, none⟩ = some (.slice la ln lc) := (har 3 (by decide)).trans rfl
      have g4 : wr.cell? ⟨g, k * 6 + 4, none⟩ = some (.int .i64 (ch x)) := (har 4 (by decide)).trans rfl
      have g5 : wr.cell? ⟨g, k * 6 + 5, none⟩ = some (.bool (cr x)) := (har 5 (by decide)).trans rfl
      obtain ⟨X, hX⟩ : ∃ X, X = wr.alloc (.cells #[.int .i64 x.1, .int .i64 x.2.1, .int .i64 (cv x), .slice la ln lc, .int .i64 (ch x), .bool (cr x)] 124) := ⟨_, rfl⟩
      have hbX : Below wr.heap.size wr X := by rw [hX]; exact bel_new _ _
      have C := copyCoin_is x la ln lc X hln (hO4.later hbX) hs4
      unfold cnV at C
      have HC := hide C
      have HBX := hide hbX
      have hkI : (k : Int) < (n : Int) := by omega
      have HOr := hide hOr
      clear C hbX hO4 hs4 hkl hOr har hKx hz
      go_wp2_with fail
      rw [← hX]
      clear hX g0 g1 g2 g3 g4 g5
      refine (unhide HC).mono ?_
      rintro e w5 ⟨a5, c5, rfl, ho5, hs5, hba5, hb5⟩
      have hbw5 := bel_on (unhide HBX) hb5
      have hO5 := (Gr.of (S := fun _ => False) hbw5).own (unhide HOr) (fun _ _ q => q)
      have hat : ∀ j, j < 6 → w5.cell? ⟨g, k * 6 + j, none⟩ = (sixV (x, la, ln, lc))[j]? := fun j hj => by
        rw [World.ownsRow.cellAt hO5 _ (by omega), ← hTk, flatC_mid_at _ _ _ j hj]
      have t0 : w5.cell? ⟨g, k * 6, none⟩ = some (.int .i64 x.1) := (hat 0 (by decide)).trans rfl
      have t1 : w5.cell? ⟨g, k * 6 + 1, none⟩ = some (.int .i64 x.2.1) := (hat 1 (by decide)).trans rfl
      have t2 : w5.cell? ⟨g, k * 6 + 2, none⟩ = some (.int .i64 (cv x)) := (hat 2 (by decide)).trans rfl
      have t3 : w5.cell? ⟨g, k * 6 + 3, none⟩ = some (.slice la ln lc) := (hat 3 (by decide)).trans rfl
      have t4 : w5.cell? ⟨g, k * 6 + 4, none⟩ = some (.int .i64 (ch x)) := (hat 4 (by decide)).trans rfl
      have t5 : w5.cell? ⟨g, k * 6 + 5, none⟩ = some (.bool (cr x)) := (hat 5 (by decide)).trans rfl
      have z0 := hO5.frozenAt (k * 6)
      have z1 := hO5.frozenAt (k * 6 + 1)
      have z2 := hO5.frozenAt (k * 6 + 2)
      have z3 := hO5.frozenAt (k * 6 + 3)
      have z4 := hO5.frozenAt (k * 6 + 4)
      have z5 := hO5.frozenAt (k * 6 + 5)
      have hsl5 : g < w5.heap.size := (hO5.lt _ rfl).2
      have TAIL : Hid (∃ T' : List CV, Hid (T'.map (·.1) = L.take (k + 1)) ∧ Hid (T'.length = k + 1) ∧ Hid (((((((w5.setCell ⟨g, k * 6, none⟩ (.int .i64 x.1)).setCell ⟨g, k * 6 + 1, none⟩ (.int .i64 x.2.1)).setCell ⟨g, k * 6 + 2, none⟩ (.int .i64 (cv x))).setCell ⟨g, k * 6 + 3, none⟩ (.slice a5 ln c5)).setCell ⟨g, k * 6 + 4, none⟩ (.int .i64 (ch x))).setCell ⟨g, k * 6 + 5, none⟩ (.bool (cr x))).ownsRow w.heap.size 124 6 (.slice (some ⟨g, 0, none⟩) n c1) n (flatC (T' ++ K.drop (k + 1)))) ∧
          Hid (∀ z ∈ T', LkIn ((((((w5.setCell ⟨g, k * 6, none⟩ (.int .i64 x.1)).setCell ⟨g, k * 6 + 1, none⟩ (.int .i64 x.2.1)).setCell ⟨g, k * 6 + 2, none⟩ (.int .i64 (cv x))).setCell ⟨g, k * 6 + 3, none⟩ (.slice a5 ln c5)).setCell ⟨g, k * 6 + 4, none⟩ (.int .i64 (ch x))).setCell ⟨g, k * 6 + 5, none⟩ (.bool (cr x))) G z) ∧
          Hid (Below w.heap.size w ((((((w5.setCell ⟨g, k * 6, none⟩ (.int .i64 x.1)).setCell ⟨g, k * 6 + 1, none⟩ (.int .i64 x.2.1)).setCell ⟨g, k * 6 + 2, none⟩ (.int .i64 (cv x))).setCell ⟨g, k * 6 + 3, none⟩ (.slice a5 ln c5)).setCell ⟨g, k * 6 + 4, none⟩ (.int .i64 (ch x))).setCell ⟨g, k * 6 + 5, none⟩ (.bool (cr x)))) ∧
          Hid (G ≤ ((((((w5.setCell ⟨g, k * 6, none⟩ (.int .i64 x.1)).setCell ⟨g, k * 6 + 1, none⟩ (.int .i64 x.2.1)).setCell ⟨g, k * 6 + 2, none⟩ (.int .i64 (cv x))).setCell ⟨g, k * 6 + 3, none⟩ (.slice a5 ln c5)).setCell ⟨g, k * 6 + 4, none⟩ (.int .i64 (ch x))).setCell ⟨g, k * 6 + 5, none⟩ (.bool (cr x))).heap.size)) := by
        have hG := (Gr.refl w5 (fun q => q = g)).sixAt g (k * 6) (.inl rfl) (.int .i64 x.1) (.int .i64 x.2.1) (.int .i64 (cv x)) (.slice a5 ln c5) (.int .i64 (ch x)) (.bool (cr x))
        have hO6 := stored6 hO5 (k * 6) (.int .i64 x.1) (.int .i64 x.2.1) (.int .i64 (cv x)) (.slice a5 ln c5) (.int .i64 (ch x)) (.bool (cr x))
        have hset := flatC_mid_set T (K.drop (k + 1)) (x, la, ln, lc) (x, a5, ln, c5)
        rw [hTk] at hset
        simp only at hset
        rw [hset] at hO6
        have hXs : wr.heap.size ≤ X.heap.size := (unhide HBX).size
        have hGr := unhide HGr
        have hs5' := hbw5.size
        have hs6 := hG.size
        refine ⟨T ++ [(x, a5, ln, c5)], ?_, ?_, ?_, ?_, ?_, ?_⟩
        · show _ = _; rw [List.map_append, unhide HT, unhide HTK]; rfl
        · show _ = _; rw [List.length_append, hTk]; rfl
        · show World.ownsRow _ _ _ _ _ _ _
          rw [List.append_assoc]
          exact hO6
        · intro z hz
          rcases List.mem_append.1 hz with hz | hz
          · have h1 := ((unhide HLk) z hz).later hbw5
            exact ⟨⟨h1.1.1.gr hG (fun ad e q => by have := h1.2 ad e; omega), h1.1.2⟩, h1.2⟩
          · rw [List.mem_singleton.1 hz]
            have h3 : ∀ ad, a5 = some ad → G ≤ ad.block := fun ad e => by have := hba5 ad e; omega
            exact ⟨⟨ho5.gr hG (fun ad e q => by have := h3 ad e; omega), hs5⟩, h3⟩
        · exact hG.below (bel_on (unhide HB) hbw5) (by have := unhide HwG; omega) (fun q hq => by omega)
        · show _ ≤ _; omega
      clear ho5 hs5 hba5 hb5 hbw5 hO5 hat HC HOr
      go_wp2
      go_roundw
      case rel =>
        obtain ⟨T', f1, f2, f3, f4, f5, f6⟩ := unhide TAIL
        exact ⟨k + 1, T', by omega, by go_num, f1, f2, f3, f4, f5, f6⟩
      case measure => simp [intOf]; omega
    · have e : k = n := by omega
      subst e
      have HR : Hid (Fresh w.heap.size wr (fun w2 => CoinsAt w2 a1 k L) ∧ SlOk a1 k c1) := by
        have h1 := unhide HO
        have hKL := unhide HKL
        rw [List.drop_of_length_le (by omega), List.append_nil, ← unhide HTl] at h1
        have hF : Fresh w.heap.size wr (fun w2 => CoinsAt w2 a1 k L) := fun w2 hG => by
          have h2 := hG.own h1 (fun q hq => by have := (h1.lt q hq).1; omega)
          obtain ⟨a', c', e, h3, _⟩ := coins_of_own h2 (fun z hz => ⟨((unhide HLk) z hz).1.1.gr hG (fun ad e q => by have := ((unhide HLk) z hz).2 ad e; have := unhide HwG; omega), ((unhide HLk) z hz).1.2⟩)
          cases e
          rw [unhide HT, List.take_of_length_le (by rw [unhide HZ]; exact Nat.le_refl _)] at h3
          rw [unhide HTl] at h3
          exact h3
        exact ⟨hF, unhide HS1⟩
      clear HO HT HTl HLk HG1
      go_wp2
      go_ret
      obtain ⟨h1, h2⟩ := unhide HR
      exact ⟨_, _, rfl, h1, h2, unhide HB⟩

end Go.Proofs.YtmomfkikogbdeaaGreatDoor

/- Worlds that have grown; boxes and rows that a call has made. Nothing of the program. -/
namespace Go.Proofs.YtmomfkikogbdeaaGreatDoor
open Go.RowKit
theorem Gr.cell {w w' : World} {S : Nat → Prop} (h : Gr w w' S) {p : Addr} {v : Value} (hc : w.cell? p = some v) (hn : ¬ S p.block) : w'.cell? p = some v :=
  (World.cell?_of_block (h.block p.block (World.block_lt_of_cell? _ _ hc) hn)).trans hc

theorem Fresh.now {B : Nat} {w : World} {Q : World → Prop} (h : Fresh B w Q) : Q w := h w (Gr.refl _ _)
theorem Fresh.on {B : Nat} {w w' : World} {Q : World → Prop} (h : Fresh B w Q) (g : Gr w w' (fun k => k < B)) : Fresh B w' Q := fun w2 g2 => h w2 (g.trans g2)
theorem Fresh.later {B : Nat} {w w' : World} {Q : World → Prop} (h : Fresh B w Q) (g : Below w.heap.size w w') : Fresh B w' Q := h.on (Gr.of g)
theorem Fresh.less {B B' : Nat} {w : World} {Q : World → Prop} (h : Fresh B' w Q) (hb : B ≤ B') : Fresh B w Q := fun w2 g2 => h w2 (g2.mono fun _ _ hk => Nat.lt_of_lt_of_le hk hb)
theorem Fresh.imp {B : Nat} {w : World} {Q R : World → Prop} (h : Fresh B w Q) (f : ∀ w2, Q w2 → R w2) : Fresh B w R := fun w2 g2 => f w2 (h w2 g2)

end Go.Proofs.YtmomfkikogbdeaaGreatDoor
namespace Go.Proofs.YtmomfkikogbdeaaGreatDoor.Tr
open Go.RowKit

theorem two_heap (w : World) (a b : Value) (t : TypeId) : (w.alloc (.cells #[a, b] t)).heap[w.heap.size]? = some (.cells [a, b].toArray t (0, 0)) := heap_alloc_new w _
theorem own_slice {w : World} {base : Nat} {e : TypeId} {size : Nat} {v : Value} {n : Nat} {xs : List Value} (h : w.ownsRow base e size v n xs) : ∃ a c, v = .slice a n c ∧ SlOk a n c ∧ ∀ ad, a = some ad → base ≤ ad.block ∧ ad.block < w.heap.size := by
  rcases h.2 with ⟨rfl, rfl⟩ | ⟨g, cap, cur, rfl, hg, hh, h1, h2, _⟩
  · exact ⟨none, 0, rfl, ⟨Nat.le_refl _, Nat.zero_le _, fun _ => ⟨rfl, rfl⟩⟩, fun ad e => by cases e⟩
  · exact ⟨_, cap, rfl, ⟨h1, h2, fun e => by cases e⟩, fun ad e => by cases e; exact ⟨hg, lt_of_block hh⟩⟩
/-! Records: cells in a row, their contents elsewhere. -/
def CellsAt (w : World) (b o : Nat) (cs : List Value) : Prop := ∀ j u, cs[j]? = some u → w.cell? ⟨b, o + j, none⟩ = some u

/-- What a record's cells say, and how wide it is. -/
structure Rec (α : Type) where
  sz : Nat
  C : World → List Value → α → Prop
  R : World → Nat → Nat → α → Prop
  wide : ∀ w cs x, C w cs x → cs.length = sz
  one : ∀ w cs x, C w cs x → ∀ v ∈ cs, v.oneCell' = true
  kept : ∀ w w' cs x, Below w.heap.size w w' → C w cs x → C w' cs x
  rc : ∀ w b o x, R w b o x → ∃ cs, CellsAt w b o cs ∧ C w cs x
  cr : ∀ w b o cs x, CellsAt w b o cs → C w cs x → R w b o x

def AllC {α : Type} (Z : Rec α) (w : World) (K : List (List Value)) (L : List α) : Prop := K.length = L.length ∧ ∀ i (h : i < L.length) (h' : i < K.length), Z.C w K[i] L[i]

theorem flat_len {α : Type} {Z : Rec α} {w : World} : ∀ {K : List (List Value)} {L : List α}, AllC Z w K L → K.flatten.length = L.length * Z.sz
  | [], [], _ => by simp
  | [], _ :: _, h => by cases h.1
  | _ :: _, [], h => by cases h.1
  | k :: K, x :: L, h => by
    have h1 : AllC Z w K L := ⟨by simpa using h.1, fun i h1 h2 => h.2 (i + 1) (by simpa using h1) (by simpa using h2)⟩
    have h2 := Z.wide _ _ _ (h.2 0 (by simp) (by simp))
    simp only [List.getElem_cons_zero] at h2
    rw [List.flatten_cons, List.length_append, flat_len h1, h2, List.length_cons, Nat.succ_mul]; omega
theorem flat_one {α : Type} {Z : Rec α} {w : World} {K : List (List Value)} {L : List α} (h : AllC Z w K L) : ∀ u ∈ K.flatten, u.oneCell' = true := by
  intro u hu
  obtain ⟨k, hk, hu⟩ := List.mem_flatten.1 hu
  obtain ⟨i, hi, rfl⟩ := List.getElem_of_mem hk
  exact Z.one _ _ _ (h.2 i (by rw [← h.1]; exact hi) hi) u hu
theorem AllC.later {α : Type} {Z : Rec α} {w w' : World} {K : List (List Value)} {L : List α} (h : AllC Z w K L) (hb : Below w.heap.size w w') : AllC Z w' K L :=
  ⟨h.1, fun i h1 h2 => Z.kept _ _ _ _ hb (h.2 i h1 h2)⟩
theorem AllC.snoc {α : Type} {Z : Rec α} {w : World} {K : List (List Value)} {L : List α} (h : AllC Z w K L) {k : List Value} {x : α} (hx : Z.C w k x) : AllC Z w (K ++ [k]) (L ++ [x]) := by
  refine ⟨by simp [h.1], fun i h1 h2 => ?_⟩
  rcases Nat.lt_or_ge i L.length with q | q
  · rw [List.getElem_append_left (h := by rw [h.1]; exact q), List.getElem_append_left (h := q)]
    exact h.2 i q (by rw [h.1]; exact q)
  · have e : i = L.length := by simp at h1; omega
    subst e
    rw [List.getElem_append_right (by rw [h.1]; exact Nat.le_refl _), List.getElem_append_right (Nat.le_refl _)]
    simpa [h.1] using hx
/-- The cells of record i in the row of all. -/
theorem flat_at {α : Type} {Z : Rec α} {w : World} : ∀ {K : List (List Value)} {L : List α} (_ : AllC Z w K L) (i : Nat) (h' : i < K.length) (j : Nat) (_ : j < Z.sz), K.flatten[i * Z.sz + j]? = (K[i])[j]?
  | [], _, _, _, h', _, _ => absurd h' (by simp)
  | _ :: _, [], h, _, _, _, _ => by cases h.1
  | k :: K, x :: L, h, 0, _, j, hj => by
    have h2 := Z.wide _ _ _ (h.2 0 (by simp) (by simp))
    simp only [List.getElem_cons_zero] at h2
    rw [List.flatten_cons, List.getElem?_append_left (by omega)]
    simp
  | k :: K, x :: L, h, i + 1, h', j, hj => by
    have h1 : AllC Z w K L := ⟨by simpa using h.1, fun i h1 h2 => h.2 (i + 1) (by simpa using h1) (by simpa using h2)⟩
    have h2 := Z.wide _ _ _ (h.2 0 (by simp) (by simp))
    simp only [List.getElem_cons_zero] at h2
    rw [List.flatten_cons, List.getElem?_append_right (by rw [h2, Nat.succ_mul]; omega), h2]
    rw [show (i + 1) * Z.sz + j - Z.sz = i * Z.sz + j by rw [Nat.succ_mul]; omega]
    rw [flat_at h1 i (by simpa using h') j hj]
    simp

/-- Records in memory have cells. -/
theorem heads_of {α : Type} (Z : Rec α) {w : World} {b off : Nat} {L : List α} (h : ∀ i (h : i < L.length), Z.R w b (off + i * Z.sz) L[i]) : ∃ K, AllC Z w K L ∧ CellsAt w b off K.flatten := by
  have h2 : ∀ k, k ≤ L.length → ∃ K, AllC Z w K (L.take k) ∧ CellsAt w b off K.flatten := by
    intro k
    induction k with
    | zero => intro _; exact ⟨[], ⟨by simp, fun i h1 h2 => absurd h2 (by simp)⟩, fun j u hj => by simp at hj⟩
    | succ k ih =>
      intro hk
      obtain ⟨K, h1, h3⟩ := ih (by omega)
      obtain ⟨cs, h4, h5⟩ := Z.rc _ _ _ _ (h k (by omega))
      refine ⟨K ++ [cs], by rw [List.take_succ_eq_append_getElem (by omega)]; exact h1.snoc h5, fun j u hj => ?_⟩
      have hl := flat_len h1
      rw [List.length_take, Nat.min_eq_left (by omega)] at hl
      rw [List.flatten_append] at hj
      rcases Nat.lt_or_ge j K.flatten.length with q | q
      · rw [List.getElem?_append_left q] at hj; exact h3 j u hj
      · rw [List.getElem?_append_right q] at hj
        have := h4 (j - K.flatten.length) u (by simpa using hj)
        rw [show off + k * Z.sz + (j - K.flatten.length) = off + j by omega] at this
        exact this
  obtain ⟨K, h1, h3⟩ := h2 L.length (Nat.le_refl _)
  rw [List.take_length] at h1
  exact ⟨K, h1, h3⟩

/-- A row of records that a call has laid is one to a reader. -/
theorem rows_of_own {α : Type} (Z : Rec α) {w : World} {base n : Nat} {e : TypeId} {v : Value} {K : List (List Value)} {L : List α} (h : w.ownsRow base e Z.sz v n K.flatten) (hc : AllC Z w K L) (hn : L.length = n) : ∃ a c, v = .slice a n c ∧ RowsAt Z.R Z.sz w a n L ∧ SlOk a n c := by
  rcases h.2 with ⟨rfl, rfl⟩ | ⟨g, cap, cur, rfl, hg, hh, h1, h2, h3, h4⟩
  · exact ⟨none, 0, rfl, ⟨hn, fun h => absurd h (by omega)⟩, Nat.le_refl _, Nat.zero_le _, fun _ => ⟨rfl, rfl⟩⟩
  · refine ⟨_, cap, rfl, ⟨hn, fun _ => ⟨g, 0, rfl, lt_of_block hh, fun i hi => ?_⟩⟩, h1, h2, fun e => by cases e⟩
    have hi' : i < K.length := by rw [hc.1]; exact hi
    refine Z.cr _ _ _ (K[i]) _ (fun j u hj => ?_) (hc.2 i hi hi')
    have hw := Z.wide _ _ _ (hc.2 i hi hi')
    have hjl : j < Z.sz := by rw [← hw]; exact (List.getElem?_eq_some_iff.1 hj).1
    rw [Nat.zero_add, World.ownsRow.cellAt h _ (by
      have : (i + 1) * Z.sz ≤ n * Z.sz := Nat.mul_le_mul_right _ (by omega)
      rw [Nat.succ_mul] at this; omega), flat_at hc i hi' j hjl]
    exact hj

end Go.Proofs.YtmomfkikogbdeaaGreatDoor.Tr

/- Whole rows by value, out of and into blocks of their own. Nothing of the program. -/
namespace Go.Proofs.YtmomfkikogbdeaaGreatDoor
open Go.RowKit

theorem Gr.row {w w1 : World} {S : Nat → Prop} (h : Gr w w1 S) {g : Nat} (hg : S g ∨ w.heap.size ≤ g) (cs : Array Value) : Gr w (w1.setRow g cs) S :=
  ⟨h.os, h.tape, h.output, by rw [setRow_size]; exact h.size, fun i hi hn => (setRow_other w1 g i cs (fun e => by
    subst e
    rcases hg with q | q
    · exact hn q
    · omega)).trans (h.block i hi hn)⟩
section
variable {P : Program}
theorem wpList_load_row {ops : Array Oper} {rest : List Oper} {o : Oper} {a : Act} {w : World} {Q : Exit → Act → World → Prop} (hgd : o.guard = none) (ty : TypeId) (x : Operand) (ho : o.op = .load ty x)
    (g : Nat) (hx : a.eval x = .pointer (some ⟨g, 0, none⟩)) (c : Array Value) (t : TypeId) (hg : w.heap[g]? = some (.cells c t (0, 0))) (n : Nat) (e : TypeId) (hu : P.underlying ty = some (.array n e)) (hi : (P.info? ty).map (·.size) = some c.size)
    (h : wpList P ops Q rest (a.put o.dst (.agg c)) w) : wpList P ops Q (o :: rest) a w := by
  refine wpList_plain hgd fun K hK => ?_
  unfold Oper.wp execOp
  simp only [ho, hx, Instr.loadAt, Instr.sureAddr, Sem.run_bind, Sem.run_pure, Result.andThen_ok, run_loadVar_row w g t ty c (0, 0) _ hg hu rfl hi]
  exact hK _ _ h
theorem wpList_store_row {ops : Array Oper} {rest : List Oper} {o : Oper} {a : Act} {w : World} {Q : Exit → Act → World → Prop} (hgd : o.guard = none) (ty : TypeId) (x y : Operand) (ho : o.op = .store ty x y)
    (g : Nat) (hx : a.eval x = .pointer (some ⟨g, 0, none⟩)) (c c' : Array Value) (hy : a.eval y = .agg c') (t : TypeId) (hg : w.heap[g]? = some (.cells c t (0, 0))) (hi : (P.info? ty).map (·.size) = some c'.size) (hs : c.size = c'.size) (h1 : c'.all (·.oneCell') = true)
    (h : wpList P ops Q rest (a.put o.dst undef) (w.setRow g c')) : wpList P ops Q (o :: rest) a w := by
  refine wpList_plain hgd fun K hK => ?_
  unfold Oper.wp execOp
  simp only [ho, hx, hy, Instr.storeAt, Instr.sureAddr, Sem.run_bind, Sem.run_pure, Result.andThen_ok, run_storeVar_row w g t ty c c' hg hi hs h1]
  exact hK _ _ h
end
end Go.Proofs.YtmomfkikogbdeaaGreatDoor
