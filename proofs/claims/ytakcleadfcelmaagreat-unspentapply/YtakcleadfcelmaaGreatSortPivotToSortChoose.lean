/- The contracts of order2_func, median_func, medianAdjacent_func, choosePivot_func: of what they answer only where it lies. -/
import Derived.Test.YtakcleadfcelmaaGreatCoinTotalToSortIns
namespace Go.Proofs.YtakcleadfcelmaaGreat
open Go.RowKit

/-- The blocks from B on, but for q, are as they were. -/
structure Kq (B q : Nat) (w w' : World) : Prop where
  size : w.heap.size ≤ w'.heap.size
  same : ∀ b, B ≤ b → b ≠ q → b < w.heap.size → w'.heap[b]? = w.heap[b]?
theorem Kq.refl (B q : Nat) (w : World) : Kq B q w w := ⟨Nat.le_refl _, fun _ _ _ _ => rfl⟩
theorem Kq.trans {B q : Nat} {w1 w2 w3 : World} (h : Kq B q w1 w2) (k : Kq B q w2 w3) : Kq B q w1 w3 :=
  ⟨Nat.le_trans h.size k.size, fun b hb hq hl => (k.same b hb hq (Nat.lt_of_lt_of_le hl h.size)).trans (h.same b hb hq hl)⟩
theorem Kp.but {B q : Nat} {w w' : World} (h : Kp B w w') : Kq B q w w' := ⟨h.size, fun b hb _ hl => h.same b hb hl⟩
theorem Kq.set (B q : Nat) (w : World) (v : Value) : Kq B q w (w.setCell ⟨q, 0, none⟩ v) :=
  ⟨by simp [World.setCell], fun b _ hq _ => Below.heap_setCell w ⟨q, 0, none⟩ v b hq⟩
theorem Kq.cell {B q : Nat} {w w' : World} (h : Kq B q w w') {p : Addr} {v : Value} (hb : B ≤ p.block) (hq : p.block ≠ q) (hc : w.cell? p = some v) : w'.cell? p = some v := by
  have hl := World.block_lt_of_cell? w p hc
  have e := h.same p.block hb hq hl
  simp only [World.cell?] at hc ⊢
  rw [e]
  exact hc
/-- But for a box that is newer than all. -/
theorem Kq.all {B q : Nat} {w w1 w2 : World} (h : Kp B w w1) (k : Kq B q w1 w2) (hq : w.heap.size ≤ q) : Kp B w w2 :=
  ⟨Nat.le_trans h.size k.size, fun b hb hl => (k.same b hb (by omega) (Nat.lt_of_lt_of_le hl h.size)).trans (h.same b hb hl)⟩

/-- A number in a box that may be written. -/
def Ctr (w : World) (q s : Nat) : Prop := w.cell? ⟨q, 0, none⟩ = some (.int .i64 s) ∧ w.frozen? ⟨q, 0, none⟩ = false
theorem Ctr.kp {B q s : Nat} {w w' : World} (c : Ctr w q s) (h : Kp B w w') (hq : B ≤ q) : Ctr w' q s :=
  ⟨h.cell (p := ⟨q, 0, none⟩) hq c.1, by
    have e := h.same q hq (World.block_lt_of_cell? _ _ c.1)
    have f := c.2
    simp only [World.frozen?] at f ⊢
    rw [e]
    exact f⟩

set_option maxRecDepth 10000 in
set_option maxHeartbeats 1600000 in
theorem order2_is {α : Type} [Inhabited α] {g : Nat} {lb : Array Value} {sf : Nat} {sb : Array Value} {lt : α → α → Bool} {n B : Nat} {St : World → Array α → Prop} (H : Sr Tryz.prog g lb sf sb lt n B St)
    (a b q s : Nat) (d : Array α) (w : World) (h : St w d) (ha : a < n) (hb : b < n) (hq : B ≤ q) (hs : s ≤ 100) (hc : Ctr w q s) :
    Calls Tryz.prog 141 #[lsV g lb sf sb, .int .i64 a, .int .i64 b, .pointer (some ⟨q, 0, none⟩)] w fun e w' => ∃ x y s' : Nat, e = .returned (.tuple #[.int .i64 x, .int .i64 y]) ∧ ((x = a ∧ y = b) ∨ (x = b ∧ y = a)) ∧ s' ≤ s + 1 ∧ Ctr w' q s' ∧ St w' d ∧ Kq B q w w' := by
  unfold lsV
  have hn := H.small
  have eg := H.enters
  have hlow := H.low _ _ h
  obtain ⟨N0, N1⟩ := box_two w (.func (.func g) #[] lb) (.func (.func sf) #[] sb) 125
  have hql := World.block_lt_of_cell? _ _ hc.1
  have SX := H.alloc w d (.cells #[.func (.func g) #[] lb, .func (.func sf) #[] sb] 125) h
  have KX := Kp.alloc B w (.cells #[.func (.func g) #[] lb, .func (.func sf) #[] sb] 125)
  have cX := hc.kp KX hq
  have hl := H.less _ d b a SX hb ha
  have HH := hide H
  have KH := hide KX
  clear H h KX SX hc
  cases hlv : lt d[b]! d[a]! with
  | true =>
    rw [hlv] at hl
    clear hlv
    go_enter Tryz.func141, Tryz.ntmps141
    go_wp2_with fail
    refine hl.mono ?_
    rintro e w2 ⟨rfl, hS2, hK2⟩
    obtain ⟨c2, f2⟩ := cX.kp hK2 hq
    have hsz2 := World.block_lt_of_cell? _ _ c2
    have HS3 := hide ((unhide HH).store w2 d q 0 (.int .i64 ((s + 1 : Nat) : Int)) hS2 hq)
    have HK3 := hide (Kq.trans (Kq.trans (unhide KH).but hK2.but) (Kq.set B q w2 (.int .i64 ((s + 1 : Nat) : Int))))
    have HC3 : Hid (Ctr (w2.setCell ⟨q, 0, none⟩ (.int .i64 ((s + 1 : Nat) : Int))) q (s + 1)) := ⟨World.cell?_setCell_same _ _ _ c2, by rw [World.frozen?_setCell]; exact f2⟩
    clear hS2 hK2 hl N0 N1 cX
    go_wp2
    go_ret2
    exact ⟨b, a, s + 1, rfl, Or.inr ⟨rfl, rfl⟩, Nat.le_refl _, unhide HC3, unhide HS3, unhide HK3⟩
  | false =>
    rw [hlv] at hl
    clear hlv
    go_enter Tryz.func141, Tryz.ntmps141
    go_wp2_with fail
    refine hl.mono ?_
    rintro e w2 ⟨rfl, hS2, hK2⟩
    have HC2 := hide (cX.kp hK2 hq)
    have HS2 := hide hS2
    have HK2 := hide (Kq.trans (q := q) (unhide KH).but hK2.but)
    clear hS2 hK2 hl N0 N1 cX
    go_wp2
    go_ret2
    exact ⟨a, b, s, rfl, Or.inl ⟨rfl, rfl⟩, by omega, unhide HC2, unhide HS2, unhide HK2⟩

set_option maxRecDepth 10000 in
set_option maxHeartbeats 1600000 in
theorem median_is {α : Type} [Inhabited α] {g : Nat} {lb : Array Value} {sf : Nat} {sb : Array Value} {lt : α → α → Bool} {n B : Nat} {St : World → Array α → Prop} (H : Sr Tryz.prog g lb sf sb lt n B St)
    (a b c q s : Nat) (d : Array α) (w : World) (h : St w d) (ha : a < n) (hb : b < n) (hcn : c < n) (hq : B ≤ q) (hs : s ≤ 90) (hc : Ctr w q s) :
    Calls Tryz.prog 121 #[lsV g lb sf sb, .int .i64 a, .int .i64 b, .int .i64 c, .pointer (some ⟨q, 0, none⟩)] w fun e w' => ∃ x s' : Nat, e = .returned (.int .i64 x) ∧ (x = a ∨ x = b ∨ x = c) ∧ s' ≤ s + 3 ∧ Ctr w' q s' ∧ St w' d ∧ Kq B q w w' := by
  unfold lsV
  have hlow := H.low _ _ h
  have hql := World.block_lt_of_cell? _ _ hc.1
  obtain ⟨N0, N1⟩ := box_two w (.func (.func g) #[] lb) (.func (.func sf) #[] sb) 125
  have SX := H.alloc w d (.cells #[.func (.func g) #[] lb, .func (.func sf) #[] sb] 125) h
  have KX := Kp.alloc B w (.cells #[.func (.func g) #[] lb, .func (.func sf) #[] sb] 125)
  have cX := hc.kp KX hq
  have C := hide (order2_is H a b q s d _ SX ha hb hq (by omega) cX)
  unfold lsV at C
  have HH := hide H
  have KH := hide KX
  have M0 := hide N0
  have M1 := hide N1
  clear H h KX SX hc cX
  go_enter Tryz.func121, Tryz.ntmps121
  go_wp2_with fail
  refine (unhide C).mono ?_
  rintro e w2 ⟨x1, y1, s1, rfl, hxy1, hs1, c1, hS1, hK1⟩
  have m0 := hK1.cell (p := ⟨w.heap.size, 0, none⟩) hlow (by show w.heap.size ≠ q; omega) (unhide M0)
  have m1 := hK1.cell (p := ⟨w.heap.size, 1, none⟩) hlow (by show w.heap.size ≠ q; omega) (unhide M1)
  have hz2 := World.block_lt_of_cell? _ _ m0
  have C2 := hide (order2_is (unhide HH) y1 c q s1 d _ hS1 (by omega) hcn hq (by omega) c1)
  unfold lsV at C2
  have HK1 := hide (Kq.trans (unhide KH).but hK1)
  have P0 := hide m0
  have P1 := hide m1
  clear N0 N1 C hK1 hS1 c1
  go_wp2_with fail
  refine (unhide C2).mono ?_
  rintro e w3 ⟨x2, y2, s2, rfl, hxy2, hs2, c2, hS2, hK2⟩
  have n0 := hK2.cell (p := ⟨w.heap.size, 0, none⟩) hlow (by show w.heap.size ≠ q; omega) (unhide P0)
  have n1 := hK2.cell (p := ⟨w.heap.size, 1, none⟩) hlow (by show w.heap.size ≠ q; omega) (unhide P1)
  have hz3 := World.block_lt_of_cell? _ _ n0
  have C3 := hide (order2_is (unhide HH) x1 x2 q s2 d _ hS2 (by omega) (by omega) hq (by omega) c2)
  unfold lsV at C3
  have HK2 := hide (Kq.trans (unhide HK1) hK2)
  clear m0 m1 C2 hK2 hS2 c2
  go_wp2_with fail
  refine (unhide C3).mono ?_
  rintro e w4 ⟨x3, y3, s3, rfl, hxy3, hs3, c3, hS3, hK3⟩
  have HC3 := hide c3
  have HS3 := hide hS3
  have HK3 := hide (Kq.trans (unhide HK2) hK3)
  clear n0 n1 C3 hK3 hS3 c3
  go_wp2
  go_ret
  exact ⟨y3, s3, rfl, by omega, by omega, unhide HC3, unhide HS3, unhide HK3⟩

set_option maxRecDepth 10000 in
set_option maxHeartbeats 1600000 in
theorem medAdj_is {α : Type} [Inhabited α] {g : Nat} {lb : Array Value} {sf : Nat} {sb : Array Value} {lt : α → α → Bool} {n B : Nat} {St : World → Array α → Prop} (H : Sr Tryz.prog g lb sf sb lt n B St)
    (a q s : Nat) (d : Array α) (w : World) (h : St w d) (ha : a + 1 < n) (ha1 : 1 ≤ a) (hq : B ≤ q) (hs : s ≤ 90) (hc : Ctr w q s) :
    Calls Tryz.prog 120 #[lsV g lb sf sb, .int .i64 a, .pointer (some ⟨q, 0, none⟩)] w fun e w' => ∃ x s' : Nat, e = .returned (.int .i64 x) ∧ (a ≤ x + 1 ∧ x ≤ a + 1) ∧ s' ≤ s + 3 ∧ Ctr w' q s' ∧ St w' d ∧ Kq B q w w' := by
  unfold lsV
  have hn := H.small
  have hlow := H.low _ _ h
  obtain ⟨N0, N1⟩ := box_two w (.func (.func g) #[] lb) (.func (.func sf) #[] sb) 125
  have SX := H.alloc w d (.cells #[.func (.func g) #[] lb, .func (.func sf) #[] sb] 125) h
  have KX := Kp.alloc B w (.cells #[.func (.func g) #[] lb, .func (.func sf) #[] sb] 125)
  have cX := hc.kp KX hq
  have C := median_is H (a - 1) a (a + 1) q s d _ SX (by omega) (by omega) (by omega) hq hs cX
  unfold lsV at C
  rw [show (((a - 1 : Nat) : Int)) = (a : Int) - 1 by omega, show (((a + 1 : Nat) : Int)) = (a : Int) + 1 by omega] at C
  have C := hide C
  have KH := hide KX
  clear H h KX SX hc cX
  go_enter Tryz.func120, Tryz.ntmps120
  go_wp2_with fail
  refine (unhide C).mono ?_
  rintro e w2 ⟨x1, s1, rfl, hx1, hs1, c1, hS1, hK1⟩
  have HC1 := hide c1
  have HS1 := hide hS1
  have HK1 := hide (Kq.trans (unhide KH).but hK1)
  clear N0 N1 C hK1 hS1 c1
  go_wp2
  go_ret
  exact ⟨x1, s1, rfl, by omega, by omega, unhide HC1, unhide HS1, unhide HK1⟩

end Go.Proofs.YtakcleadfcelmaaGreat

/- The contract of choosePivot_func: a place within the range, one of three hints. -/
namespace Go.Proofs.YtakcleadfcelmaaGreat
open Go.RowKit

set_option maxRecDepth 10000 in
set_option maxHeartbeats 3200000 in
theorem choose_is {α : Type} [Inhabited α] {g : Nat} {lb : Array Value} {sf : Nat} {sb : Array Value} {lt : α → α → Bool} {n B : Nat} {St : World → Array α → Prop} (H : Sr Tryz.prog g lb sf sb lt n B St)
    (a b : Nat) (d : Array α) (w : World) (h : St w d) (hab : a + 13 ≤ b) (hb : b ≤ n) :
    Calls Tryz.prog 105 #[lsV g lb sf sb, .int .i64 a, .int .i64 b] w fun e w' => ∃ x t : Nat, e = .returned (.tuple #[.int .i64 x, .int .i64 t]) ∧ a ≤ x ∧ x < b ∧ t ≤ 2 ∧ St w' d ∧ Kp B w w' := by
  unfold lsV
  have hn := H.small
  have hlow := H.low _ _ h
  obtain ⟨l, hl⟩ : ∃ l : Nat, l = b - a := ⟨_, rfl⟩
  have hlI : (b : Int) - (a : Int) = (l : Int) := by omega
  obtain ⟨q, hq⟩ : ∃ q : Nat, q = l / 4 := ⟨_, rfl⟩
  have hqI : (l : Int) / 4 = (q : Int) := by omega
  have hqT : (l : Int).tdiv 4 = (q : Int) := by rw [Int.tdiv_eq_ediv_of_nonneg (by omega)]; exact hqI
  have hq4 : 4 * q ≤ l := by omega
  have hq4' : l < 4 * q + 4 := by omega
  have hlb : a + l = b := by omega
  have hl13 : 13 ≤ l := by omega
  clear hq hl
  obtain ⟨N0, N1⟩ := box_two w (.func (.func g) #[] lb) (.func (.func sf) #[] sb) 125
  have SX := H.alloc _ d (.cells #[.int .i64 0] 3) (H.alloc w d (.cells #[.func (.func g) #[] lb, .func (.func sf) #[] sb] 125) h)
  have KX := Kp.trans (Kp.alloc B w (.cells #[.func (.func g) #[] lb, .func (.func sf) #[] sb] 125)) (Kp.alloc B _ (.cells #[.int .i64 0] 3))
  have KY := Kp.alloc B (w.alloc (.cells #[.func (.func g) #[] lb, .func (.func sf) #[] sb] 125)) (.cells #[.int .i64 0] 3)
  have m0 := KY.cell hlow N0
  have m1 := KY.cell hlow N1
  have hqs : (w.alloc (.cells #[.func (.func g) #[] lb, .func (.func sf) #[] sb] 125)).heap.size = w.heap.size + 1 := by simp
  have hct : Ctr ((w.alloc (.cells #[.func (.func g) #[] lb, .func (.func sf) #[] sb] 125)).alloc (.cells #[.int .i64 0] 3)) (w.heap.size + 1) 0 := by
    rw [← hqs]
    exact ⟨by rw [World.cell?_alloc_at _ _ _ _ rfl]; rfl, World.frozen?_alloc_at _ _ _ _ rfl⟩
  have hz0 := World.block_lt_of_cell? _ _ hct.1
  have hi : (a : Int) + (q : Int) = ((a + q : Nat) : Int) := by omega
  have hj : (a : Int) + (q : Int) * 2 = ((a + q * 2 : Nat) : Int) := by omega
  have hk : (a : Int) + (q : Int) * 3 = ((a + q * 3 : Nat) : Int) := by omega
  obtain ⟨i, hi'⟩ : ∃ i : Nat, i = a + q := ⟨_, rfl⟩
  obtain ⟨j, hj'⟩ : ∃ j : Nat, j = a + q * 2 := ⟨_, rfl⟩
  obtain ⟨k, hk'⟩ : ∃ k : Nat, k = a + q * 3 := ⟨_, rfl⟩
  rw [← hi'] at hi
  rw [← hj'] at hj
  rw [← hk'] at hk
  have hib : a + 3 ≤ i ∧ i < j ∧ j < k ∧ k < b := by omega
  have HH := hide H
  have KH := hide KX
  have M0 := hide m0
  have M1 := hide m1
  have HS := hide SX
  have HC := hide hct
  clear H h SX KX KY N0 N1 hct hi' hj' hk' hqs
  have A0 := M0
  have B0 := M1
  have HK0 := hide (Kq.refl B (w.heap.size + 1) ((w.alloc (.cells #[.func (.func g) #[] lb, .func (.func sf) #[] sb] 125)).alloc (.cells #[.int .i64 0] 3)))
  have h8I : (8 : Int) ≤ (l : Int) := by omega
  by_cases h50 : 50 ≤ l
  · have h50I : (50 : Int) ≤ (l : Int) := by omega
    have C1 := hide (medAdj_is (unhide HH) i (w.heap.size + 1) 0 d _ (unhide HS) (by omega) (by omega) (by omega) (by omega) (unhide HC))
    unfold lsV at C1
    go_enter Tryz.func105, Tryz.ntmps105
    go_wp2_with fail
    refine (unhide C1).mono ?_
    rintro e w1 ⟨x1, s1, rfl, hx1, hs1, hc1, hS1, hK1⟩
    have ca1 := hK1.cell (p := ⟨w.heap.size, 0, none⟩) hlow (by show w.heap.size ≠ w.heap.size + 1; omega) (unhide A0)
    have cb1 := hK1.cell (p := ⟨w.heap.size, 1, none⟩) hlow (by show w.heap.size ≠ w.heap.size + 1; omega) (unhide B0)
    have cz1 := World.block_lt_of_cell? _ _ ca1
    have A1 := hide ca1
    have B1 := hide cb1
    have HK1 := hide (Kq.trans (unhide HK0) hK1)
    have HS1 := hide hS1
    have HC1 := hide hc1
    clear hK1 hS1 hc1 C1
    have C2 := hide (medAdj_is (unhide HH) j (w.heap.size + 1) s1 d _ (unhide HS1) (by omega) (by omega) (by omega) (by omega) (unhide HC1))
    unfold lsV at C2
    go_wp2_with fail
    refine (unhide C2).mono ?_
    rintro e w2 ⟨x2, s2, rfl, hx2, hs2, hc2, hS2, hK2⟩
    have ca2 := hK2.cell (p := ⟨w.heap.size, 0, none⟩) hlow (by show w.heap.size ≠ w.heap.size + 1; omega) (unhide A1)
    have cb2 := hK2.cell (p := ⟨w.heap.size, 1, none⟩) hlow (by show w.heap.size ≠ w.heap.size + 1; omega) (unhide B1)
    have cz2 := World.block_lt_of_cell? _ _ ca2
    have A2 := hide ca2
    have B2 := hide cb2
    have HK2 := hide (Kq.trans (unhide HK1) hK2)
    have HS2 := hide hS2
    have HC2 := hide hc2
    clear hK2 hS2 hc2 C2
    have C3 := hide (medAdj_is (unhide HH) k (w.heap.size + 1) s2 d _ (unhide HS2) (by omega) (by omega) (by omega) (by omega) (unhide HC2))
    unfold lsV at C3
    go_wp2_with fail
    refine (unhide C3).mono ?_
    rintro e w3 ⟨x3, s3, rfl, hx3, hs3, hc3, hS3, hK3⟩
    have ca3 := hK3.cell (p := ⟨w.heap.size, 0, none⟩) hlow (by show w.heap.size ≠ w.heap.size + 1; omega) (unhide A2)
    have cb3 := hK3.cell (p := ⟨w.heap.size, 1, none⟩) hlow (by show w.heap.size ≠ w.heap.size + 1; omega) (unhide B2)
    have cz3 := World.block_lt_of_cell? _ _ ca3
    have A3 := hide ca3
    have B3 := hide cb3
    have HK3 := hide (Kq.trans (unhide HK2) hK3)
    have HS3 := hide hS3
    have HC3 := hide hc3
    clear hK3 hS3 hc3 C3
    have C4 := hide (median_is (unhide HH) x1 x2 x3 (w.heap.size + 1) s3 d _ (unhide HS3) (by omega) (by omega) (by omega) (by omega) (by omega) (unhide HC3))
    unfold lsV at C4
    go_wp2_with fail
    refine (unhide C4).mono ?_
    rintro e w4 ⟨x4, s4, rfl, hx4, hs4, hc4, hS4, hK4⟩
    have ca4 := hK4.cell (p := ⟨w.heap.size, 0, none⟩) hlow (by show w.heap.size ≠ w.heap.size + 1; omega) (unhide A3)
    have cb4 := hK4.cell (p := ⟨w.heap.size, 1, none⟩) hlow (by show w.heap.size ≠ w.heap.size + 1; omega) (unhide B3)
    have cz4 := World.block_lt_of_cell? _ _ ca4
    have A4 := hide ca4
    have B4 := hide cb4
    have HK4 := hide (Kq.trans (unhide HK3) hK4)
    have HS4 := hide hS4
    have HC4 := hide hc4
    clear hK4 hS4 hc4 C4
    obtain ⟨ct, cf⟩ := unhide HC4
    have ctz := World.block_lt_of_cell? _ _ ct
    have END := hide (Kq.all (unhide KH) (unhide HK4) (by omega))
    by_cases e0 : s4 = 0
    · subst e0
      go_wp2
      go_ret2
      exact ⟨x4, 1, rfl, by omega, by omega, by omega, unhide HS4, unhide END⟩
    · have e0I : ¬ ((s4 : Nat) : Int) = 0 := by omega
      have e0B : (((s4 : Nat) : Int) == 0) = false := by simp [e0]
      by_cases e12 : s4 = 12
      · subst e12
        go_wp2
        go_ret2
        exact ⟨x4, 2, rfl, by omega, by omega, by omega, unhide HS4, unhide END⟩
      · have e12I : ¬ ((s4 : Nat) : Int) = 12 := by omega
        have e12B : (((s4 : Nat) : Int) == 12) = false := by simp; omega
        go_wp2
        go_ret2
        exact ⟨x4, 0, rfl, by omega, by omega, by omega, unhide HS4, unhide END⟩
  · have h50I : ¬ (50 : Int) ≤ (l : Int) := by omega
    have C1 := hide (median_is (unhide HH) i j k (w.heap.size + 1) 0 d _ (unhide HS) (by omega) (by omega) (by omega) (by omega) (by omega) (unhide HC))
    unfold lsV at C1
    go_enter Tryz.func105, Tryz.ntmps105
    go_wp2_with fail
    refine (unhide C1).mono ?_
    rintro e w1 ⟨x1, s1, rfl, hx1, hs1, hc1, hS1, hK1⟩
    have ca1 := hK1.cell (p := ⟨w.heap.size, 0, none⟩) hlow (by show w.heap.size ≠ w.heap.size + 1; omega) (unhide A0)
    have cb1 := hK1.cell (p := ⟨w.heap.size, 1, none⟩) hlow (by show w.heap.size ≠ w.heap.size + 1; omega) (unhide B0)
    have cz1 := World.block_lt_of_cell? _ _ ca1
    have A1 := hide ca1
    have B1 := hide cb1
    have HK1 := hide (Kq.trans (unhide HK0) hK1)
    have HS1 := hide hS1
    have HC1 := hide hc1
    clear hK1 hS1 hc1 C1
    obtain ⟨ct, cf⟩ := unhide HC1
    have ctz := World.block_lt_of_cell? _ _ ct
    have END := hide (Kq.all (unhide KH) (unhide HK1) (by omega))
    by_cases e0 : s1 = 0
    · subst e0
      go_wp2
      go_ret2
      exact ⟨x1, 1, rfl, by omega, by omega, by omega, unhide HS1, unhide END⟩
    · have e0I : ¬ ((s1 : Nat) : Int) = 0 := by omega
      have e0B : (((s1 : Nat) : Int) == 0) = false := by simp [e0]
      by_cases e12 : s1 = 12
      · subst e12
        go_wp2
        go_ret2
        exact ⟨x1, 2, rfl, by omega, by omega, by omega, unhide HS1, unhide END⟩
      · have e12I : ¬ ((s1 : Nat) : Int) = 12 := by omega
        have e12B : (((s1 : Nat) : Int) == 12) = false := by simp; omega
        go_wp2
        go_ret2
        exact ⟨x1, 0, rfl, by omega, by omega, by omega, unhide HS1, unhide END⟩

end Go.Proofs.YtakcleadfcelmaaGreat
