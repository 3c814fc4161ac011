/- The contracts of order2_func, median_func, medianAdjacent_func, choosePivot_func: of what they answer only where it lies. -/
import Derived.Test.YtepmnpapdknocaaGreatDoorSortBase
namespace Go.Proofs.YtepmnpapdknocaaGreatDoor
open Go.RowKit

/-- The blocks from B on, but for q, are as they were. -/
structure Kq (B q : Nat) (w w' : World) : Prop where
  size : w.heap.size ≤ w'.heap.size
  same : ∀ b, B ≤ b → b ≠ q → b < w.heap.size → w'.heap[b]? = w.heap[b]?
theorem Kq.refl (B q : Nat) (w : World) : Kq B q w w := ⟨Nat.le_refl _, fun _ _ _ _ => rfl⟩
theorem Kq.trans {B q : Nat} {w1 w2 w3 : World} (h : Kq B q w1 w2) (k : Kq B q w2 w3) : Kq B q w1 w3 :=
  ⟨Nat.le_trans h.size k.size, fun b hb hq hl => (k.same b hb hq (Nat.lt_of_lt_of_le hl h.size)).trans (h.same b hb hq hl)⟩
theorem Kp.but {B q : Nat} {w w' : World} (h : Kp B w w') : Kq B q w w' := ⟨h.size, fun b hb _ hl => h.same b hb hl⟩
theorem Kq.set (B q : Nat) (w : World) (v : Value) : Kq B q w (w.setCell ⟨q, 0, none⟩ v) :=
  ⟨by simp [World.setCell], fun b _ hq _ => Below.heap_setCell w ⟨q, 0, none⟩ v b hq⟩
theorem Kq.cell {B q : Nat} {w w' : World} (h : Kq B q w w') {p : Addr} {v : Value} (hb : B ≤ p.block) (hq : p.block ≠ q) (hc : w.cell? p = some v) : w'.cell? p = some v := by
  have hl := World.block_lt_of_cell? w p hc
  have e := h.same p.block hb hq hl
  simp only [World.cell?] at hc ⊢
  rw [e]
  exact hc
/-- But for a box that is newer than all. -/
theorem Kq.all {B q : Nat} {w w1 w2 : World} (h : Kp B w w1) (k : Kq B q w1 w2) (hq : w.heap.size ≤ q) : Kp B w w2 :=
  ⟨Nat.le_trans h.size k.size, fun b hb hl => (k.same b hb (by omega) (Nat.lt_of_lt_of_le hl h.size)).trans (h.same b hb hl)⟩

/-- A number in a box that may be written. -/
def Ctr (w : World) (q s : Nat) : Prop := w.cell? ⟨q, 0, none⟩ = some (.int .i64 s) ∧ w.frozen? ⟨q, 0, none⟩ = false
theorem Ctr.kp {B q s : Nat} {w w' : World} (c : Ctr w q s) (h : Kp B w w') (hq : B ≤ q) : Ctr w' q s :=
  ⟨h.cell (p := ⟨q, 0, none⟩) hq c.1, by
    have e := h.same q hq (World.block_lt_of_cell? _ _ c.1)
    have f := c.2
    simp only [World.frozen?] at f ⊢
    rw [e]
    exact f⟩

set_option maxRecDepth 10000 in
set_option maxHeartbeats 1600000 in
theorem order2_is {α : Type} [Inhabited α] {g : Nat} {lb : Array Value} {sf : Nat} {sb : Array Value} {lt : α → α → Bool} {n B : Nat} {St : World → Array α → Prop} (H : Sr Tryz.prog g lb sf sb lt n B St)
    (a b q s : Nat) (d : Array α) (w : World) (h : St w d) (ha : a < n) (hb : b < n) (hq : B ≤ q) (hs : s ≤ 100) (hc : Ctr w q s) :
    Calls Tryz.prog 261 #[lsV g lb sf sb, .int .i64 a, .int .i64 b, .pointer (some ⟨q, 0, none⟩)] w fun e w' => ∃ x y s' : Nat, e = .returned (.tuple #[.int .i64 x, .int .i64 y]) ∧ ((x = a ∧ y = b) ∨ (x = b ∧ y = a)) ∧ s' ≤ s + 1 ∧ Ctr w' q s' ∧ St w' d ∧ Kq B q w w' := by
  unfold lsV
  have hn := H.small
  have eg := H.enters
  have hlow := H.low _ _ h
  obtain ⟨N0, N1⟩ := box_two w (.func (.func g) #[] lb) (.func (.func sf) #[] sb) 230
  have hql := World.block_lt_of_cell? _ _ hc.1
  have SX := H.alloc w d (.cells #[.func (.func g) #[] lb, .func (.func sf) #[] sb] 230) h
  have KX := Kp.alloc B w (.cells #[.func (.func g) #[] lb, .func (.func sf) #[] sb] 230)
  have cX := hc.kp KX hq
  have hl := H.less _ d b a SX hb ha
  have HH := hide H
  have KH := hide KX
  clear H h KX SX hc
  cases hlv : lt d[b]! d[a]! with
  | true =>
    rw [hlv] at hl
    clear hlv
    go_enter Tryz.func261, Tryz.ntmps261
    go_wp2_with fail
    refine hl.mono ?_
    rintro e w2 ⟨rfl, hS2, hK2⟩
    obtain ⟨c2, f2⟩ := cX.kp hK2 hq
    have hsz2 := World.block_lt_of_cell? _ _ c2
    have HS3 := hide ((unhide HH).store w2 d q 0 (.int .i64 ((s + 1 : Nat) : Int)) hS2 hq)
    have HK3 := hide (Kq.trans (Kq.trans (unhide KH).but hK2.but) (Kq.set B q w2 (.int .i64 ((s + 1 : Nat) : Int))))
    have HC3 : Hid (Ctr (w2.setCell ⟨q, 0, none⟩ (.int .i64 ((s + 1 : Nat) : Int))) q (s + 1)) := ⟨World.cell?_setCell_same _ _ _ c2, by rw [World.frozen?_setCell]; exact f2⟩
    clear hS2 hK2 hl N0 N1 cX
    go_wp2
    go_ret2
    exact ⟨b, a, s + 1, rfl, Or.inr ⟨rfl, rfl⟩, Nat.le_refl _, unhide HC3, unhide HS3, unhide HK3⟩
  | false =>
    rw [hlv] at hl
    clear hlv
    go_enter Tryz.func261, Tryz.ntmps261
    go_wp2_with fail
    refine hl.mono ?_
    rintro e w2 ⟨rfl, hS2, hK2⟩
    have HC2 := hide (cX.kp hK2 hq)
    have HS2 := hide hS2
    have HK2 := hide (Kq.trans (q := q) (unhide KH).but hK2.but)
    clear hS2 hK2 hl N0 N1 cX
    go_wp2
    go_ret2
    exact ⟨a, b, s, rfl, Or.inl ⟨rfl, rfl⟩, by omega, unhide HC2, unhide HS2, unhide HK2⟩

set_option maxRecDepth 10000 in
set_option maxHeartbeats 1600000 in
theorem median_is {α : Type} [Inhabited α] {g : Nat} {lb : Array Value} {sf : Nat} {sb : Array Value} {lt : α → α → Bool} {n B : Nat} {St : World → Array α → Prop} (H : Sr Tryz.prog g lb sf sb lt n B St)
    (a b c q s : Nat) (d : Array α) (w : World) (h : St w d) (ha : a < n) (hb : b < n) (hcn : c < n) (hq : B ≤ q) (hs : s ≤ 90) (hc : Ctr w q s) :
    Calls Tryz.prog 237 #[lsV g lb sf sb, .int .i64 a, .int .i64 b, .int .i64 c, .pointer (some ⟨q, 0, none⟩)] w fun e w' => ∃ x s' : Nat, e = .returned (.int .i64 x) ∧ (x = a ∨ x = b ∨ x = c) ∧ s' ≤ s + 3 ∧ Ctr w' q s' ∧ St w' d ∧ Kq B q w w' := by
  unfold lsV
  have hlow := H.low _ _ h
  have hql := World.block_lt_of_cell? _ _ hc.1
  obtain ⟨N0, N1⟩ := box_two w (.func (.func g) #[] lb) (.func (.func sf) #[] sb) 230
  have SX := H.alloc w d (.cells #[.func (.func g) #[] lb, .func (.func sf) #[] sb] 230) h
  have KX := Kp.alloc B w (.cells #[.func (.func g) #[] lb, .func (.func sf) #[] sb] 230)
  have cX := hc.kp KX hq
  have C := hide (order2_is H a b q s d _ SX ha hb hq (by omega) cX)
  unfold lsV at C
  have HH := hide H
  have KH := hide KX
  have M0 := hide N0
  have M1 := hide N1
  clear H h KX SX hc cX
  go_enter Tryz.func237, Tryz.ntmps237
  go_wp2_with fail
  refine (unhide C).mono ?_
  rintro e w2 ⟨x1, y1, s1, rfl, hxy1, hs1, c1, hS1, hK1⟩
  have m0 := hK1.cell (p := ⟨w.heap.size, 0, none⟩) hlow (by show w.heap.size ≠ q; omega) (unhide M0)
  have m1 := hK1.cell (p := ⟨w.heap.size, 1, none⟩) hlow (by show w.heap.size ≠ q; omega) (unhide M1)
  have hz2 := World.block_lt_of_cell? _ _ m0
  have C2 := hide (order2_is (unhide HH) y1 c q s1 d _ hS1 (by omega) hcn hq (by omega) c1)
  unfold lsV at C2
  have HK1 := hide (Kq.trans (unhide KH).but hK1)
  have P0 := hide m0
  have P1 := hide m1
  clear N0 N1 C hK1 hS1 c1
  go_wp2_with fail
  refine (unhide C2).mono ?_
  rintro e w3 ⟨x2, y2, s2, rfl, hxy2, hs2, c2, hS2, hK2⟩
  have n0 := hK2.cell (p := ⟨w.heap.size, 0, none⟩) hlow (by show w.heap.size ≠ q; omega) (unhide P0)
  have n1 := hK2.cell (p := ⟨w.heap.size, 1, none⟩) hlow (by show w.heap.size ≠ q; omega) (unhide P1)
  have hz3 := World.block_lt_of_cell? _ _ n0
  have C3 := hide (order2_is (unhide HH) x1 x2 q s2 d _ hS2 (by omega) (by omega) hq (by omega) c2)
  unfold lsV at C3
  have HK2 := hide (Kq.trans (unhide HK1) hK2)
  clear m0 m1 C2 hK2 hS2 c2
  go_wp2_with fail
  refine (unhide C3).mono ?_
  rintro e w4 ⟨x3, y3, s3, rfl, hxy3, hs3, c3, hS3, hK3⟩
  have HC3 := hide c3
  have HS3 := hide hS3
  have HK3 := hide (Kq.trans (unhide HK2) hK3)
  clear n0 n1 C3 hK3 hS3 c3
  go_wp2
  go_ret
  exact ⟨y3, s3, rfl, by omega, by omega, unhide HC3, unhide HS3, unhide HK3⟩

set_option maxRecDepth 10000 in
set_option maxHeartbeats 1600000 in
theorem medAdj_is {α : Type} [Inhabited α] {g : Nat} {lb : Array Value} {sf : Nat} {sb : Array Value} {lt : α → α → Bool} {n B : Nat} {St : World → Array α → Prop} (H : Sr Tryz.prog g lb sf sb lt n B St)
    (a q s : Nat) (d : Array α) (w : World) (h : St w d) (ha : a + 1 < n) (ha1 : 1 ≤ a) (hq : B ≤ q) (hs : s ≤ 90) (hc : Ctr w q s) :
    Calls Tryz.prog 236 #[lsV g lb sf sb, .int .i64 a, .pointer (some ⟨q, 0, none⟩)] w fun e w' => ∃ x s' : Nat, e = .returned (.int .i64 x) ∧ (a ≤ x + 1 ∧ x ≤ a + 1) ∧ s' ≤ s + 3 ∧ Ctr w' q s' ∧ St w' d ∧ Kq B q w w' := by
  unfold lsV
  have hn := H.small
  have hlow := H.low _ _ h
  obtain ⟨N0, N1⟩ := box_two w (.func (.func g) #[] lb) (.func (.func sf) #[] sb) 230
  have SX := H.alloc w d (.cells #[.func (.func g) #[] lb, .func (.func sf) #[] sb] 230) h
  have KX := Kp.alloc B w (.cells #[.func (.func g) #[] lb, .func (.func sf) #[] sb] 230)
  have cX := hc.kp KX hq
  have C := median_is H (a - 1) a (a + 1) q s d _ SX (by omega) (by omega) (by omega) hq hs cX
  unfold lsV at C
  rw [show (((a - 1 : Nat) : Int)) = (a : Int) - 1 by omega, show (((a + 1 : Nat) : Int)) = (a : Int) + 1 by omega] at C
  have C := hide C
  have KH := hide KX
  clear H h KX SX hc cX
  go_enter Tryz.func236, Tryz.ntmps236
  go_wp2_with fail
  refine (unhide C).mono ?_
  rintro e w2 ⟨x1, s1, rfl, hx1, hs1, c1, hS1, hK1⟩
  have HC1 := hide c1
  have HS1 := hide hS1
  have HK1 := hide (Kq.trans (unhide KH).but hK1)
  clear N0 N1 C hK1 hS1 c1
  go_wp2
  go_ret
  exact ⟨x1, s1, rfl, by omega, by omega, unhide HC1, unhide HS1, unhide HK1⟩

end Go.Proofs.YtepmnpapdknocaaGreatDoor
