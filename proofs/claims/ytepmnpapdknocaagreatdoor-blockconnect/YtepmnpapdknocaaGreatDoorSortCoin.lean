/- The reference's sorted: the same coins, in order. -/
import Derived.Test.YtepmnpapdknocaaGreatDoorSortPdq
import Derived.Test.YtepmnpapdknocaaGreatDoorCoinGr
import Derived.Test.YtepmnpapdknocaaGreatDoorRefCoins
import Derived.Test.YtepmnpapdknocaaGreatDoorShelf
namespace Go.Proofs.YtepmnpapdknocaaGreatDoor
open Go.RowKit Go.Lib

set_option maxRecDepth 10000 in
set_option maxHeartbeats 1600000 in
theorem sorted1_is (bx blk off n c i j : Nat) (p q : PtD) (o : Bool) (w : World) (hc : w.cell? ⟨bx, 0, none⟩ = some (.slice (some ⟨blk, off, none⟩) n c)) (hi : i < n) (hj : j < n)
    (p0 : w.cell? ⟨blk, off + i * 6, none⟩ = some (.int .i64 p.1)) (p1 : w.cell? ⟨blk, off + i * 6 + 1, none⟩ = some (.int .i64 p.2))
    (q0 : w.cell? ⟨blk, off + j * 6, none⟩ = some (.int .i64 q.1)) (q1 : w.cell? ⟨blk, off + j * 6 + 1, none⟩ = some (.int .i64 q.2)) (ho : lt p q = o) :
    Calls Tryz.prog 125 #[.int .i64 i, .int .i64 j, .pointer (some ⟨bx, 0, none⟩)] w fun e w' => e = .returned (.bool o) ∧ Below w.heap.size w w' := by
  have C := hide (fun w => before_is p q o w ho)
  have hiI : (i : Int) < (n : Int) := by omega
  have hjI : (j : Int) < (n : Int) := by omega
  clear ho
  go_enter Tryz.func125, Tryz.ntmps125
  go_wp2_with fail
  go_region_held3 (fun w' => Below w.heap.size w w' ∧ w'.cell? ⟨bx, 0, none⟩ = some (.slice (some ⟨blk, off, none⟩) n c) ∧ w'.cell? ⟨blk, off + i * 6, none⟩ = some (.int .i64 p.1) ∧ w'.cell? ⟨blk, off + i * 6 + 1, none⟩ = some (.int .i64 p.2) ∧ w'.cell? ⟨blk, off + j * 6, none⟩ = some (.int .i64 q.1) ∧ w'.cell? ⟨blk, off + j * 6 + 1, none⟩ = some (.int .i64 q.2))
    (first
    | exact ⟨bel_draw1 _, hc, p0, p1, q0, q1⟩
    | (go_split_ands
       refine ⟨bel_on (by assumption) hbc, cell_later hbc (by assumption), cell_later hbc (by assumption), cell_later hbc (by assumption), cell_later hbc (by assumption), cell_later hbc (by assumption)⟩))
    (first | (go_at_call 40; refine ((unhide C) _).mono ?_; rintro e w' ⟨rfl, hbc⟩))
  rename_i hH
  have HH := hide hH.1
  clear hH
  go_wp2
  go_ret
  exact ⟨rfl, unhide HH⟩

def encC (x : CV) : List Value := flatC [x]
def ltC (x y : CV) : Bool := lt (pt x.1) (pt y.1)
theorem swo_ltC : Sort.SWO ltC where
  irrefl x := lt_irrefl _
  trans x y z h1 h2 := lt_trans h1 h2
  ntrans x y z h1 h2 := by
    unfold ltC at *
    rw [← Bool.not_eq_true, lt_iff] at *
    omega

/-- What the row holds while it is sorted; all else of w0 is as it was. -/
structure CSt (w0 : World) (blk off n : Nat) (w : World) (d : Array CV) : Prop where
  holds : Sort.HoldsK encC 6 w blk off d
  len : d.size = n
  gr : Gr w0 w (fun b => b = blk)

theorem CSt.later {w0 w w' : World} {blk off n : Nat} {d : Array CV} (h : CSt w0 blk off n w d) (hb : Below w.heap.size w w') : CSt w0 blk off n w' d :=
  ⟨fun j hj => by
    have q := h.holds j hj
    refine ⟨cell_later hb q.1, ?_⟩
    have e := hb.block blk (World.block_lt_of_cell? _ _ q.1)
    have f := q.2
    simp only [World.frozen?] at f ⊢
    rw [e]
    exact f, h.len, h.gr.on hb⟩
theorem kp_of_below {B : Nat} {w w' : World} (hb : Below w.heap.size w w') : Kp B w w' := ⟨hb.size, fun b _ hl => hb.block b hl⟩

theorem put_other (w : World) (blk off : Nat) (d : Array CV) (b : Nat) (h : b ≠ blk) : (Sort.putRowK encC 6 w blk off d).heap[b]? = w.heap[b]? := by
  unfold Sort.putRowK Sort.putRow Sort.mapBlock
  simp only
  rw [Array.getElem?_modify, if_neg (Ne.symm h)]
theorem gr_put (w : World) (n blk off : Nat) (d : Array CV) (os : Array Obj) : Gr w (Sort.grow (Sort.putRowK encC 6 (Sort.ahead w n) blk off d) os) (fun b => b = blk) := by
  have hs : (Sort.putRowK encC 6 (Sort.ahead w n) blk off d).heap.size = w.heap.size := by rw [Sort.size_putRowK]; rfl
  refine ⟨rfl, rfl, rfl, ?_, fun k hk hn => ?_⟩
  · simp only [Sort.grow, Array.size_append]; omega
  · rw [Sort.heap_grow_old _ _ (by omega), put_other _ _ _ _ _ hn]; rfl

/-- What an exchange and what only exchanges leave. -/
theorem CSt.put {w0 w : World} {blk off n : Nat} {d d' : Array CV} (h : CSt w0 blk off n w d) (hb : blk < w0.heap.size) (hs : d'.size = d.size) (m : Nat) (os : Array Obj) :
    CSt w0 blk off n (Sort.grow (Sort.putRowK encC 6 (Sort.ahead w m) blk off d') os) d' ∧ Kp w0.heap.size w (Sort.grow (Sort.putRowK encC 6 (Sort.ahead w m) blk off d') os) := by
  have g := gr_put w m blk off d' os
  have hbw : blk < w.heap.size := Nat.lt_of_lt_of_le hb h.gr.size
  refine ⟨⟨Sort.holdsK_grow encC 6 _ os blk off d' (by rw [Sort.size_putRowK]; exact hbw) (Sort.holdsK_putRowK encC 6 _ blk off d d' (Sort.holdsK_ahead encC 6 _ _ _ _ _ h.holds) hs), hs.trans h.len, h.gr.trans g⟩, g.size, fun b hB hl => g.block b hl (by omega)⟩

theorem sr_coins (w0 : World) (blk off n c bx : Nat) (sf : Nat) (sb : Array Value) (hn : n ≤ 4096) (hb : blk < w0.heap.size) (hc : w0.cell? ⟨bx, 0, none⟩ = some (.slice (some ⟨blk, off, none⟩) n c)) (hne : bx ≠ blk)
    (hs : SwapSwapsK Tryz.prog sf sb encC 6 blk off n) : Sr Tryz.prog 125 #[.pointer (some ⟨bx, 0, none⟩)] sf sb ltC n w0.heap.size (CSt w0 blk off n) where
  order := swo_ltC
  small := hn
  enters := enters_of Tryz.func125 (by kernel_rfl) rfl
  less w d i j h hi hj := by
    have hbx : w.cell? ⟨bx, 0, none⟩ = some (.slice (some ⟨blk, off, none⟩) n c) := by
      have e := h.gr.block bx (World.block_lt_of_cell? _ _ hc) hne
      simp only [World.cell?] at hc ⊢
      rw [e]
      exact hc
    have hl := h.len
    have cell := fun t ht u hu => (Sort.HoldsK.cell (i := t) (c := u) h.holds ht hu).1
    refine (sorted1_is bx blk off n c i j (pt d[i]!.1) (pt d[j]!.1) _ w hbx hi hj (cell i (by omega) 0 (by decide)) (cell i (by omega) 1 (by decide)) (cell j (by omega) 0 (by decide)) (cell j (by omega) 1 (by decide)) rfl).mono ?_
    rintro e w' ⟨rfl, hb'⟩
    exact ⟨rfl, h.later hb', kp_of_below hb'⟩
  swap w d i j h hi hj := by
    have hl := h.len
    have q := hs w d h.holds hl i j hi hj
    have e := Sort.putRowK_swp encC 6 (fun _ => rfl) w blk off d i j (by omega) (by omega)
    rw [Sort.putRowK_self encC 6 w blk off d h.holds] at e
    rw [e] at q
    have r := h.put hb (d' := Sort.swp d i j) (by rw [Sort.size_swp]) 0 #[]
    have f : Sort.grow (Sort.putRowK encC 6 (Sort.ahead w 0) blk off (Sort.swp d i j)) #[] = Sort.putRowK encC 6 w blk off (Sort.swp d i j) := by
      simp [Sort.grow, Sort.ahead]
    rw [f] at r
    exact ⟨_, q, r.1, r.2⟩
  size w d h := h.len
  low w d h := h.gr.size
  alloc w d o h := h.later (bel_new w o)
  store w d b o v h hB := ⟨fun j hj => by
      have q := h.holds j hj
      rw [World.cell?_setCell_other _ _ _ _ (by intro e; have := congrArg Addr.block e; simp at this; omega), World.frozen?_setCell]
      exact q, h.len, h.gr.set (.inr hB) v⟩

end Go.Proofs.YtepmnpapdknocaaGreatDoor
