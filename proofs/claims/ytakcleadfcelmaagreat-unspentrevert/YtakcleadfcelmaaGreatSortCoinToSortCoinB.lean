/- The reference's sorted: the same coins, in order. -/
import Derived.Test.YtakcleadfcelmaaGreatSortPdq
import Derived.Test.YtakcleadfcelmaaGreatCoinInsertCToCoinGr
import Derived.Test.YtakcleadfcelmaaGreatRefCoins
import Derived.Test.YtakcleadfcelmaaGreatShelf
import Derived.Test.YtakcleadfcelmaaGreatCoinFlatToCoinDelete
namespace Go.Proofs.YtakcleadfcelmaaGreat
open Go.RowKit Go.Lib

set_option maxRecDepth 10000 in
set_option maxHeartbeats 1600000 in
theorem sorted1_is (bx blk off n c i j : Nat) (p q : PtD) (o : Bool) (w : World) (hc : w.cell? ⟨bx, 0, none⟩ = some (.slice (some ⟨blk, off, none⟩) n c)) (hi : i < n) (hj : j < n)
    (p0 : w.cell? ⟨blk, off + i * 6, none⟩ = some (.int .i64 p.1)) (p1 : w.cell? ⟨blk, off + i * 6 + 1, none⟩ = some (.int .i64 p.2))
    (q0 : w.cell? ⟨blk, off + j * 6, none⟩ = some (.int .i64 q.1)) (q1 : w.cell? ⟨blk, off + j * 6 + 1, none⟩ = some (.int .i64 q.2)) (ho : lt p q = o) :
    Calls Tryz.prog 61 #[.int .i64 i, .int .i64 j, .pointer (some ⟨bx, 0, none⟩)] w fun e w' => e = .returned (.bool o) ∧ Below w.heap.size w w' := by
  have C := hide (fun w => before_is p q o w ho)
  have hiI : (i : Int) < (n : Int) := by omega
  have hjI : (j : Int) < (n : Int) := by omega
  clear ho
  go_enter Tryz.func61, Tryz.ntmps61
  go_wp2_with fail
  go_region_held3 (fun w' => Below w.heap.size w w' ∧ w'.cell? ⟨bx, 0, none⟩ = some (.slice (some ⟨blk, off, none⟩) n c) ∧ w'.cell? ⟨blk, off + i * 6, none⟩ = some (.int .i64 p.1) ∧ w'.cell? ⟨blk, off + i * 6 + 1, none⟩ = some (.int .i64 p.2) ∧ w'.cell? ⟨blk, off + j * 6, none⟩ = some (.int .i64 q.1) ∧ w'.cell? ⟨blk, off + j * 6 + 1, none⟩ = some (.int .i64 q.2))
    (first
    | exact ⟨bel_draw1 _, hc, p0, p1, q0, q1⟩
    | (go_split_ands
       refine ⟨bel_on (by assumption) hbc, cell_later hbc (by assumption), cell_later hbc (by assumption), cell_later hbc (by assumption), cell_later hbc (by assumption), cell_later hbc (by assumption)⟩))
    (first | (go_at_call 21; refine ((unhide C) _).mono ?_; rintro e w' ⟨rfl, hbc⟩))
  rename_i hH
  have HH := hide hH.1
  clear hH
  go_wp2
  go_ret
  exact ⟨rfl, unhide HH⟩

def encC (x : CV) : List Value := flatC [x]
def ltC (x y : CV) : Bool := lt (pt x.1) (pt y.1)
theorem swo_ltC : Sort.SWO ltC where
  irrefl x := lt_irrefl _
  trans x y z h1 h2 := lt_trans h1 h2
  ntrans x y z h1 h2 := by
    unfold ltC at *
    rw [← Bool.not_eq_true, lt_iff] at *
    omega

/-- What the row holds while it is sorted; all else of w0 is as it was. -/
structure CSt (w0 : World) (blk off n : Nat) (w : World) (d : Array CV) : Prop where
  holds : Sort.HoldsK encC 6 w blk off d
  len : d.size = n
  gr : Gr w0 w (fun b => b = blk)

theorem CSt.later {w0 w w' : World} {blk off n : Nat} {d : Array CV} (h : CSt w0 blk off n w d) (hb : Below w.heap.size w w') : CSt w0 blk off n w' d :=
  ⟨fun j hj => by
    have q := h.holds j hj
    refine ⟨cell_later hb q.1, ?_⟩
    have e := hb.block blk (World.block_lt_of_cell? _ _ q.1)
    have f := q.2
    simp only [World.frozen?] at f ⊢
    rw [e]
    exact f, h.len, h.gr.on hb⟩
theorem kp_of_below {B : Nat} {w w' : World} (hb : Below w.heap.size w w') : Kp B w w' := ⟨hb.size, fun b _ hl => hb.block b hl⟩

theorem put_other (w : World) (blk off : Nat) (d : Array CV) (b : Nat) (h : b ≠ blk) : (Sort.putRowK encC 6 w blk off d).heap[b]? = w.heap[b]? := by
  unfold Sort.putRowK Sort.putRow Sort.mapBlock
  simp only
  rw [Array.getElem?_modify, if_neg (Ne.symm h)]
theorem gr_put (w : World) (n blk off : Nat) (d : Array CV) (os : Array Obj) : Gr w (Sort.grow (Sort.putRowK encC 6 (Sort.ahead w n) blk off d) os) (fun b => b = blk) := by
  have hs : (Sort.putRowK encC 6 (Sort.ahead w n) blk off d).heap.size = w.heap.size := by rw [Sort.size_putRowK]; rfl
  refine ⟨rfl, rfl, rfl, ?_, fun k hk hn => ?_⟩
  · simp only [Sort.grow, Array.size_append]; omega
  · rw [Sort.heap_grow_old _ _ (by omega), put_other _ _ _ _ _ hn]; rfl

/-- What an exchange and what only exchanges leave. -/
theorem CSt.put {w0 w : World} {blk off n : Nat} {d d' : Array CV} (h : CSt w0 blk off n w d) (hb : blk < w0.heap.size) (hs : d'.size = d.size) (m : Nat) (os : Array Obj) :
    CSt w0 blk off n (Sort.grow (Sort.putRowK encC 6 (Sort.ahead w m) blk off d') os) d' ∧ Kp w0.heap.size w (Sort.grow (Sort.putRowK encC 6 (Sort.ahead w m) blk off d') os) := by
  have g := gr_put w m blk off d' os
  have hbw : blk < w.heap.size := Nat.lt_of_lt_of_le hb h.gr.size
  refine ⟨⟨Sort.holdsK_grow encC 6 _ os blk off d' (by rw [Sort.size_putRowK]; exact hbw) (Sort.holdsK_putRowK encC 6 _ blk off d d' (Sort.holdsK_ahead encC 6 _ _ _ _ _ h.holds) hs), hs.trans h.len, h.gr.trans g⟩, g.size, fun b hB hl => g.block b hl (by omega)⟩

theorem sr_coins (w0 : World) (blk off n c bx : Nat) (sf : Nat) (sb : Array Value) (hn : n ≤ 4096) (hb : blk < w0.heap.size) (hc : w0.cell? ⟨bx, 0, none⟩ = some (.slice (some ⟨blk, off, none⟩) n c)) (hne : bx ≠ blk)
    (hs : SwapSwapsK Tryz.prog sf sb encC 6 blk off n) : Sr Tryz.prog 61 #[.pointer (some ⟨bx, 0, none⟩)] sf sb ltC n w0.heap.size (CSt w0 blk off n) where
  order := swo_ltC
  small := hn
  enters := enters_of Tryz.func61 (by kernel_rfl) rfl
  less w d i j h hi hj := by
    have hbx : w.cell? ⟨bx, 0, none⟩ = some (.slice (some ⟨blk, off, none⟩) n c) := by
      have e := h.gr.block bx (World.block_lt_of_cell? _ _ hc) hne
      simp only [World.cell?] at hc ⊢
      rw [e]
      exact hc
    have hl := h.len
    have cell := fun t ht u hu => (Sort.HoldsK.cell (i := t) (c := u) h.holds ht hu).1
    refine (sorted1_is bx blk off n c i j (pt d[i]!.1) (pt d[j]!.1) _ w hbx hi hj (cell i (by omega) 0 (by decide)) (cell i (by omega) 1 (by decide)) (cell j (by omega) 0 (by decide)) (cell j (by omega) 1 (by decide)) rfl).mono ?_
    rintro e w' ⟨rfl, hb'⟩
    exact ⟨rfl, h.later hb', kp_of_below hb'⟩
  swap w d i j h hi hj := by
    have hl := h.len
    have q := hs w d h.holds hl i j hi hj
    have e := Sort.putRowK_swp encC 6 (fun _ => rfl) w blk off d i j (by omega) (by omega)
    rw [Sort.putRowK_self encC 6 w blk off d h.holds] at e
    rw [e] at q
    have r := h.put hb (d' := Sort.swp d i j) (by rw [Sort.size_swp]) 0 #[]
    have f : Sort.grow (Sort.putRowK encC 6 (Sort.ahead w 0) blk off (Sort.swp d i j)) #[] = Sort.putRowK encC 6 w blk off (Sort.swp d i j) := by
      simp [Sort.grow, Sort.ahead]
    rw [f] at r
    exact ⟨_, q, r.1, r.2⟩
  size w d h := h.len
  low w d h := h.gr.size
  alloc w d o h := h.later (bel_new w o)
  store w d b o v h hB := ⟨fun j hj => by
      have q := h.holds j hj
      rw [World.cell?_setCell_other _ _ _ _ (by intro e; have := congrArg Addr.block e; simp at this; omega), World.frozen?_setCell]
      exact q, h.len, h.gr.set (.inr hB) v⟩

end Go.Proofs.YtakcleadfcelmaaGreat

/- sort.Slice at coins, and the reference's sorted. -/
namespace Go.Proofs.YtakcleadfcelmaaGreat
open Go.RowKit Go.Lib

theorem Tryz.infoCoins : (Tryz.prog.info? 22).map (fun i => i.desc) = some (.slice 55) := by kernel_rfl
theorem Tryz.infoCoinS : (Tryz.prog.info? 55).map (fun i => (i.size, i.bytes, i.hasPointers)) = some (6, 64, true) := by kernel_rfl
theorem coin_infos : ∃ i ie, Tryz.prog.info? 22 = some i ∧ i.desc = .slice 55 ∧ Tryz.prog.info? 55 = some ie ∧ ie.size = 6 ∧ ie.bytes = 64 ∧ ie.hasPointers = true := by
  have h1 := Tryz.infoCoins
  have h2 := Tryz.infoCoinS
  cases q1 : Tryz.prog.info? 22 with
  | none => rw [q1] at h1; cases h1
  | some i =>
    cases q2 : Tryz.prog.info? 55 with
    | none => rw [q2] at h2; cases h2
    | some ie =>
      rw [q1] at h1
      rw [q2] at h2
      simp only [Option.map_some, Option.some.injEq, Prod.mk.injEq] at h1 h2
      exact ⟨i, ie, rfl, h1, rfl, h2.1, h2.2.1, h2.2.2⟩
theorem swap9 (n : Nat) (ie : TypeInfo) (hb : ie.bytes = 64) (hp : ie.hasPointers = true) (h2 : 2 ≤ n) : swapperK n ie 25 = 9 := by
  have e0 : (n == 0) = false := by simp; omega
  have e1 : (n == 1) = false := by simp; omega
  simp [swapperK, e0, e1, hb, hp]
theorem encC_one (x : CV) (v : Value) (h : v ∈ encC x) : v.oneCell' = true := flatC_one [x] v h

theorem shuf_break (w0 : World) (blk off n : Nat) (g : Nat) (lb : Array Value) (sf : Nat) (sb : Array Value) (hn : n ≤ 4096) (hb : blk < w0.heap.size) (hs : SwapSwapsK Tryz.prog sf sb encC 6 blk off n) :
    Shuffles Tryz.prog 104 g lb sf sb n w0.heap.size (CSt w0 blk off n) := by
  intro a b d w h hab hbn
  have hl := h.len
  refine (Any.breakPatterns_func_cells_w Tryz.laysGg28 encC 6 (fun _ => rfl) (.func g) #[] lb sf sb blk off a b d w (by rw [hl]; exact hs) h.holds (Nat.lt_of_lt_of_le hb h.gr.size) hab (by omega) (by omega)).mono ?_
  rintro e w' ⟨rfl, m, os, rfl⟩
  have hp := Sort.breakPatterns_holds d a b hab (by omega)
  have r := h.put hb (d' := Sort.breakPatterns d a b) hp.1 m os
  exact ⟨rfl, _, hp, r.1, r.2⟩
theorem shuf_rev (w0 : World) (blk off n : Nat) (g : Nat) (lb : Array Value) (sf : Nat) (sb : Array Value) (hn : n ≤ 4096) (hb : blk < w0.heap.size) (hs : SwapSwapsK Tryz.prog sf sb encC 6 blk off n) :
    Shuffles Tryz.prog 106 g lb sf sb n w0.heap.size (CSt w0 blk off n) := by
  intro a b d w h hab hbn
  have hl := h.len
  refine (Any.reverseRange_func_cells_w Tryz.laysGg30 encC 6 (fun _ => rfl) (.func g) #[] lb sf sb blk off a b d w (by rw [hl]; exact hs) h.holds (Nat.lt_of_lt_of_le hb h.gr.size) hab (by omega) (by omega)).mono ?_
  rintro e w' ⟨rfl, m, os, rfl⟩
  have hp := Sort.reverseRange_holds d a b hab (by omega)
  have r := h.put hb (d' := Sort.reverseRange d a b) hp.1 m os
  exact ⟨rfl, _, hp, r.1, r.2⟩

theorem slice_none (w : World) (p : Option Addr) (n c : Nat) (h1 : n ≤ 1) (lf : Fn) (la lb : Array Value) :
    Calls Tryz.prog 60 #[.iface 22 (.slice p n c), .func lf la lb] w fun e w' => e = .returned (.tuple #[]) ∧ Below w.heap.size w w' := by
  obtain ⟨i, ie, hi, hd, hie, hs, hby, hp⟩ := coin_infos
  have key : ∀ f, Tryz.prog.funcs.findIdx? (·.name == "internal/reflectlite" ++ ".Swapper$" ++ toString (swapperK n ie 25)) = some f → Calls Tryz.prog 60 #[.iface 22 (.slice p n c), .func lf la lb] w fun e w' => e = .returned (.tuple #[]) ∧ Below w.heap.size w w' := fun f hf => by
    refine (Any.sort_Slice_tiny Tryz.laysGg6 22 55 i ie hi hd (by kernel_rfl) hie 25 (fun _ => by kernel_rfl) p n c h1 f hf lf la lb w).mono ?_
    rintro e w' ⟨rfl, os, rfl⟩
    exact ⟨rfl, rfl, rfl, rfl, by simp [Sort.grow], fun k hk => Sort.heap_grow_old w os hk⟩
  by_cases h0 : n = 0
  · subst h0
    exact key 91 (by rw [show swapperK 0 ie 25 = 1 from rfl]; kernel_rfl)
  · obtain rfl : n = 1 := by omega
    exact key 92 (by rw [show swapperK 1 ie 25 = 2 from rfl]; kernel_rfl)

set_option maxRecDepth 10000 in
theorem slice_some (w : World) (blk off n c bx : Nat) (d : Array CV) (hn : n ≤ 4096) (h2 : 2 ≤ n) (h : CSt w blk off n w d) (hb : blk < w.heap.size) (hc : w.cell? ⟨bx, 0, none⟩ = some (.slice (some ⟨blk, off, none⟩) n c)) (hne : bx ≠ blk) :
    Calls Tryz.prog 60 #[.iface 22 (.slice (some ⟨blk, off, none⟩) n c), .func (.func 61) #[] #[.pointer (some ⟨bx, 0, none⟩)]] w fun e w' => e = .returned (.tuple #[]) ∧ ∃ d', (Sort.PermIn 0 n d d' ∧ Sort.SortedIn ltC 0 n d') ∧ CSt w blk off n w' d' := by
  obtain ⟨i, ie, hi, hd, hie, hs, hby, hp⟩ := coin_infos
  have hk := swap9 n ie hby hp h2
  have hx : ∀ args W, (callFunc 99 args).run Tryz.prog W = ((Extern.ReflectliteSwapper.swap false args).run Tryz.prog W).andThen fun v w' => .ok (.value v) w' :=
    fun args W => run_callFunc_extern Tryz.func99 (by kernel_rfl) (by kernel_rfl) (by kernel_rfl) (e := Extern.ReflectliteSwapper.swap false) (by kernel_rfl) args W
  have hsw := swapSwapsK_of_literal (P := Tryz.prog) false 99 hx 55 ie hie encC 6 (fun _ => rfl) hs (fun _ => by kernel_rfl) encC_one blk off n c
  have H := sr_coins w blk off n c bx 99 _ hn hb hc hne hsw
  refine Any.sort_Slice_of_pdq Tryz.laysGg6 22 55 i ie hi hd (by kernel_rfl) hie 25 (fun _ => by kernel_rfl) (some ⟨blk, off, none⟩) n c (by omega) 99 (by rw [hk]; kernel_rfl) (.func 61) #[] #[.pointer (some ⟨bx, 0, none⟩)] w (fun w' => ∃ d', (Sort.PermIn 0 n d d' ∧ Sort.SortedIn ltC 0 n d') ∧ CSt w blk off n w' d') ?_
  have hB : sliceBound Tryz.prog 55 ie 25 (some ⟨blk, off, none⟩) n c = #[.slice (some ⟨blk, off, none⟩) n c, typeHandle Tryz.prog 55] := by
    unfold sliceBound
    rw [if_neg (by rw [hk]; decide)]
  rw [hB]
  have hst : CSt w blk off n (sliceWorld Tryz.prog Tryz.laysGg6_ren 22 (some ⟨blk, off, none⟩) n c w) d := by
    unfold sliceWorld
    exact (h.later (bel_new _ _)).later (bel_new _ _)
  have hlim : Lib.bitLen n ≤ 62 := Lib.bitLen_le n 62 (by omega) (by omega)
  refine (pdq_is H (shuf_break w blk off n _ _ _ _ hn hb hsw) (shuf_rev w blk off n _ _ _ _ hn hb hsw) n 0 n (Lib.bitLen n) d _ hst (Nat.zero_le _) (Nat.le_refl _) (by omega) (by omega) (Or.inl rfl)).mono ?_
  rintro e w' ⟨rfl, d', hq, hS, _⟩
  exact ⟨rfl, d', hq, hS⟩

end Go.Proofs.YtakcleadfcelmaaGreat
