/- sort.Slice at coins, and the reference's sorted. -/
import Derived.Test.YtepmnpapdknocaaGreatDoorSortCoin
import Derived.Test.YtepmnpapdknocaaGreatDoorCoinClone
namespace Go.Proofs.YtepmnpapdknocaaGreatDoor
open Go.RowKit Go.Lib

theorem Tryz.infoCoins : (Tryz.prog.info? 25).map (fun i => i.desc) = some (.slice 88) := by kernel_rfl
theorem Tryz.infoCoinS : (Tryz.prog.info? 88).map (fun i => (i.size, i.bytes, i.hasPointers)) = some (6, 64, true) := by kernel_rfl
theorem coin_infos : ∃ i ie, Tryz.prog.info? 25 = some i ∧ i.desc = .slice 88 ∧ Tryz.prog.info? 88 = some ie ∧ ie.size = 6 ∧ ie.bytes = 64 ∧ ie.hasPointers = true := by
  have h1 := Tryz.infoCoins
  have h2 := Tryz.infoCoinS
  cases q1 : Tryz.prog.info? 25 with
  | none => rw [q1] at h1; cases h1
  | some i =>
    cases q2 : Tryz.prog.info? 88 with
    | none => rw [q2] at h2; cases h2
    | some ie =>
      rw [q1] at h1
      rw [q2] at h2
      simp only [Option.map_some, Option.some.injEq, Prod.mk.injEq] at h1 h2
      exact ⟨i, ie, rfl, h1, rfl, h2.1, h2.2.1, h2.2.2⟩
theorem swap9 (n : Nat) (ie : TypeInfo) (hb : ie.bytes = 64) (hp : ie.hasPointers = true) (h2 : 2 ≤ n) : swapperK n ie 25 = 9 := by
  have e0 : (n == 0) = false := by simp; omega
  have e1 : (n == 1) = false := by simp; omega
  simp [swapperK, e0, e1, hb, hp]
theorem encC_one (x : CV) (v : Value) (h : v ∈ encC x) : v.oneCell' = true := flatC_one [x] v h

theorem shuf_break (w0 : World) (blk off n : Nat) (g : Nat) (lb : Array Value) (sf : Nat) (sb : Array Value) (hn : n ≤ 4096) (hb : blk < w0.heap.size) (hs : SwapSwapsK Tryz.prog sf sb encC 6 blk off n) :
    Shuffles Tryz.prog 201 g lb sf sb n w0.heap.size (CSt w0 blk off n) := by
  intro a b d w h hab hbn
  have hl := h.len
  refine (Any.breakPatterns_func_cells_w Tryz.laysGg28 encC 6 (fun _ => rfl) (.func g) #[] lb sf sb blk off a b d w (by rw [hl]; exact hs) h.holds (Nat.lt_of_lt_of_le hb h.gr.size) hab (by omega) (by omega)).mono ?_
  rintro e w' ⟨rfl, m, os, rfl⟩
  have hp := Sort.breakPatterns_holds d a b hab (by omega)
  have r := h.put hb (d' := Sort.breakPatterns d a b) hp.1 m os
  exact ⟨rfl, _, hp, r.1, r.2⟩
theorem shuf_rev (w0 : World) (blk off n : Nat) (g : Nat) (lb : Array Value) (sf : Nat) (sb : Array Value) (hn : n ≤ 4096) (hb : blk < w0.heap.size) (hs : SwapSwapsK Tryz.prog sf sb encC 6 blk off n) :
    Shuffles Tryz.prog 203 g lb sf sb n w0.heap.size (CSt w0 blk off n) := by
  intro a b d w h hab hbn
  have hl := h.len
  refine (Any.reverseRange_func_cells_w Tryz.laysGg30 encC 6 (fun _ => rfl) (.func g) #[] lb sf sb blk off a b d w (by rw [hl]; exact hs) h.holds (Nat.lt_of_lt_of_le hb h.gr.size) hab (by omega) (by omega)).mono ?_
  rintro e w' ⟨rfl, m, os, rfl⟩
  have hp := Sort.reverseRange_holds d a b hab (by omega)
  have r := h.put hb (d' := Sort.reverseRange d a b) hp.1 m os
  exact ⟨rfl, _, hp, r.1, r.2⟩

theorem slice_none (w : World) (p : Option Addr) (n c : Nat) (h1 : n ≤ 1) (lf : Fn) (la lb : Array Value) :
    Calls Tryz.prog 124 #[.iface 25 (.slice p n c), .func lf la lb] w fun e w' => e = .returned (.tuple #[]) ∧ Below w.heap.size w w' := by
  obtain ⟨i, ie, hi, hd, hie, hs, hby, hp⟩ := coin_infos
  have key : ∀ f, Tryz.prog.funcs.findIdx? (·.name == "internal/reflectlite" ++ ".Swapper$" ++ toString (swapperK n ie 25)) = some f → Calls Tryz.prog 124 #[.iface 25 (.slice p n c), .func lf la lb] w fun e w' => e = .returned (.tuple #[]) ∧ Below w.heap.size w w' := fun f hf => by
    refine (Any.sort_Slice_tiny Tryz.laysGg6 25 88 i ie hi hd (by kernel_rfl) hie 25 (fun _ => by kernel_rfl) p n c h1 f hf lf la lb w).mono ?_
    rintro e w' ⟨rfl, os, rfl⟩
    exact ⟨rfl, rfl, rfl, rfl, by simp [Sort.grow], fun k hk => Sort.heap_grow_old w os hk⟩
  by_cases h0 : n = 0
  · subst h0
    exact key 188 (by rw [show swapperK 0 ie 25 = 1 from rfl]; kernel_rfl)
  · obtain rfl : n = 1 := by omega
    exact key 189 (by rw [show swapperK 1 ie 25 = 2 from rfl]; kernel_rfl)

set_option maxRecDepth 10000 in
theorem slice_some (w : World) (blk off n c bx : Nat) (d : Array CV) (hn : n ≤ 4096) (h2 : 2 ≤ n) (h : CSt w blk off n w d) (hb : blk < w.heap.size) (hc : w.cell? ⟨bx, 0, none⟩ = some (.slice (some ⟨blk, off, none⟩) n c)) (hne : bx ≠ blk) :
    Calls Tryz.prog 124 #[.iface 25 (.slice (some ⟨blk, off, none⟩) n c), .func (.func 125) #[] #[.pointer (some ⟨bx, 0, none⟩)]] w fun e w' => e = .returned (.tuple #[]) ∧ ∃ d', (Sort.PermIn 0 n d d' ∧ Sort.SortedIn ltC 0 n d') ∧ CSt w blk off n w' d' := by
  obtain ⟨i, ie, hi, hd, hie, hs, hby, hp⟩ := coin_infos
  have hk := swap9 n ie hby hp h2
  have hx : ∀ args W, (callFunc 196 args).run Tryz.prog W = ((Extern.ReflectliteSwapper.swap false args).run Tryz.prog W).andThen fun v w' => .ok (.value v) w' :=
    fun args W => run_callFunc_extern Tryz.func196 (by kernel_rfl) (by kernel_rfl) (by kernel_rfl) (e := Extern.ReflectliteSwapper.swap false) (by kernel_rfl) args W
  have hsw := swapSwapsK_of_literal (P := Tryz.prog) false 196 hx 88 ie hie encC 6 (fun _ => rfl) hs (fun _ => by kernel_rfl) encC_one blk off n c
  have H := sr_coins w blk off n c bx 196 _ hn hb hc hne hsw
  refine Any.sort_Slice_of_pdq Tryz.laysGg6 25 88 i ie hi hd (by kernel_rfl) hie 25 (fun _ => by kernel_rfl) (some ⟨blk, off, none⟩) n c (by omega) 196 (by rw [hk]; kernel_rfl) (.func 125) #[] #[.pointer (some ⟨bx, 0, none⟩)] w (fun w' => ∃ d', (Sort.PermIn 0 n d d' ∧ Sort.SortedIn ltC 0 n d') ∧ CSt w blk off n w' d') ?_
  have hB : sliceBound Tryz.prog 88 ie 25 (some ⟨blk, off, none⟩) n c = #[.slice (some ⟨blk, off, none⟩) n c, typeHandle Tryz.prog 88] := by
    unfold sliceBound
    rw [if_neg (by rw [hk]; decide)]
  rw [hB]
  have hst : CSt w blk off n (sliceWorld Tryz.prog Tryz.laysGg6_ren 25 (some ⟨blk, off, none⟩) n c w) d := by
    unfold sliceWorld
    exact (h.later (bel_new _ _)).later (bel_new _ _)
  have hlim : Lib.bitLen n ≤ 62 := Lib.bitLen_le n 62 (by omega) (by omega)
  refine (pdq_is H (shuf_break w blk off n _ _ _ _ hn hb hsw) (shuf_rev w blk off n _ _ _ _ hn hb hsw) n 0 n (Lib.bitLen n) d _ hst (Nat.zero_le _) (Nat.le_refl _) (by omega) (by omega) (Or.inl rfl)).mono ?_
  rintro e w' ⟨rfl, d', hq, hS, _⟩
  exact ⟨rfl, d', hq, hS⟩

end Go.Proofs.YtepmnpapdknocaaGreatDoor
