/- The reference's sorted: the same coins, none ahead of one that stands before it. -/
import Derived.Test.YtepmnpapdknocaaGreatDoorSortCoinB
namespace Go.Proofs.YtepmnpapdknocaaGreatDoor
open Go.RowKit Go.Lib

/-- None is ahead of one before it. -/
def Wk (L : List CoinD) : Prop := L.Pairwise fun x y => lt (pt y) (pt x) = false

theorem wk_short : ∀ (L : List CoinD), L.length ≤ 1 → Wk L
  | [], _ => List.Pairwise.nil
  | [_], _ => List.pairwise_singleton _ _
  | _ :: _ :: _, h => absurd h (by simp)
theorem arr_at (K : List CV) (i : Nat) (h : i < K.length) : K.toArray[i]! = K[i] := by
  rw [getElem!_pos K.toArray i (by simpa using h)]
  simp
theorem holds_of_own {w : World} {base g cap : Nat} {K : List CV} (h : w.ownsRow base 88 6 (.slice (some ⟨g, 0, none⟩) K.length cap) K.length (flatC K)) : Sort.HoldsK encC 6 w g 0 K.toArray := by
  intro j hj
  rw [Sort.size_flatK, List.size_toArray] at hj
  have hf : w.frozen? ⟨g, 0 + j, none⟩ = false := by
    rcases h.2 with ⟨e, _⟩ | ⟨g', cap', cur, e, _, hh, _⟩
    · cases e
    · cases e
      exact frozen_of hh _
  refine ⟨?_, hf⟩
  have hi : j / 6 < K.length := by omega
  rw [Nat.zero_add, World.ownsRow.cellAt h j hj, id, Sort.get_flatK encC 6 K.toArray j (by simpa using hj), arr_at K (j / 6) hi]
  obtain ⟨f0, f1, f2, f3, f4, f5⟩ := flatC_at K (j / 6) hi
  have hr : j % 6 < 6 := Nat.mod_lt _ (by decide)
  have e : j = j / 6 * 6 + j % 6 := by omega
  generalize j / 6 = i at *
  generalize j % 6 = r at *
  subst e
  match r, hr with
  | 0, _ => exact f0
  | 1, _ => exact f1
  | 2, _ => exact f2
  | 3, _ => exact f3
  | 4, _ => exact f4
  | 5, _ => exact f5

theorem coins_of_holds {w : World} {g : Nat} {d : Array CV} (h : Sort.HoldsK encC 6 w g 0 d) (hg : g < w.heap.size) (hl : ∀ x ∈ d.toList, LkAt w x) : CoinsAt w (some ⟨g, 0, none⟩) d.size (d.toList.map (·.1)) := by
  refine ⟨by simp, fun _ => ⟨g, 0, rfl, hg, fun i hi => ?_⟩⟩
  rw [List.length_map, Array.length_toList] at hi
  have e : d[i]! = d.toList[i]'(by simpa using hi) := by
    rw [getElem!_pos d i hi]
    simp
  have cell := fun u hu => (Sort.HoldsK.cell (i := i) (c := u) h hi hu).1
  rw [e] at cell
  rw [List.getElem_map]
  generalize hx : d.toList[i]'(by simpa using hi) = x at *
  have hm : x ∈ d.toList := hx ▸ List.getElem_mem _
  exact ⟨cell 0 (by decide), cell 1 (by decide), cell 2 (by decide), ⟨_, _, _, cell 3 (by decide), (hl x hm).1, (hl x hm).2⟩, cell 4 (by decide), cell 5 (by decide)⟩

theorem perm_of {n : Nat} {d d' : Array CV} (h : Sort.PermIn 0 n d d') (hn : d.size = n) : d'.toList.Perm d.toList := by
  have h1 := h.2.2
  have hn' : d'.size = n := h.1.trans hn
  rw [show d.extract 0 n = d by rw [← hn]; simp, show d'.extract 0 n = d' by rw [← hn']; simp] at h1
  exact h1
theorem wk_of {n : Nat} {d : Array CV} (h : Sort.SortedIn ltC 0 n d) (hn : d.size = n) : Wk (d.toList.map (·.1)) := by
  unfold Wk
  rw [List.pairwise_map, List.pairwise_iff_getElem]
  intro i j hi hj hij
  rw [Array.length_toList] at hi hj
  have q := h i j (Nat.zero_le _) hij (by omega)
  rw [getElem!_pos d i hi, getElem!_pos d j hj] at q
  simpa [ltC] using q

theorem slice_res (w w3 : World) (bx B : Nat) (p : Option Addr) (n cap : Nat) (K : List CV) (hn : n ≤ 4096) (hk : K.length = n) (ho : w3.ownsRow B 88 6 (.slice p n cap) n (flatC K)) (hl : ∀ x ∈ K, LkAt w x) (hb : Below w.heap.size w w3) (hB : w.heap.size ≤ B)
    (hc : w3.cell? ⟨bx, 0, none⟩ = some (.slice p n cap)) (hbx : bx < B) :
    Calls Tryz.prog 124 #[.iface 25 (.slice p n cap), .func (.func 125) #[] #[.pointer (some ⟨bx, 0, none⟩)]] w3 fun e w' => e = .returned (.tuple #[]) ∧ ∃ L', CoinsAt w' p n L' ∧ SlOk p n cap ∧ L'.Perm (K.map (·.1)) ∧ Wk L' ∧ w'.cell? ⟨bx, 0, none⟩ = some (.slice p n cap) ∧ Below w.heap.size w w' := by
  subst hk
  have hl3 : ∀ x ∈ K, LkAt w3 x := fun x hx => (hl x hx).later hb
  obtain ⟨a', c', e, hco, hso⟩ := coins_of_own ho hl3
  obtain ⟨rfl, rfl⟩ : p = a' ∧ cap = c' := by injection e with e1 e2 e3; exact ⟨e1, e3⟩
  by_cases h2 : K.length ≤ 1
  · refine (slice_none w3 p K.length cap h2 _ _ _).mono ?_
    rintro e w' ⟨rfl, hb'⟩
    exact ⟨rfl, K.map (·.1), hco.later hb', hso, List.Perm.refl _, wk_short _ (by rw [List.length_map]; exact h2), cell_later hb' hc, bel_on hb hb'⟩
  · obtain ⟨g, rfl, hg⟩ : ∃ g, p = some ⟨g, 0, none⟩ ∧ B ≤ g := by
      rcases ho.2 with ⟨e, q⟩ | ⟨g, cap', cur, e, q, _⟩
      · omega
      · exact ⟨g, by injection e, q⟩
    have hgl : g < w3.heap.size := (ho.lt g rfl).2
    have hst : CSt w3 g 0 K.length w3 K.toArray := ⟨holds_of_own ho, by simp, Gr.refl _ _⟩
    refine (slice_some w3 g 0 K.length cap bx K.toArray hn (by omega) hst hgl hc (by omega)).mono ?_
    rintro e w' ⟨rfl, d', ⟨hp, hs⟩, hS⟩
    have hbw : Below w.heap.size w w' := hS.gr.below hb hb.size (fun k e => by omega)
    have hpl := perm_of hp (by simp)
    have hd : d'.size = K.length := hS.len
    refine ⟨rfl, d'.toList.map (·.1), ?_, hso, (hpl.map (·.1)), wk_of hs hd, ?_, hbw⟩
    · rw [← hd]
      exact coins_of_holds hS.holds (Nat.lt_of_lt_of_le hgl hS.gr.size) (fun x hx => (hl x (by simpa using (hpl.mem_iff.1 hx))).later hbw)
    · have e := hS.gr.block bx (World.block_lt_of_cell? _ _ hc) (by omega)
      simp only [World.cell?] at hc ⊢
      rw [e]
      exact hc

/-- Clone in a later world: the locks' heads are those of the first. -/
theorem cloneCoin_in (a : Option Addr) (n c : Nat) (L : List CoinD) (w X : World) (hb : Below w.heap.size w X) (hn : n ≤ 4096) (h : CoinsAt w a n L) (hs : SlOk a n c) :
    Calls Tryz.prog 84 #[.slice a n c] X fun e w' => ∃ v, ∃ K : List CV, e = .returned v ∧ K.map (·.1) = L ∧ (∀ x ∈ K, LkAt w x) ∧ w'.ownsRow X.heap.size 88 6 v K.length (flatC K) ∧ Below X.heap.size X w' := by
  obtain ⟨hl, hc⟩ := h
  cases a with
  | none =>
    obtain ⟨rfl, rfl⟩ := hs.2.2 rfl
    have e : L = [] := List.length_eq_zero_iff.1 hl
    subst e
    exact (cloneCoin_nil X).mono fun e w' ⟨x, y⟩ => ⟨_, [], x, rfl, fun _ hx => (by cases hx), y ▸ ⟨rfl, .inl ⟨rfl, rfl⟩⟩, y ▸ Below.refl _ _⟩
  | some ad =>
    by_cases h0 : n = 0
    · subst h0
      have e : L = [] := List.length_eq_zero_iff.1 hl
      subst e
      exact (cloneCoin_some ad 0 c [] X hn rfl (fun j u hj => by simp [flatC] at hj)).mono fun e w' ⟨v, x, y, z⟩ => ⟨v, [], x, rfl, fun _ hx => (by cases hx), y, z⟩
    · obtain ⟨b, off, e, _, hcell⟩ := hc (by omega)
      obtain ⟨rfl⟩ := e
      obtain ⟨K, h1, h2, h3⟩ := heads_of hcell
      have hk : K.length = n := by rw [← hl, ← h1, List.length_map]
      exact (cloneCoin_some ⟨b, off, none⟩ n c K X hn hk (fun j u hj => by rw [Addr.add_lit]; exact cell_later hb (h3 j u hj))).mono fun e w' ⟨v, x, y, z⟩ => ⟨v, K, x, h1, h2, by rw [hk]; exact y, z⟩

set_option maxRecDepth 10000 in
set_option maxHeartbeats 1600000 in
theorem sorted_any (a : Option Addr) (n c : Nat) (L : List CoinD) (w : World) (hn : n ≤ 4096) (h : CoinsAt w a n L) (hs : SlOk a n c) :
    Calls Tryz.prog 88 #[.slice a n c] w fun e w' => ∃ a' c' L', e = .returned (.slice a' n c') ∧ CoinsAt w' a' n L' ∧ SlOk a' n c' ∧ L'.Perm L ∧ Wk L' ∧ Below w.heap.size w w' := by
  have hbX := bel_new w (.cells #[.slice a n c] 25)
  have hX := heap_alloc_new w (.cells #[.slice a n c] 25)
  have C := hide (cloneCoin_in a n c L w _ hbX hn h hs)
  have hLn : L.length = n := h.1
  have HBX := hide hbX
  have HX := hide hX
  have HL := hide hLn
  clear h hs hbX hX hLn
  go_enter Tryz.func88, Tryz.ntmps88
  go_wp2_with fail
  refine (unhide C).mono ?_
  rintro e w2 ⟨v, K, rfl, hKL, hlk, ho, hb2⟩
  obtain ⟨p, cap, rfl, hpc⟩ : ∃ p cap, v = .slice p K.length cap ∧ True := by
    rcases ho.2 with ⟨rfl, q⟩ | ⟨g, cap, cur, rfl, _⟩
    · exact ⟨none, 0, by rw [q], trivial⟩
    · exact ⟨_, cap, rfl, trivial⟩
  have hkn : K.length = n := by rw [← unhide HL, ← hKL, List.length_map]
  rw [hkn] at ho ⊢
  have hx2 := (hb2.block _ (lt_of_block (unhide HX))).trans (unhide HX)
  have xl := lt_of_block hx2
  have xf := frozen_of hx2 0
  have xc := cell_of hx2 0 _ rfl
  obtain ⟨w3, hw3⟩ : ∃ w3, w3 = w2.setCell ⟨w.heap.size, 0, none⟩ (.slice p n cap) := ⟨_, rfl⟩
  have hc3 : w3.cell? ⟨w.heap.size, 0, none⟩ = some (.slice p n cap) := by rw [hw3]; exact World.cell?_setCell_same _ _ _ xc
  have hg3 : Gr w2 w3 (fun k => k = w.heap.size) := by rw [hw3]; exact (Gr.refl w2 (fun k => k = w.heap.size)).set (p := ⟨w.heap.size, 0, none⟩) (.inl rfl) _
  have hs1 : (w.alloc (.cells #[.slice a n c] 25)).heap.size = w.heap.size + 1 := by simp
  have ho3 := hg3.own ho (fun k hk => by have := own_lo ho k hk; omega)
  have hb3 : Below w.heap.size w w3 := hg3.below (bel_on (unhide HBX) hb2) (bel_on (unhide HBX) hb2).size (fun k e => by omega)
  have CS := hide (slice_res w w3 w.heap.size (w.heap.size + 1) p n cap K hn hkn (by rw [← hs1]; exact ho3) hlk hb3 (by omega) hc3 (by omega))
  have hKL2 := hide hKL
  have l3 : w.heap.size < w3.heap.size := World.block_lt_of_cell? _ _ hc3
  clear ho hlk hb2 hx2 hg3 ho3 hb3 hKL
  go_wp2_with fail
  rw [← hw3]
  go_wp2_with fail
  refine (unhide CS).mono ?_
  rintro e w4 ⟨rfl, L', hco, hso, hpm, hwk, hc4, hb4⟩
  have R1 := hide hco
  have R2 := hide hpm
  have R3 := hide hwk
  have R4 := hide hb4
  clear hco hpm hwk hb4
  go_wp2
  go_ret
  exact ⟨p, cap, L', rfl, unhide R1, hso, by rw [← unhide hKL2]; exact unhide R2, unhide R3, unhide R4⟩

end Go.Proofs.YtepmnpapdknocaaGreatDoor
