/- Clone and the reference's sorted at a row that the call has made: what is answered stays as it is where elder boxes turn. -/
import Derived.Test.YtepmnpapdknocaaGreatDoorSortCoinC
namespace Go.Proofs.YtepmnpapdknocaaGreatDoor
open Go.RowKit Go.Lib

theorem cloneCoin_own {base : Nat} (v : Value) (K : List CV) (X : World) (hn : K.length ≤ 4096) (ho : X.ownsRow base 88 6 v K.length (flatC K)) :
    Calls Tryz.prog 84 #[v] X fun e w' => ∃ v', e = .returned v' ∧ w'.ownsRow X.heap.size 88 6 v' K.length (flatC K) ∧ Below X.heap.size X w' := by
  have ho' := ho
  rcases ho.2 with ⟨rfl, hk⟩ | ⟨g, cap, cur, rfl, hg, hh, r⟩
  · have e : K = [] := List.length_eq_zero_iff.1 hk
    subst e
    exact (cloneCoin_nil X).mono fun e w' ⟨x, y⟩ => ⟨_, x, y ▸ ⟨rfl, .inl ⟨rfl, rfl⟩⟩, y ▸ Below.refl _ _⟩
  · refine (cloneCoin_some ⟨g, 0, none⟩ K.length cap K X hn rfl (fun j u hj => ?_)).mono fun e w' ⟨v, x, y, z⟩ => ⟨v, x, y, z⟩
    have hi : j < K.length * 6 := by
      have := (List.getElem?_eq_some_iff.1 hj).1
      rwa [flatC_len] at this
    rw [Addr.add_lit, Nat.zero_add, World.ownsRow.cellAt ho' j (by omega)]
    exact hj

theorem holds_gr {w w2 : World} {g : Nat} {d : Array CV} (h : Sort.HoldsK encC 6 w g 0 d) (e : w2.heap[g]? = w.heap[g]?) : Sort.HoldsK encC 6 w2 g 0 d := by
  intro j hj
  obtain ⟨h1, h2⟩ := h j hj
  refine ⟨?_, ?_⟩
  · simp only [World.cell?] at h1 ⊢
    rw [e]
    exact h1
  · simp only [World.frozen?] at h2 ⊢
    rw [e]
    exact h2

/-- What is answered, and that it stays where blocks between two sizes turn. -/
def Stay (w0 : World) (B : Nat) (w' : World) (p : Option Addr) (n : Nat) (L : List CoinD) : Prop := ∀ w2, Gr w' w2 (fun k => w0.heap.size ≤ k ∧ k < B) → CoinsAt w2 p n L

theorem slice_own (w0 w3 : World) (bx B : Nat) (p : Option Addr) (n cap : Nat) (K : List CV) (hn : n ≤ 4096) (hk : K.length = n) (ho : w3.ownsRow B 88 6 (.slice p n cap) n (flatC K)) (hl : ∀ x ∈ K, LkAt w0 x) (hb : Below w0.heap.size w0 w3) (hB : w0.heap.size ≤ B)
    (hc : w3.cell? ⟨bx, 0, none⟩ = some (.slice p n cap)) (hbx : bx < B) :
    Calls Tryz.prog 124 #[.iface 25 (.slice p n cap), .func (.func 125) #[] #[.pointer (some ⟨bx, 0, none⟩)]] w3 fun e w' => e = .returned (.tuple #[]) ∧ ∃ L', Stay w0 B w' p n L' ∧ SlOk p n cap ∧ L'.Perm (K.map (·.1)) ∧ Wk L' ∧ w'.cell? ⟨bx, 0, none⟩ = some (.slice p n cap) ∧ Gr w3 w' (fun k => B ≤ k) := by
  subst hk
  have hl3 : ∀ x ∈ K, LkAt w3 x := fun x hx => (hl x hx).later hb
  obtain ⟨a', c', e, hco, hso⟩ := coins_of_own ho hl3
  obtain ⟨rfl, rfl⟩ : p = a' ∧ cap = c' := by injection e with e1 e2 e3; exact ⟨e1, e3⟩
  by_cases h2 : K.length ≤ 1
  · refine (slice_none w3 p K.length cap h2 _ _ _).mono ?_
    rintro e w' ⟨rfl, hb'⟩
    refine ⟨rfl, K.map (·.1), fun w2 hg => ?_, hso, List.Perm.refl _, wk_short _ (by rw [List.length_map]; exact h2), cell_later hb' hc, Gr.of hb'⟩
    have hb2 : Below w0.heap.size w0 w2 := hg.below (bel_on hb hb') (bel_on hb hb').size (fun k e => e.1)
    have ho' := hg.own ((Gr.of (S := fun _ => False) hb').own ho (fun _ _ q => q)) (fun k e q => by have := own_lo ho k e; omega)
    obtain ⟨a2, c2, e, hco2, _⟩ := coins_of_own ho' (fun x hx => (hl x hx).later hb2)
    obtain ⟨rfl, rfl⟩ : p = a2 ∧ cap = c2 := by injection e with e1 e2 e3; exact ⟨e1, e3⟩
    exact hco2
  · obtain ⟨g, rfl, hg⟩ : ∃ g, p = some ⟨g, 0, none⟩ ∧ B ≤ g := by
      rcases ho.2 with ⟨e, q⟩ | ⟨g, cap', cur, e, q, _⟩
      · omega
      · exact ⟨g, by injection e, q⟩
    have hgl : g < w3.heap.size := (ho.lt g rfl).2
    have hst : CSt w3 g 0 K.length w3 K.toArray := ⟨holds_of_own ho, by simp, Gr.refl _ _⟩
    refine (slice_some w3 g 0 K.length cap bx K.toArray hn (by omega) hst hgl hc (by omega)).mono ?_
    rintro e w' ⟨rfl, d', ⟨hp, hs⟩, hS⟩
    have hbw : Below w0.heap.size w0 w' := hS.gr.below hb hb.size (fun k e => by omega)
    have hpl := perm_of hp (by simp)
    have hd : d'.size = K.length := hS.len
    refine ⟨rfl, d'.toList.map (·.1), fun w2 hg2 => ?_, hso, (hpl.map (·.1)), wk_of hs hd, ?_, hS.gr.mono (fun k _ e => by omega)⟩
    · have hb2 : Below w0.heap.size w0 w2 := hg2.below hbw hbw.size (fun k e => e.1)
      have hgw : g < w'.heap.size := Nat.lt_of_lt_of_le hgl hS.gr.size
      rw [← hd]
      exact coins_of_holds (holds_gr hS.holds (hg2.block g hgw (fun q => by omega))) (Nat.lt_of_lt_of_le hgw hg2.size) (fun x hx => (hl x (by simpa using (hpl.mem_iff.1 hx))).later hb2)
    · have e := hS.gr.block bx (World.block_lt_of_cell? _ _ hc) (by omega)
      simp only [World.cell?] at hc ⊢
      rw [e]
      exact hc

set_option maxRecDepth 10000 in
set_option maxHeartbeats 1600000 in
theorem sorted_own {base : Nat} (a : Option Addr) (n c : Nat) (K : List CV) (w0 w : World) (hn : n ≤ 4096) (hk : K.length = n) (ho : w.ownsRow base 88 6 (.slice a n c) n (flatC K)) (hl : ∀ x ∈ K, LkAt w0 x) (hb : Below w0.heap.size w0 w) :
    Calls Tryz.prog 88 #[.slice a n c] w fun e w' => ∃ a' c' L', e = .returned (.slice a' n c') ∧ Stay w0 w.heap.size w' a' n L' ∧ SlOk a' n c' ∧ L'.Perm (K.map (·.1)) ∧ Wk L' ∧ Below w.heap.size w w' := by
  subst hk
  have hbX := bel_new w (.cells #[.slice a K.length c] 25)
  have hX := heap_alloc_new w (.cells #[.slice a K.length c] 25)
  have C := hide (cloneCoin_own (.slice a K.length c) K (w.alloc (.cells #[.slice a K.length c] 25)) hn ((Gr.of (S := fun _ => False) hbX).own ho (fun _ _ q => q)))
  obtain ⟨n, hkn⟩ : ∃ n, K.length = n := ⟨_, rfl⟩
  rw [hkn] at C hX hbX hn ⊢
  have HBX := hide hbX
  have HX := hide hX
  have HK := hide hkn
  have HL := hide hl
  have HB := hide hb
  clear ho hbX hX hkn hl hb
  go_enter Tryz.func88, Tryz.ntmps88
  go_wp2_with fail
  refine (unhide C).mono ?_
  rintro e w2 ⟨v, rfl, ho, hb2⟩
  obtain ⟨p, cap, rfl, hpc⟩ : ∃ p cap, v = .slice p n cap ∧ True := by
    rcases ho.2 with ⟨rfl, q⟩ | ⟨g, cap, cur, rfl, _⟩
    · exact ⟨none, 0, by rw [q], trivial⟩
    · exact ⟨_, cap, rfl, trivial⟩
  have hx2 := (hb2.block _ (lt_of_block (unhide HX))).trans (unhide HX)
  have xl := lt_of_block hx2
  have xf := frozen_of hx2 0
  have xc := cell_of hx2 0 _ rfl
  obtain ⟨w3, hw3⟩ : ∃ w3, w3 = w2.setCell ⟨w.heap.size, 0, none⟩ (.slice p n cap) := ⟨_, rfl⟩
  have hc3 : w3.cell? ⟨w.heap.size, 0, none⟩ = some (.slice p n cap) := by rw [hw3]; exact World.cell?_setCell_same _ _ _ xc
  have hg3 : Gr w2 w3 (fun k => k = w.heap.size) := by rw [hw3]; exact (Gr.refl w2 (fun k => k = w.heap.size)).set (p := ⟨w.heap.size, 0, none⟩) (.inl rfl) _
  have hs1 : (w.alloc (.cells #[.slice a n c] 25)).heap.size = w.heap.size + 1 := by simp
  have ho3 := hg3.own ho (fun k hk => by have := own_lo ho k hk; omega)
  have hbw3 : Below w.heap.size w w3 := hg3.below (bel_on (unhide HBX) hb2) (bel_on (unhide HBX) hb2).size (fun k e => by omega)
  have hb3 : Below w0.heap.size w0 w3 := bel_on (unhide HB) hbw3
  have CS := hide (slice_own w0 w3 w.heap.size (w.heap.size + 1) p n cap K hn (unhide HK) (by rw [← hs1]; exact ho3) (unhide HL) hb3 (Nat.le_succ_of_le (unhide HB).size) hc3 (by omega))
  have HBW3 := hide hbw3
  have l3 : w.heap.size < w3.heap.size := World.block_lt_of_cell? _ _ hc3
  clear ho hb2 hx2 hg3 ho3 hb3 hbw3
  go_wp2_with fail
  rw [← hw3]
  go_wp2_with fail
  refine (unhide CS).mono ?_
  rintro e w4 ⟨rfl, L', hco, hso, hpm, hwk, hc4, hg4⟩
  have R1 : Hid (Stay w0 w.heap.size w4 p n L') := fun w5 h5 => hco w5 (h5.mono (fun k _ q => ⟨q.1, by omega⟩))
  have R2 := hide hpm
  have R3 := hide hwk
  have R4 : Hid (Below w.heap.size w w4) := hg4.below (unhide HBW3) (unhide HBW3).size (fun k q => by omega)
  clear hco hpm hwk hg4
  go_wp2
  go_ret
  exact ⟨p, cap, L', rfl, unhide R1, hso, unhide R2, unhide R3, unhide R4⟩

end Go.Proofs.YtepmnpapdknocaaGreatDoor
