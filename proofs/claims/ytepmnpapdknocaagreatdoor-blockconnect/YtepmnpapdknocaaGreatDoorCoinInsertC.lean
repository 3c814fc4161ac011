/- The contract of Insert of one coin ahead of others, where there is no room; and of Insert in all. -/
import Derived.Test.YtepmnpapdknocaaGreatDoorCoinInsertB
namespace Go.Proofs.YtepmnpapdknocaaGreatDoor
open Go.RowKit

theorem ins_new (X Y Z O : List Value) (i n C : Nat) (hi : i < n) (hC : n + 1 ≤ C) (hX : X.length = C * 6) (hO : X.take (i * 6) = O) (hY : Y.length = 6) (hZ : Z.length = (n - i) * 6) :
    (laid (laid X (i * 6) Y) ((i + 1) * 6) Z).take ((n + 1) * 6) = O ++ (Y ++ Z) := by
  have e2 : (laid X (i * 6) Y).take ((i + 1) * 6) = O ++ Y := by
    unfold laid
    rw [List.take_append_of_le_length (by simp; omega), List.take_of_length_le (by simp; omega), hO]
  rw [show laid (laid X (i * 6) Y) ((i + 1) * 6) Z = O ++ Y ++ Z ++ (laid X (i * 6) Y).drop ((i + 1) * 6 + Z.length) by rw [← e2]; rfl]
  have hOl : O.length = i * 6 := by rw [← hO, List.length_take]; omega
  rw [List.take_append_of_le_length (by simp; omega), List.take_of_length_le (by simp; omega), List.append_assoc]

set_option maxRecDepth 10000 in
set_option maxHeartbeats 3200000 in
theorem insertCoin_grow (base g n c i vb : Nat) (K : List CV) (y : CV) (w : World) (hi : i < n) (hn : n ≤ 4096) (hroom : c < n + 1) (hz : K.length = n) (h : w.ownsRow base 88 6 (.slice (some ⟨g, 0, none⟩) n c) n (flatC K)) (hv : w.heap[vb]? = some (.cells (flatC [y]).toArray 88 (0, 0))) :
    Calls Tryz.prog 144 #[.slice (some ⟨g, 0, none⟩) n c, .int .i64 i, .slice (some ⟨vb, 0, none⟩) 1 1] w fun e w' => ∃ v', e = .returned v' ∧ w'.ownsRow w.heap.size 88 6 v' (n + 1) (flatC (K.take i ++ y :: K.drop i)) ∧ w.grownBy w' none := by
  obtain ⟨i0, hi0, hz0, hz1, hz2⟩ := info_parts Tryz.infoCoin
  obtain ⟨hlen, h | ⟨g', c', cur, hv', hbg, hh, h1, h2, h3, h4⟩⟩ := h
  · cases h.1
  simp only [Value.slice.injEq, Option.some.injEq, Addr.mk.injEq, and_true, true_and] at hv'
  obtain ⟨rfl, rfl⟩ := hv'
  unfold maxLen at h2
  have hcur : cur.toList.length = c * 6 := by simpa using h3
  have hsz : (Tryz.prog.info? 88).map (·.size) = some 6 := by rw [hi0]; simp [hz1]
  have hlt : g < w.heap.size := lt_of_block hh
  have hltv : vb < w.heap.size := lt_of_block hv
  obtain ⟨k, hk⟩ : ∃ k, k = n + 1 - i := ⟨_, rfl⟩
  have hik : i + k = n + 1 := by omega
  obtain ⟨O, hO⟩ : ∃ O, O = flatC (K.take i) := ⟨_, rfl⟩
  have hOl : O.length = i * 6 := by rw [hO, flatC_len, List.length_take]; omega
  have hcell : ∀ j u, (flatC K)[j]? = some u → w.cell? ⟨g, j, none⟩ = some u := fun j u hj => by
    have hjl : j < n * 6 := by rw [← hlen]; exact (List.getElem?_eq_some_iff.1 hj).1
    rw [← h4, List.getElem?_take_of_lt hjl] at hj
    simp only [World.cell?, hh]
    simpa using hj
  obtain ⟨C, hC⟩ : ∃ C, C = grownCap w (i + k) c 88 := ⟨_, rfl⟩
  have hCge : n + 1 ≤ C := by rw [hC, ← hik]; exact grownCap_ge w (i + k) c 88
  have hCle : C ≤ maxLen := by rw [hC]; exact grownCap_le_maxLen w (i + k) c 88 (by unfold maxLen; omega)
  obtain ⟨X, hX⟩ : ∃ X, X = (O.toArray ++ Builtin.zeroCells zeroC.cells k ++ Builtin.zeroCells zeroC.cells (C - (i + k))) := ⟨_, rfl⟩
  have hXs : X.size = C * 6 := by
    rw [hX]
    have : zeroC.cells.size = 6 := rfl
    simp only [Array.size_append, List.size_toArray, size_zeroCells, this, hOl]
    omega
  have hXl : X.toList.length = C * 6 := by simpa using hXs
  have hXO : X.toList.take (i * 6) = O := by
    rw [hX, ← hOl]
    simp
  obtain ⟨W0, hW0⟩ : ∃ W0, W0 = w.drew.alloc (.cells X 88) := ⟨_, rfl⟩
  have hap : ∀ ty, (Builtin.append_ #[25, 3] ty #[.slice (some ⟨g, 0, none⟩) i c, .int .i64 k]).run Tryz.prog w = .ok (.slice (some ⟨w.heap.size, 0, none⟩) (n + 1) C) W0 := fun ty => by
    have := Lib.run_append_grow_zeros (P := Tryz.prog) w 25 3 ty 88 i0 zeroC .i64 .i64 Tryz.underlying25 Tryz.underlying3 hi0 hz0 (some ⟨g, 0, none⟩) i c O
      (run_firstCells_some (P := Tryz.prog) w.drew i0.size i ⟨g, 0, none⟩ i c O (by rw [hOl, hz1]) (fun j u hj => by
        rw [Addr.add_lit, Nat.zero_add]
        have hjl : j < i * 6 := by rw [← hOl]; exact (List.getElem?_eq_some_iff.1 hj).1
        rw [hO, ← flatC_take, List.getElem?_take_of_lt hjl] at hj
        exact hcell j u hj))
      k (by omega) (by rw [hz1]; decide) (by omega) (by omega) (by rw [hz2]; omega) (growslice_fits (by omega) (by rw [hz2]; omega))
    rw [this, hW0, hX, hC, hik]
  have hh0 : W0.heap[w.heap.size]? = some (.cells X 88 (0, 0)) := by rw [hW0]; exact heap_alloc_new w.drew _
  obtain ⟨W1, hW1⟩ : ∃ W1, W1 = W0.setRow w.heap.size (laid X.toList (i * 6) (flatC [y])).toArray := ⟨_, rfl⟩
  have hh1 : W1.heap[w.heap.size]? = some (.cells (laid X.toList (i * 6) (flatC [y])).toArray 88 (0, 0)) := by rw [hW1]; exact setRow_heap W0 _ _ _ 88 (0, 0) hh0
  have hl1 : (laid X.toList (i * 6) (flatC [y])).length = C * 6 := by rw [laid_len _ _ _ (by rw [hXl, flatC_single]; omega), hXl]
  have hm : Nat.min 1 (n + 1 - i) = 1 := by simp only [Nat.min_def]; split <;> omega
  have hm2 : Nat.min (n - i) (n - i) = n - i := by simp only [Nat.min_def]; split <;> omega
  have hcp1 : ∀ ty dc, (Builtin.copy_ #[25, 25] ty #[.slice (some ⟨w.heap.size, i * 6, none⟩) (n + 1 - i) dc, .slice (some ⟨vb, 0, none⟩) 1 1]).run Tryz.prog W0 = .ok (goInt 1) W1 := fun ty dc => by
    have hv1 : W0.heap[vb]? = some (.cells (flatC [y]).toArray 88 (0, 0)) := by rw [hW0, Below.heap_alloc w.drew _ vb hltv]; exact hv
    have := run_copy_wide (P := Tryz.prog) W0 25 25 ty 88 w.heap.size (i * 6) (n + 1 - i) dc ⟨vb, 0, none⟩ 1 1 6 X 88 (flatC [y]) Tryz.underlying25 hsz hh0 (by rw [flatC_single, hm])
      (fun j u hj => by rw [Addr.add_lit, Nat.zero_add]; exact insert_cell hv1 j u hj) (by rw [flatC_single, hXs]; omega) (flatC_one [y])
    rw [this, hm, hW1]
    rfl
  obtain ⟨Z, hZ⟩ : ∃ Z, Z = flatC (K.drop i) := ⟨_, rfl⟩
  have hZl : Z.length = (n - i) * 6 := by rw [hZ, flatC_len, List.length_drop, hz]
  obtain ⟨W2, hW2⟩ : ∃ W2, W2 = W1.drew.setRow w.heap.size (laid (laid X.toList (i * 6) (flatC [y])) ((i + 1) * 6) Z).toArray := ⟨_, rfl⟩
  have hcp2 : ∀ ty dc sc, (Builtin.copy_ #[25, 25] ty #[.slice (some ⟨w.heap.size, (i + 1) * 6, none⟩) (n - i) dc, .slice (some ⟨g, i * 6, none⟩) (n - i) sc]).run Tryz.prog W1.drew = .ok (goInt ((n - i : Nat) : Int)) W2 := fun ty dc sc => by
    have := run_copy_wide (P := Tryz.prog) W1.drew 25 25 ty 88 w.heap.size ((i + 1) * 6) (n - i) dc ⟨g, i * 6, none⟩ (n - i) sc 6 (laid X.toList (i * 6) (flatC [y])).toArray 88 Z Tryz.underlying25 hsz hh1 (by rw [hZl, hm2])
      (fun j u hj => by
        rw [Addr.add_lit]
        show W1.cell? _ = _
        have hb1 : W1.heap[g]? = w.heap[g]? := by rw [hW1, setRow_other _ _ _ _ (by omega), hW0, Below.heap_alloc w.drew _ g hlt]; rfl
        rw [World.cell?_of_block (a := ⟨g, i * 6 + j, none⟩) hb1]
        exact hcell _ u (by rw [hZ, ← flatC_drop, List.getElem?_drop] at hj; exact hj)) (by rw [hZl, List.size_toArray, hl1]; omega) (fun u hu => flatC_one _ u (by rw [hZ] at hu; exact hu))
    rw [this, hm2, hW2]
  have R : Hid (W2.ownsRow w.heap.size 88 6 (.slice (some ⟨w.heap.size, 0, none⟩) (n + 1) C) (n + 1) (flatC (K.take i ++ y :: K.drop i))) := by
    refine ⟨by rw [flatC_len]; simp; omega, .inr ⟨w.heap.size, C, (laid (laid X.toList (i * 6) (flatC [y])) ((i + 1) * 6) Z).toArray, rfl, Nat.le_refl _, by rw [hW2]; exact setRow_heap W1.drew _ _ _ 88 (0, 0) hh1, hCge, hCle, ?_, ?_⟩⟩
    · rw [List.size_toArray, laid_len _ _ _ (by rw [hl1, hZl]; omega), hl1]
    · show List.take _ (laid _ _ _) = _
      rw [ins_new X.toList (flatC [y]) Z O i n C hi hCge hXl hXO (flatC_single y) hZl, flatC_mid, flatC_take, flatC_drop, hO, hZ]
  have G : Hid (w.grownBy W2 none) := by
    refine ⟨by rw [hW2, hW1, hW0]; rfl, by rw [hW2, hW1, hW0]; rfl, by rw [hW2, hW1, hW0]; rfl, by rw [hW2, hW1, hW0]; simp [World.setRow], fun q hq _ => ?_⟩
    rw [hW2, setRow_other _ _ _ _ (by omega)]
    show W1.heap[q]? = _
    rw [hW1, setRow_other _ _ _ _ (by omega), hW0, Below.heap_alloc w.drew _ q hq]
    rfl
  have hin : i ≤ n := by omega
  have hic : i ≤ c := by omega
  have h9 : ¬ ((i : Int) = (n : Int)) := by omega
  have hb0 : (0 : Int) ≤ (i : Int) + 1 := by omega
  have hb2 : ¬ (C = i + 1) := by omega
  have hb4 : ¬ (C = i) := by omega
  have hb8 : ¬ (c = i) := by omega
  have hw1 : IntKind.i64.wrap ((i : Int) + 1) = (i : Int) + 1 := by rw [IntKind.wrap_i64]; omega
  have hw2 : IntKind.i64.wrap ((n : Int) + 1) = (n : Int) + 1 := by rw [IntKind.wrap_i64]; omega
  have hw3 : IntKind.i64.wrap ((n : Int) + 1 - (i : Int)) = (k : Int) := by rw [IntKind.wrap_i64]; omega
  have htn : ((i : Int) + 1).toNat = i + 1 := by omega
  have hb5 : (i : Int) + 1 ≤ (n : Int) + 1 := by omega
  have hb3 : (i : Int) ≤ (n : Int) + 1 := by omega
  have hb7 : (c : Int) < (n : Int) + 1 := by omega
  have HAP := hide hap
  clear hap hW0 hW1 hW2 hh0 hh1 hl1 hh h3 h4 hlen hcur hz hv hZ hZl hX hXs hXl hXO hO hOl hC hcell hk
  go_enter Tryz.func144, Tryz.ntmps144
  go_wp2_with (at_builtin; refine wpList_append_known _ rfl _ _ 25 3 rfl _ _ rfl rfl ((unhide HAP) _) ?_)
  go_wp2
  go_region
  go_wp2
  go_ret
  exact ⟨_, rfl, unhide R, unhide G⟩

theorem own_weak {w : World} {base base' : Nat} {e : TypeId} {size : Nat} {v : Value} {n : Nat} {xs : List Value} (h : w.ownsRow base' e size v n xs) (hb : base ≤ base') : w.ownsRow base e size v n xs := by
  obtain ⟨hl, h0 | ⟨g, cap, cur, hv, hg, r⟩⟩ := h
  · exact ⟨hl, .inl h0⟩
  · exact ⟨hl, .inr ⟨g, cap, cur, hv, Nat.le_trans hb hg, r⟩⟩
theorem grown_any {w w' : World} {row : Option Nat} (h : w.grownBy w' none) : w.grownBy w' row := ⟨h.os, h.tape, h.output, h.size, fun k hk _ => h.block k hk (by simp)⟩

theorem insertCoin_any (base : Nat) (a : Option Addr) (n c i vb : Nat) (K : List CV) (y : CV) (w : World) (hi : i ≤ n) (hn : n ≤ 4096) (hz : K.length = n) (hbase : base ≤ w.heap.size) (h : w.ownsRow base 88 6 (.slice a n c) n (flatC K)) (hv : w.heap[vb]? = some (.cells (flatC [y]).toArray 88 (0, 0)))
    (hne : (Value.slice a n c).ownBlock ≠ some vb) :
    Calls Tryz.prog 144 #[.slice a n c, .int .i64 i, .slice (some ⟨vb, 0, none⟩) 1 1] w fun e w' => ∃ v', e = .returned v' ∧ w'.ownsRow base 88 6 v' (n + 1) (flatC (K.take i ++ y :: K.drop i)) ∧ w.grownBy w' (Value.slice a n c).ownBlock ∧ (v'.ownBlock = (Value.slice a n c).ownBlock ∨ ∀ k, v'.ownBlock = some k → w.heap.size ≤ k) := by
  have hO := h
  rcases h.2 with ⟨e, h0⟩ | ⟨g, c', cur, hv', hbg, hh, h1, h2, h3, h4⟩
  · simp only [Value.slice.injEq] at e
    obtain ⟨rfl, rfl, rfl⟩ := e
    obtain rfl : i = 0 := by omega
    have eK : K = [] := List.length_eq_zero_iff.1 hz
    subst eK
    refine (insertCoin_endgrow none 0 0 vb [] y w hn (Nat.le_refl _) (by omega) rfl (fun _ => ⟨rfl, rfl⟩) (fun b hb => by cases hb) hv).mono ?_
    rintro e w' ⟨v', rfl, x, z⟩
    exact ⟨v', rfl, own_weak x hbase, grown_any z, .inr fun k hk => own_lo x k hk⟩
  · simp only [Value.slice.injEq] at hv'
    obtain ⟨rfl, _, rfl⟩ := hv'
    have hgv : vb ≠ g := fun e => hne (by rw [e]; rfl)
    by_cases hin : i = n
    · subst hin
      by_cases hr : i + 1 ≤ c
      · refine (insertCoin_end base g i c vb K y w hr hz hO hv).mono ?_
        rintro e w' ⟨rfl, x, z⟩
        exact ⟨_, rfl, by rw [← hz, List.take_length, List.drop_length, hz]; exact x, z, .inl rfl⟩
      · refine (insertCoin_endgrow (some ⟨g, 0, none⟩) i c vb K y w hn h1 (by omega) hz (fun e => by cases e) (fun b hb j u hj => ?_) hv).mono ?_
        · cases hb
          rw [Addr.add_lit, Nat.zero_add]
          have hjl : j < i * 6 := by rw [← hO.1]; exact (List.getElem?_eq_some_iff.1 hj).1
          rw [World.ownsRow.cellAt hO j hjl]; exact hj
        · rintro e w' ⟨v', rfl, x, z⟩
          exact ⟨v', rfl, by rw [← hz, List.take_length, List.drop_length, hz]; exact own_weak x hbase, grown_any z, .inr fun k hk => own_lo x k hk⟩
    · by_cases hr : n + 1 ≤ c
      · refine (insertCoin_shift base g n c i vb K y w (by omega) hr hz hO hv hgv).mono ?_
        rintro e w' ⟨rfl, x, z⟩
        exact ⟨_, rfl, x, z, .inl rfl⟩
      · refine (insertCoin_grow base g n c i vb K y w (by omega) hn (by omega) hz hO hv).mono ?_
        rintro e w' ⟨v', rfl, x, z⟩
        exact ⟨v', rfl, own_weak x hbase, grown_any z, .inr fun k hk => own_lo x k hk⟩

end Go.Proofs.YtepmnpapdknocaaGreatDoor
