/- The contract of open. -/
import Derived.Test.YtmomfkikogbdeaaGreatDoorBookMathToBookAddW
import Derived.Test.YtmomfkikogbdeaaGreatDoorCoinInsertBToCoinGr
namespace Go.Proofs.YtmomfkikogbdeaaGreatDoor.Bk
open Go.RowKit Go.Maps

theorem make_sized (n : Int) (w : World) : (Instr.makeMap 241 (some (.int .i64 n))).run Tryz.prog w = .ok (.map (some w.heap.size)) (w.alloc (.map #[] 0)) := by kernel_rfl

/-- The writer of no texts. -/
theorem wr_new (w : World) (base : Nat) (hb : base ≤ w.heap.size) : Wr base (w.heap.size + 1) w.heap.size ((w.alloc (.map #[] 0)).alloc (.cells #[.slice none 0 0, .map (some w.heap.size)] 243)) (.slice none 0 0) (.map []) [] := by
  have e : (w.alloc (.map #[] 0)).heap.size = w.heap.size + 1 := by simp
  refine ⟨?_, by omega, hb, ⟨rfl, Or.inl ⟨rfl, rfl⟩⟩, ?_, ⟨[], rfl⟩, fun s => rfl⟩
  · have := heap_alloc_new (w.alloc (.map #[] 0)) (.cells #[.slice none 0 0, .map (some w.heap.size)] 243)
    rw [e] at this
    exact this
  · exact (World.ownsMap_made w Tryz.prog 9 (plainElem (H := Unit) Tryz.prog 3)).alloc _

set_option maxRecDepth 10000 in
set_option maxHeartbeats 3200000 in
theorem open_some (b off n c : Nat) (L : List ByteArray) (w : World) (hz : L.length = n) (h0 : 0 < n) (h1 : n ≤ 120) (hb : b < w.heap.size) (hc : ∀ i (h : i < L.length), w.cell? ⟨b, off + i, none⟩ = some (.string L[i])) (x : Int) (hx : bkGo [] L = x) :
    Calls Tryz.prog 133 #[.agg #[.slice (some ⟨b, off, none⟩) n c]] w fun e w' => ∃ v, e = .returned (.tuple #[v, .int .i64 x]) ∧ (x = 0 → ∃ p bm v' D', v = .pointer (some ⟨p, 0, none⟩) ∧ Wr w.heap.size p bm w' v' D' L) ∧ Below w.heap.size w w' := by
  have hb1 := bel_new w (.cells #[.slice (some ⟨b, off, none⟩) n c] 24)
  have hs1 : (w.alloc (.cells #[.slice (some ⟨b, off, none⟩) n c] 24)).heap.size = w.heap.size + 1 := by simp
  have W0 := wr_new (w.alloc (.cells #[.slice (some ⟨b, off, none⟩) n c] 24)) w.heap.size (by omega)
  rw [hs1] at W0
  obtain ⟨X, hX⟩ : ∃ X, X = ((w.alloc (.cells #[.slice (some ⟨b, off, none⟩) n c] 24)).alloc (.map #[] 0)).alloc (.cells #[.slice none 0 0, .map (some (w.heap.size + 1))] 243) := ⟨_, rfl⟩
  have hbX : Below w.heap.size w X := by
    rw [hX]
    exact bel_on (bel_on hb1 (bel_new _ _)) (bel_new _ _)
  have cX : X.cell? ⟨w.heap.size, 0, none⟩ = some (.slice (some ⟨b, off, none⟩) n c) := by
    rw [hX]
    exact cell_later (bel_on (bel_new _ _) (bel_new _ _)) (one_new w (.slice (some ⟨b, off, none⟩) n c) 24)
  rw [← hX] at W0
  have HW0 := hide W0
  have HBX := hide hbX
  have HC := hide hc
  have HZ := hide hz
  have HX := hide hx
  have hmm := make_sized
  have g : ¬ (120 : Int) < (n : Int) := by omega
  clear W0 hbX hc hz hx hb1 hs1
  go_enter Tryz.func133, Tryz.ntmps133
  go_wp2
  rw [← hX]
  clear hX
  go_loopw [20] (fun i wr => ∃ j : Nat, j ≤ n ∧ i = .int .i64 j ∧ Below w.heap.size w wr ∧ (∃ v D, Hid (Wr w.heap.size (w.heap.size + 2) (w.heap.size + 1) wr v D (L.take j))) ∧ Hid (bkGo (L.take j) (L.drop j) = x)) (fun i _ => n - (intOf i).toNat)
  case atStart => exact ⟨0, Nat.zero_le _, rfl, unhide HBX, ⟨_, _, HW0⟩, unhide HX⟩
  case round =>
    obtain ⟨j, hk, rfl, hbw, ⟨v, D, HW⟩, A⟩ := hrel
    have HB := hide hbw
    by_cases hlt : j < n
    · have hlj : j < L.length := by rw [unhide HZ]; exact hlt
      have f := (World.cell?_of_block (hbw.block b hb)).trans ((unhide HC) j hlj)
      have hlb : b < wr.heap.size := Nat.lt_of_lt_of_le hb hbw.size
      obtain ⟨c0, c1, cf⟩ := (unhide HW).cell0
      have S := bk_at hlj
      rw [unhide A] at S
      have hl1 : (L.take j).length = j := by rw [List.length_take]; omega
      have TK := hide (List.take_succ_eq_append_getElem hlj)
      obtain ⟨s, hs⟩ : ∃ s, L[j] = s := ⟨_, rfl⟩
      rw [hs] at f S TK
      clear hs hbw A
      by_cases h2 : 4000 < s.size
      · rw [if_pos h2] at S
        subst S
        have g2 : (4000 : Int) < (s.size : Int) := by omega
        clear h2
        go_wp2
        go_ret2
        first | exact ⟨_, rfl, fun h => absurd h (by decide), unhide HB⟩ | exact ⟨⟨_, rfl⟩, unhide HB⟩
      · rw [if_neg h2] at S
        have g2 : ¬ (4000 : Int) < (s.size : Int) := by omega
        have hz : s.size ≤ 4000 := by omega
        have hrun := (unhide HW).look s hz
        by_cases h3 : place s (L.take j) ≠ 0
        · rw [if_pos h3] at S
          subst S
          obtain ⟨q, hq⟩ : ∃ q, place s (L.take j) = q := ⟨_, rfl⟩
          rw [hq] at hrun h3
          have g3 : ((q : Int) != 0) = true := by simp; omega
          clear h2 h3 hq
          go_wp2
          go_ret2
          first | exact ⟨_, rfl, fun h => absurd h (by decide), unhide HB⟩ | exact ⟨⟨_, rfl⟩, unhide HB⟩
        · rw [if_neg h3] at S
          have h4 : place s (L.take j) = 0 := by omega
          rw [h4] at hrun
          have AD := hide (add_is w.heap.size (w.heap.size + 2) (w.heap.size + 1) v D (L.take j) s wr (unhide HW) (by omega) (place_zero.1 h4) hz)
          have HS : Hid (bkGo (L.take (j + 1)) (L.drop (j + 1)) = x) := S.symm
          clear h2 h3 h4 S
          go_wp2_with fail
          refine (unhide AD).mono ?_
          rintro e w2 ⟨rfl, hw2, hb2, hf2⟩
          have H2 := hide hw2
          have HB2 := hide ((unhide HB).trans hb2)
          clear hw2 hb2 hf2
          go_wp2
          go_roundw
          case rel =>
            obtain ⟨v', D', hw'⟩ := unhide H2
            exact ⟨j + 1, by omega, by go_num, unhide HB2, ⟨v', D', by rw [unhide TK]; exact hw'⟩, HS⟩
          case measure => simp [intOf]; omega
    · have R : Hid (x = 0) := by show _ = _; rw [← unhide A]; exact bk_end (by rw [unhide HZ]; omega)
      have HW2 : Hid (∃ v' D', Wr w.heap.size (w.heap.size + 2) (w.heap.size + 1) wr v' D' L) := ⟨v, D, by have := unhide HW; rw [List.take_of_length_le (by rw [unhide HZ]; omega)] at this; exact this⟩
      clear A hbw HW
      go_wp2
      go_ret2
      refine ⟨.pointer (some ⟨w.heap.size + 2, 0, none⟩), ?_, fun _ => ?_, unhide HB⟩
      · rw [unhide R]; rfl
      · obtain ⟨v', D', hw'⟩ := unhide HW2
        exact ⟨_, _, v', D', rfl, hw'⟩

set_option maxRecDepth 10000 in
set_option maxHeartbeats 1600000 in
theorem open_is (a : Option Addr) (n c : Nat) (L : List ByteArray) (w : World) (h : TextsAt w a n L) (x : Int) (hx : bkChk L = x) :
    Calls Tryz.prog 133 #[.agg #[.slice a n c]] w fun e w' => ∃ v, e = .returned (.tuple #[v, .int .i64 x]) ∧ (x = 0 → ∃ p bm v' D', v = .pointer (some ⟨p, 0, none⟩) ∧ Wr w.heap.size p bm w' v' D' L) ∧ Below w.heap.size w w' := by
  have hz := h.1
  by_cases h1 : 120 < n
  · have e : x = 2 := by rw [← hx]; unfold bkChk; rw [if_pos (by omega)]
    subst e
    have g : (120 : Int) < (n : Int) := by omega
    have HB := hide (bel_new w (.cells #[.slice a n c] 24))
    clear h hx h1 hz
    go_enter Tryz.func133, Tryz.ntmps133
    go_wp2
    go_ret2
    first | exact ⟨_, rfl, fun h => absurd h (by decide), unhide HB⟩ | exact ⟨⟨_, rfl⟩, unhide HB⟩
  · have hx2 : bkGo [] L = x := by rw [← hx]; unfold bkChk; rw [if_neg (by omega)]
    by_cases h0 : n = 0
    · subst h0
      have e : L = [] := List.length_eq_zero_iff.1 hz
      subst e
      have e : x = 0 := by rw [← hx2]; rfl
      subst e
      have hs1 : (w.alloc (.cells #[.slice a 0 c] 24)).heap.size = w.heap.size + 1 := by simp
      have W0 := wr_new (w.alloc (.cells #[.slice a 0 c] 24)) w.heap.size (by omega)
      rw [hs1] at W0
      have HW0 := hide W0
      have HB := hide (bel_on (bel_on (bel_new w (.cells #[.slice a 0 c] 24)) (bel_new _ (.map #[] 0))) (bel_new _ (.cells #[.slice none 0 0, .map (some (w.heap.size + 1))] 243)))
      have hmm := make_sized
      clear h hx h1 hz hx2 hs1 W0
      go_enter Tryz.func133, Tryz.ntmps133
      go_wp2
      refine wp_loop_rounds 1 ?_
      rw [rounds_succ]
      go_wp2
      go_ret2
      refine ⟨_, rfl, fun _ => ⟨_, _, _, _, rfl, unhide HW0⟩, unhide HB⟩
    · obtain ⟨b, off, rfl, hc⟩ := h.2 (by omega)
      exact open_some b off n c L w hz (by omega) (by omega) (World.block_lt_of_cell? _ _ (hc 0 (by omega))) hc x hx2

end Go.Proofs.YtmomfkikogbdeaaGreatDoor.Bk

/- The contract of All. -/
namespace Go.Proofs.YtmomfkikogbdeaaGreatDoor.Bk
open Go.RowKit Go.Maps

/-- What All answers: the book then, the names, the error. -/
def allR (L l : List ByteArray) : List ByteArray × List Int × Int := if bkChk L = 0 then nmGo L [] l else ([], [], bkChk L)

/-- A slice of ints in memory. -/
def IntsAt (w : World) (a : Option Addr) (len : Nat) (Z : List Int) : Prop :=
  Z.length = len ∧ (0 < len → ∃ b off, a = some ⟨b, off, none⟩ ∧ ∀ i (h : i < Z.length), w.cell? ⟨b, off + i, none⟩ = some (.int .i64 Z[i]))
theorem IntsAt.later {w w' : World} {a : Option Addr} {len : Nat} {Z : List Int} (h : IntsAt w a len Z) (hb : Below w.heap.size w w') : IntsAt w' a len Z := by
  refine ⟨h.1, fun h0 => ?_⟩
  obtain ⟨b, off, e, hc⟩ := h.2 h0
  exact ⟨b, off, e, fun i hi => cell_later hb (hc i hi)⟩
theorem IntsAt.nil (w : World) (a : Option Addr) : IntsAt w a 0 [] := ⟨rfl, fun h => absurd h (by omega)⟩

/-- The head of a slice that a program can hold. -/
def SlOk (a : Option Addr) (n c : Nat) : Prop := n ≤ c ∧ c ≤ maxLen ∧ (a = none → n = 0 ∧ c = 0)
theorem SlOk.nil : SlOk none 0 0 := ⟨Nat.le_refl _, by unfold maxLen; omega, fun _ => ⟨rfl, rfl⟩⟩

theorem Wr.beside {base p bm g j : Nat} {w : World} {v u : Value} {D : DataW Unit} {L : List ByteArray} (h : Wr base p bm w v D L) (hg : ∃ cs, w.heap[g]? = some (.cells cs 3 (0, 0))) : Wr base p bm (w.setCell ⟨g, j, none⟩ u) v D L := by
  obtain ⟨cs, hg⟩ := hg
  have far : ∀ k, k ≠ g → (w.setCell ⟨g, j, none⟩ u).heap[k]? = w.heap[k]? := fun k hk => heap_setCell_other w ⟨g, j, none⟩ k u hk
  refine ⟨?_, h.pge, h.mge, ?_, ?_, h.ism, h.names⟩
  · rw [far p (fun e => ?_)]
    · exact h.box
    · subst e
      rw [h.box] at hg
      injection hg with hg
      injection hg with _ hg
      exact absurd hg (by decide)
  · refine own_type h.own (fun k cs' _ hk => far k (fun e => ?_))
    subst e
    rw [hk] at hg
    injection hg with hg
    injection hg with _ hg
    exact absurd hg (by decide)
  · obtain ⟨es, clock, h1, r⟩ := h.map
    refine ⟨es, clock, (far bm (fun e => ?_)).trans h1, r⟩
    subst e
    rw [h1] at hg
    cases hg

/-- The row of names, filled so far. -/
def Filled (base g n : Nat) (N : List Int) (w : World) : Prop := ∃ xs : List Value, w.ownsRow base 3 1 (.slice (some ⟨g, 0, none⟩) n n) n xs ∧ ∀ j (h : j < N.length), xs[j]? = some (.int .i64 N[j])
theorem Filled.block {base g n : Nat} {N : List Int} {w : World} (h : Filled base g n N w) : base ≤ g ∧ ∃ cs, w.heap[g]? = some (.cells cs 3 (0, 0)) := by
  obtain ⟨xs, ho, _⟩ := h
  obtain ⟨_, ⟨e, _⟩ | ⟨g', cap, cur, e, hg, hh, _⟩⟩ := ho
  · cases e
  · cases e; exact ⟨hg, cur, hh⟩
theorem Filled.far {base g n : Nat} {N : List Int} {w w' : World} (h : Filled base g n N w) (hf : Far w w') : Filled base g n N w' := by
  obtain ⟨xs, ho, hx⟩ := h
  exact ⟨xs, own_type ho (fun k cs _ hk => hf k cs _ hk (by decide) (by decide)), hx⟩
theorem Filled.old {base g n : Nat} {N : List Int} {w : World} (h : Filled base g n N w) {k : Nat} (hk : k < n) : (∃ v, w.cell? ⟨g, k, none⟩ = some v) ∧ w.frozen? ⟨g, k, none⟩ = false ∧ g < w.heap.size := by
  obtain ⟨xs, ho, _⟩ := h
  have hl : xs.length = n := by simpa using ho.1
  exact ⟨⟨xs[k]'(by omega), by rw [ho.cellAt k (by omega)]; simp [hl, hk]⟩, ho.frozenAt k, (ho.lt g rfl).2⟩
theorem Filled.step {base g n : Nat} {N : List Int} {w : World} (h : Filled base g n N w) (hk : N.length < n) (x : Int) : Filled base g n (N ++ [x]) (w.setCell ⟨g, N.length, none⟩ (.int .i64 x)) := by
  obtain ⟨xs, ho, hx⟩ := h
  have hl : xs.length = n := by simpa using ho.1
  refine ⟨xs.set N.length (.int .i64 x), (ho.stored N.length _).1, fun j hj => ?_⟩
  by_cases e : j = N.length
  · subst e; simp [hl, hk]
  · have hj2 : j < N.length := by simp at hj; omega
    rw [List.getElem?_set_ne (by omega), hx j hj2]
    simp [hj2]
theorem Filled.ints {base g n : Nat} {N : List Int} {w : World} (h : Filled base g n N w) (hn : N.length = n) : IntsAt w (some ⟨g, 0, none⟩) n N := by
  obtain ⟨xs, ho, hx⟩ := h
  have hl : xs.length = n := by simpa using ho.1
  refine ⟨hn, fun _ => ⟨g, 0, rfl, fun i hi => ?_⟩⟩
  rw [Nat.zero_add, ho.cellAt i (by omega), hx i hi]

theorem results_cell_tmp2 {fn : Func} {p u v : Tmp} {ty : TypeId} (h : fn.results = #[.cell p ty, .tmp u, .tmp v]) (tmps : Array Value) (P : Program) (w : World) :
    (results fn tmps).run P w =
      ((asAddr (tmps.getD p undef)).run P w).andThen fun a w₁ => ((loadVar ty a).run P w₁).andThen fun x w₂ => .ok (.tuple #[x, tmps.getD u undef, tmps.getD v undef]) w₂ := by
  simp only [results, h]
  simp [Sem.run_bind, Result.andThen]

theorem texts_own {w : World} {base n c : Nat} {a : Option Addr} {L : List ByteArray} (h : w.ownsRow base 9 1 (.slice a n c) n (L.map Value.string)) : TextsAt w a n L := by
  obtain ⟨a', c', e, _, _, _, ht⟩ := texts_of_own h
  cases e
  exact ht

theorem nmGo_at {l : List ByteArray} {j : Nat} (h : j < l.length) (L : List ByteArray) (N : List Int) : nmGo L N (l.drop j) = if (nm L l[j]).2.2 = 0 then nmGo (nm L l[j]).1 (N ++ [(nm L l[j]).2.1]) (l.drop (j + 1)) else ([], [], (nm L l[j]).2.2) := by
  rw [List.drop_eq_getElem_cons h, nmGo]
theorem nmGo_end {l : List ByteArray} {j : Nat} (h : l.length ≤ j) (L : List ByteArray) (N : List Int) : nmGo L N (l.drop j) = (L, N, 0) := by
  rw [List.drop_of_length_le h]; rfl

set_option maxRecDepth 10000 in
set_option maxHeartbeats 1600000 in
theorem all_bad (a al : Option Addr) (n c nl cl : Nat) (L : List ByteArray) (w : World) (h : TextsAt w a n L) (x : Int) (hx : bkChk L = x) (h0 : x ≠ 0) :
    Calls Tryz.prog 86 #[.agg #[.slice a n c], .slice al nl cl] w fun e w' => e = .returned (.tuple #[.agg #[.slice none 0 0], .slice none 0 0, .int .i64 x]) ∧ Below w.heap.size w w' := by
  have hb1 := bel_new w (.cells #[.slice a n c] 24)
  have hb2 := bel_new (w.alloc (.cells #[.slice a n c] 24)) (.cells #[.slice none 0 0] 24)
  have hb := bel_on hb1 hb2
  have hs1 : (w.alloc (.cells #[.slice a n c] 24)).heap.size = w.heap.size + 1 := by simp
  have c1 := heap_alloc_new (w.alloc (.cells #[.slice a n c] 24)) (.cells #[.slice none 0 0] 24)
  rw [hs1] at c1
  have O := hide (open_is a n c L _ (h.later hb) x hx)
  have HB := hide hb
  have C1 := hide c1
  have g : (x != 0) = true := by simp [h0]
  clear h hx hb hb1 hb2 c1 hs1
  go_enter Tryz.func86, Tryz.ntmps86
  go_wp2_with fail
  refine (unhide O).mono ?_
  rintro e w2 ⟨v, rfl, -, hb2⟩
  have HB2 := hide (bel_on (unhide HB) hb2)
  have c1 := (hb2.block _ (lt_of_block (unhide C1))).trans (unhide C1)
  have d0 : w2.cell? ⟨w.heap.size + 1, 0, none⟩ = some (.slice none 0 0) := by simp [World.cell?, c1]
  have df : w2.frozen? ⟨w.heap.size + 1, 0, none⟩ = false := by simp [World.frozen?, c1]
  have hl2 : w.heap.size + 1 < w2.heap.size := lt_of_block c1
  clear hb2 c1
  go_wp2
  (try simp only [Exit.inBlock, Exit.then])
  refine bodyPost_ret (v := .tuple #[.agg #[.slice none 0 0], .slice none 0 0, .int .i64 x]) ?_ rfl ⟨rfl, ?_⟩
  · rw [results_cell_tmp2 rfl]
    go_simp
  · exact (unhide HB2).setCell (Nat.le_succ _) _

set_option maxRecDepth 10000 in
set_option maxHeartbeats 3200000 in
theorem all_rightF (a al : Option Addr) (n c nl cl : Nat) (L l M : List ByteArray) (N : List Int) (x : Int) (w : World) (h : TextsAt w a n L) (hl : TextsAt w al nl l) (hnl : nl ≤ 17592186044416) (hR : Right L) (hx : nmGo L [] l = (M, N, x)) :
    Calls Tryz.prog 86 #[.agg #[.slice a n c], .slice al nl cl] w fun e w' => (∃ a' n' c' a2 n2 c2, e = .returned (.tuple #[.agg #[.slice a' n' c'], .slice a2 n2 c2, .int .i64 x]) ∧ (∀ w2, Gr w' w2 (fun k => k < w.heap.size) → TextsAt w2 a' n' M) ∧ SlOk a' n' c' ∧ IntsAt w' a2 n2 N ∧ n2 ≤ nl ∧ n2 ≤ c2) ∧ Below w.heap.size w w' := by
  obtain ⟨i0, hi, hz0, hz1, hz2⟩ := info_parts Tryz.infoInt
  have hb1 := bel_new w (.cells #[.slice a n c] 24)
  have hb2 := bel_new (w.alloc (.cells #[.slice a n c] 24)) (.cells #[.slice none 0 0] 24)
  have hb := bel_on hb1 hb2
  have hs1 : (w.alloc (.cells #[.slice a n c] 24)).heap.size = w.heap.size + 1 := by simp
  have hs2 : ((w.alloc (.cells #[.slice a n c] 24)).alloc (.cells #[.slice none 0 0] 24)).heap.size = w.heap.size + 2 := by simp
  have c1 := heap_alloc_new (w.alloc (.cells #[.slice a n c] 24)) (.cells #[.slice none 0 0] 24)
  rw [hs1] at c1
  have O := hide (open_is a n c L _ (h.later hb) 0 ((right_iff L).2 hR))
  rw [hs2] at O
  have HB := hide hb
  have C1 := hide c1
  have HLL := hide hl
  have HNL := hide hnl
  have HR := hide hR
  have HX := hide hx
  clear h hl hx hb hb1 hb2 c1 hs1 hs2 hR
  go_enter Tryz.func86, Tryz.ntmps86
  go_wp2_with fail
  refine (unhide O).mono ?_
  rintro e w2 ⟨v, rfl, hwr, hb2⟩
  obtain ⟨p, bm, v0, D0, rfl, hw0⟩ := hwr (by trivial)
  have hw2s : w.heap.size + 2 ≤ w2.heap.size := Nat.le_trans hw0.pge (Nat.le_of_lt (lt_of_block hw0.box))
  have c1 := (hb2.block _ (by omega)).trans (unhide C1)
  have HBW : Hid (Below w.heap.size w w2) := (unhide HB).trans (hb2.mono (by omega))
  have HW := hide hw0
  have C2 := hide c1
  clear hw0 hwr hb2 c1
  go_wp2_with (at_make; refine wpList_make_full _ rfl _ _ 25 rfl (w.heap.size + 2) 3 i0 (.int .i64 0) 1 Tryz.underlying25 hi hz0 hz1 .i64 .i64 _ _ nl rfl rfl rfl rfl (by rw [hz2]; have := unhide HNL; omega) (by have := unhide HNL; unfold maxLen; omega) hw2s ?_; intro w3 hown3 hgrow3)
  have hb3 : Below w2.heap.size w2 w3 := (Below.refl _ _).grown hgrow3 (Nat.le_refl _) (fun k h => by cases h)
  have HW3 := hide ((unhide HW).keep hb3)
  have HF3 : Hid (Filled (w.heap.size + 2) w2.heap.size nl [] w3) := ⟨_, hown3, fun j hj => absurd hj (by simp)⟩
  have C3 := hide ((hb3.block _ (lt_of_block (unhide C2))).trans (unhide C2))
  have HB3 := hide (bel_on (unhide HBW) hb3)
  obtain ⟨g, hg⟩ : ∃ g, w2.heap.size = g := ⟨_, rfl⟩
  rw [hg] at HF3 ⊢
  clear hb3 hown3 hgrow3 HW C2 HBW hg
  go_loopw [26] (fun i wr => ∃ (j : Nat) (L' : List ByteArray) (N' : List Int), j ≤ nl ∧ i = .int .i64 j ∧ Below w.heap.size w wr ∧ Hid (∃ v D, Wr (w.heap.size + 2) p bm wr v D L') ∧ Hid (Filled (w.heap.size + 2) g nl N' wr) ∧ Hid (N'.length = j ∧ Right L' ∧ nmGo L' N' (l.drop j) = (M, N, x)) ∧ Hid (wr.heap[w.heap.size + 1]? = some (.cells #[.slice none 0 0] 24 (0, 0)))) (fun i _ => nl - (intOf i).toNat)
  case atStart => exact ⟨0, L, [], Nat.zero_le _, rfl, unhide HB3, ⟨_, _, unhide HW3⟩, HF3, ⟨rfl, unhide HR, unhide HX⟩, C3⟩
  case round =>
    obtain ⟨j, L', N', hk, rfl, hbw, HWr, HF, HN, HC⟩ := hrel
    have HB4 := hide hbw
    by_cases hlt : j < nl
    · obtain ⟨hz, hcs⟩ := unhide HLL
      obtain ⟨b, off, rfl, hc⟩ := hcs (by omega)
      have hlj : j < l.length := by omega
      have f := cell_later hbw (hc j hlj)
      obtain ⟨v, D, hwr⟩ := unhide HWr
      obtain ⟨q1, q2, q3⟩ := unhide HN
      rw [nmGo_at hlj] at q3
      obtain ⟨s, hs⟩ : ∃ s, l[j] = s := ⟨_, rfl⟩
      rw [hs] at f q3
      obtain ⟨r, hr⟩ : ∃ r, nm L' s = r := ⟨_, rfl⟩
      rw [hr] at q3
      obtain ⟨M', n', e'⟩ := r
      simp only at q3
      have CN := hide (name_is (w.heap.size + 2) p bm v D L' M' s n' e' wr hwr q2.1 hr)
      have NR : Hid (e' = 0 → Right M') := fun h => by
        have := nm_right (L := L') (s := s) q2
        rw [hr] at this
        exact this h
      clear hwr hs hc hcs hbw hr
      by_cases he : e' = 0
      · subst he
        rw [if_pos rfl] at q3
        have Q3 := hide q3
        have hq1 := hide q1
        clear q3 q2 q1
        go_wp2_with fail
        refine (unhide CN).mono ?_
        rintro y w5 ⟨rfl, hw5, hb5, hf5⟩
        have F5 := (unhide HF).far hf5
        obtain ⟨⟨u, hu⟩, hfz, hgl⟩ := F5.old hlt
        have HF5 := hide F5
        have hq : N'.length = j := unhide hq1
        have ST := hide (F5.step (by omega) n')
        rw [hq] at ST
        have HB5 := hide ((unhide HB4).trans (hb5.mono (by omega)))
        have W5 : Hid (∃ v D, Wr (w.heap.size + 2) p bm (w5.setCell ⟨g, j, none⟩ (.int .i64 n')) v D M') := by
          obtain ⟨v', D', h'⟩ := (by first | exact hw5 | exact hw5 rfl | exact hw5 (by trivial) : ∃ v' D', Wr (w.heap.size + 2) p bm w5 v' D' M')
          exact ⟨v', D', h'.beside F5.block.2⟩
        have C5 : Hid ((w5.setCell ⟨g, j, none⟩ (.int .i64 n')).heap[w.heap.size + 1]? = some (.cells #[.slice none 0 0] 24 (0, 0))) := by
          show _ = _
          rw [heap_setCell_other _ _ _ _ (by show w.heap.size + 1 ≠ g; have := F5.block.1; omega), hb5.block _ (by omega)]
          exact unhide HC
        have HB6 := hide ((unhide HB5).setCell (p := ⟨g, j, none⟩) (by show w.heap.size ≤ g; have := F5.block.1; omega) (.int .i64 n'))
        clear hw5 hb5 hf5 F5
        go_wp2
        go_roundw
        case rel => exact ⟨j + 1, M', N' ++ [n'], by omega, by go_num, unhide HB6, W5, ST, ⟨by simp; exact unhide hq1, (unhide NR) (by trivial), unhide Q3⟩, C5⟩
        case measure => simp [intOf]; omega
      · rw [if_neg he] at q3
        have e1 : M = [] := by injection q3 with q3 _; exact q3.symm
        have e2 : N = [] := by injection q3 with _ q3; injection q3 with q3 _; exact q3.symm
        have e3 : x = e' := by injection q3 with _ q3; injection q3 with _ q3; exact q3.symm
        subst e1 e2 e3
        have g5 : (x != 0) = true := by simp [he]
        clear q3 q2 q1
        go_wp2_with fail
        refine (unhide CN).mono ?_
        rintro y w5 ⟨rfl, -, hb5, hf5⟩
        have F5 := (unhide HF).far hf5
        obtain ⟨⟨u, hu⟩, hfz, hgl⟩ := F5.old hlt
        have hgb : w.heap.size + 2 ≤ g := F5.block.1
        have c5 : (w5.setCell ⟨g, j, none⟩ (.int .i64 n')).heap[w.heap.size + 1]? = some (.cells #[.slice none 0 0] 24 (0, 0)) := by
          rw [heap_setCell_other _ _ _ _ (by show w.heap.size + 1 ≠ g; omega), hb5.block _ (by omega)]
          exact unhide HC
        obtain ⟨Z, hZ⟩ : ∃ Z, Z = w5.setCell ⟨g, j, none⟩ (.int .i64 n') := ⟨_, rfl⟩
        have HB6 := hide (((unhide HB4).trans (hb5.mono (by omega))).setCell (p := ⟨g, j, none⟩) (by show w.heap.size ≤ g; omega) (.int .i64 n'))
        rw [← hZ] at c5 HB6
        have d0 : Z.cell? ⟨w.heap.size + 1, 0, none⟩ = some (.slice none 0 0) := by simp [World.cell?, c5]
        have df : Z.frozen? ⟨w.heap.size + 1, 0, none⟩ = false := by simp [World.frozen?, c5]
        clear hb5 hf5 F5 c5
        rw [hZ] at d0 df HB6
        clear hZ
        go_wp2
        (try simp only [Exit.inBlock, Exit.then])
        refine bodyPost_ret (v := .tuple #[.agg #[.slice none 0 0], .slice none 0 0, .int .i64 x]) ?_ rfl ⟨⟨_, _, _, _, _, _, rfl, fun _ _ => TextsAt.nil _ _, SlOk.nil, IntsAt.nil _ _, Nat.zero_le _, Nat.le_refl _⟩, ?_⟩
        · rw [results_cell_tmp2 rfl]
          go_simp
        · exact (unhide HB6).setCell (Nat.le_succ _) _
    · have e : j = nl := by omega
      subst e
      obtain ⟨q1, q2, q3⟩ := unhide HN
      rw [nmGo_end (by rw [(unhide HLL).1]; exact Nat.le_refl _)] at q3
      have e1 : M = L' := by injection q3 with q3 _; exact q3.symm
      have e2 : N = N' := by injection q3 with _ q3; injection q3 with q3 _; exact q3.symm
      have e3 : x = 0 := by injection q3 with _ q3; injection q3 with _ q3; exact q3.symm
      subst e1 e2 e3
      obtain ⟨v, D, hwr⟩ := unhide HWr
      obtain ⟨d1, d2, -⟩ := hwr.cell0
      have ho := hwr.own
      obtain ⟨a', c', rfl, s1, s2, s3, s4⟩ := texts_of_own hwr.own
      have HOK : Hid (SlOk a' M.length c') := ⟨s1, s2, s3⟩
      have HT : Hid (∀ u w2, Gr (wr.setCell ⟨w.heap.size + 1, 0, none⟩ u) w2 (fun k => k < w.heap.size) → TextsAt w2 a' M.length M) := fun u w2 g2 => texts_own (own_type ho (fun k cs hge hk => (g2.block k (by simpa [World.setCell] using lt_of_block hk) (by omega)).trans (heap_setCell_other _ _ _ _ (by show k ≠ w.heap.size + 1; omega))))
      have HI : Hid (∀ u, IntsAt (wr.setCell ⟨w.heap.size + 1, 0, none⟩ u) (some ⟨g, 0, none⟩) j N) := fun u => by
        obtain ⟨xs, hxs, hx2⟩ := unhide HF
        exact Filled.ints ⟨xs, own_type hxs (fun k cs hge _ => heap_setCell_other _ _ _ _ (by show k ≠ w.heap.size + 1; omega)), hx2⟩ q1
      have c5 := unhide HC
      have d0 : wr.cell? ⟨w.heap.size + 1, 0, none⟩ = some (.slice none 0 0) := by simp [World.cell?, c5]
      have df : wr.frozen? ⟨w.heap.size + 1, 0, none⟩ = false := by simp [World.frozen?, c5]
      have hpne : w.heap.size + 1 ≠ p := by have := hwr.pge; omega
      clear q1 q2 q3 hwr ho s1 s2 s3 s4 c5 hbw
      go_wp2
      (try simp only [Exit.inBlock, Exit.then])
      refine bodyPost_ret (v := .tuple #[.agg #[.slice a' M.length c'], .slice (some ⟨g, 0, none⟩) j j, .int .i64 0]) ?_ rfl ⟨⟨_, _, _, _, _, _, rfl, (unhide HT) _, unhide HOK, (unhide HI) _, Nat.le_refl _, Nat.le_refl _⟩, ?_⟩
      · rw [results_cell_tmp2 rfl]
        go_simp
      · exact (unhide HB4).setCell (Nat.le_succ _) _

theorem all_right (a al : Option Addr) (n c nl cl : Nat) (L l M : List ByteArray) (N : List Int) (x : Int) (w : World) (h : TextsAt w a n L) (hl : TextsAt w al nl l) (hnl : nl ≤ 17592186044416) (hR : Right L) (hx : nmGo L [] l = (M, N, x)) :
    Calls Tryz.prog 86 #[.agg #[.slice a n c], .slice al nl cl] w fun e w' => (∃ a' n' c' a2 n2 c2, e = .returned (.tuple #[.agg #[.slice a' n' c'], .slice a2 n2 c2, .int .i64 x]) ∧ TextsAt w' a' n' M ∧ SlOk a' n' c' ∧ IntsAt w' a2 n2 N ∧ n2 ≤ nl ∧ n2 ≤ c2) ∧ Below w.heap.size w w' := by
  refine (all_rightF a al n c nl cl L l M N x w h hl hnl hR hx).mono ?_
  rintro e w' ⟨⟨a', n', c', a2, n2, c2, h1, h2, h3⟩, hb⟩
  exact ⟨⟨a', n', c', a2, n2, c2, h1, h2 _ (Gr.refl _ _), h3⟩, hb⟩

end Go.Proofs.YtmomfkikogbdeaaGreatDoor.Bk

/- The contract of Name. -/
namespace Go.Proofs.YtmomfkikogbdeaaGreatDoor.Bk
open Go.RowKit Go.Maps

/-- What Name answers: the book then, the name, the error. -/
def nameR (L : List ByteArray) (s : ByteArray) : List ByteArray × Int × Int := if bkChk L = 0 then nm L s else ([], 0, bkChk L)

theorem one_text (w : World) (s : ByteArray) : TextsAt (w.alloc (.cells #[.string s] 9)) (some ⟨w.heap.size, 0, none⟩) 1 [s] :=
  ⟨rfl, fun _ => ⟨w.heap.size, 0, rfl, fun i hi => by
    have e : i = 0 := by simp at hi; omega
    subst e
    exact one_new w (.string s) 9⟩⟩

/-- What All answers, in one contract. -/
theorem all_is (a al : Option Addr) (n c nl cl : Nat) (L l M : List ByteArray) (N : List Int) (x : Int) (w : World) (h : TextsAt w a n L) (hl : TextsAt w al nl l) (hnl : nl ≤ 17592186044416) (hx : allR L l = (M, N, x)) :
    Calls Tryz.prog 86 #[.agg #[.slice a n c], .slice al nl cl] w fun e w' => (∃ a' n' c' a2 n2 c2, e = .returned (.tuple #[.agg #[.slice a' n' c'], .slice a2 n2 c2, .int .i64 x]) ∧ TextsAt w' a' n' M ∧ SlOk a' n' c' ∧ IntsAt w' a2 n2 N ∧ n2 ≤ nl ∧ n2 ≤ c2) ∧ Below w.heap.size w w' := by
  unfold allR at hx
  by_cases h0 : bkChk L = 0
  · rw [if_pos h0] at hx
    exact all_right a al n c nl cl L l M N x w h hl hnl ((right_iff L).1 h0) hx
  · rw [if_neg h0] at hx
    have e1 : M = [] := by injection hx with hx _; exact hx.symm
    have e2 : N = [] := by injection hx with _ hx; injection hx with hx _; exact hx.symm
    have e3 : bkChk L = x := by injection hx with _ hx; injection hx with _ hx
    subst e1 e2
    refine (all_bad a al n c nl cl L w h x e3 (by rw [← e3]; exact h0)).mono ?_
    rintro e w' ⟨rfl, hb⟩
    exact ⟨⟨_, _, _, _, _, _, rfl, TextsAt.nil _ _, SlOk.nil, IntsAt.nil _ _, Nat.zero_le _, Nat.le_refl _⟩, hb⟩

/-- All of one text. -/
theorem all_one (L : List ByteArray) (s : ByteArray) : allR L [s] = ((nameR L s).1, (if (nameR L s).2.2 = 0 then [(nameR L s).2.1] else []), (nameR L s).2.2) := by
  unfold allR nameR
  by_cases h0 : bkChk L = 0
  · rw [if_pos h0, if_pos h0]
    simp only [nmGo, List.nil_append]
    by_cases h1 : (nm L s).2.2 = 0
    · rw [if_pos h1, if_pos h1]; rw [h1]
    · rw [if_neg h1, if_neg h1]
      have : (nm L s).1 = [] := by
        unfold nm at *
        by_cases h2 : 4000 < s.size
        · rw [if_pos h2]
        · rw [if_neg h2] at *
          by_cases h3 : place s L ≠ 0
          · rw [if_pos h3] at h1; exact absurd rfl h1
          · rw [if_neg h3] at *
            by_cases h4 : 120 ≤ L.length
            · rw [if_pos h4]
            · rw [if_neg h4] at h1; exact absurd rfl h1
      rw [this]
  · rw [if_neg h0, if_neg h0]
    simp [h0]
theorem name_err {L : List ByteArray} {s : ByteArray} (h : (nameR L s).2.2 ≠ 0) : (nameR L s).1 = [] ∧ (nameR L s).2.1 = 0 := by
  unfold nameR at *
  by_cases h0 : bkChk L = 0
  · rw [if_pos h0] at *
    unfold nm at *
    by_cases h2 : 4000 < s.size
    · rw [if_pos h2]; exact ⟨rfl, rfl⟩
    · rw [if_neg h2] at *
      by_cases h3 : place s L ≠ 0
      · rw [if_pos h3] at h; exact absurd rfl h
      · rw [if_neg h3] at *
        by_cases h4 : 120 ≤ L.length
        · rw [if_pos h4]; exact ⟨rfl, rfl⟩
        · rw [if_neg h4] at h; exact absurd rfl h
  · rw [if_neg h0]; exact ⟨rfl, rfl⟩

end Go.Proofs.YtmomfkikogbdeaaGreatDoor.Bk