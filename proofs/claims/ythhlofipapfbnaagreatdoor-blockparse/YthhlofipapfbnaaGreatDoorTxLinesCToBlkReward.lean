/- What reads a transaction's lines: where there is one line alone. -/
import Derived.Test.YthhlofipapfbnaaGreatDoorTxLinesA
import Derived.Test.YthhlofipapfbnaaGreatDoorTxLinesB
import Derived.Test.YthhlofipapfbnaaGreatDoorBlkNamesToCoinCopyB
import Derived.Test.YthhlofipapfbnaaGreatDoorCoinCheckBToCoinDelete
import Derived.Test.YthhlofipapfbnaaGreatDoorBlkHeadToCoinDo
namespace Go.Proofs.YthhlofipapfbnaaGreatDoor
open Go.RowKit

set_option maxRecDepth 10000 in
set_option maxHeartbeats 12800000 in
theorem lines_one (s : ByteArray) (hs : s.size ≤ 4000) (w : World) (hE : EnvP w) (h : Int) (hr : rowOf ((linesOf s).getD 0 ⟨#[]⟩) txB 1 = some [h]) (hen : endsB s = true) (hone : (linesOf s).length = 1) :
    Calls Tryz.prog 89 #[.string s] w fun e w' => LinesIs w.heap.size w' e (some (h, [], [])) ∧ Below w.heap.size w w' := by
  have bq := bel_new w resO
  have CS := hide (cutSuffix_any s hs (w.alloc resO))
  have hbs := body_size s
  have SP := hide (split_lines s hs (w.alloc resO) (hE.later bq))
  have hc0 := strs_new (w.alloc resO) (linesOf s) 0 (spl_pos 10 _)
  have hm : (linesOf s).length ≤ 4002 := spl_many 10 (bodyB s) (by omega)
  have hsm : ∀ x ∈ linesOf s, x.size ≤ 4000 := fun x hx => Nat.le_trans (spl_small 10 _ _ hx) (by omega)
  have hx0 : ((linesOf s).getD 0 ⟨#[]⟩).size ≤ 4000 := by
    have : 0 < (linesOf s).length := by omega
    rw [List.getD_eq_getElem?_getD, List.getElem?_eq_getElem this]
    exact hsm _ (List.getElem_mem this)
  obtain ⟨x0, ex0⟩ : ∃ x0, (linesOf s).getD 0 ⟨#[]⟩ = x0 := ⟨_, rfl⟩
  rw [ex0] at hr hc0 hx0
  rw [hen] at CS
  obtain ⟨bd, hbd⟩ : ∃ bd, bodyB s = bd := ⟨_, rfl⟩
  rw [hbd] at CS SP
  rw [hone] at SP
  have HC0 := hide hc0
  have HQ : Hid ((w.alloc resO).heap[w.heap.size]? = some (.cells #[.int .i64 0, .slice none 0 0, .slice none 0 0] 78 (0, 0))) := heap_alloc_new _ _
  have HBQ := hide bq
  have HE := hide hE
  have HR := hide hr
  have e1 : (w.alloc resO).heap.size = w.heap.size + 1 := by simp
  clear bq hbs hc0 hE ex0 hen hbd hr hsm hm
  go_enter Tryz.func89, Tryz.ntmps89
  go_wp2_with fail
  refine (unhide CS).mono ?_
  rintro e w' ⟨rfl, rfl⟩
  go_wp2_with fail
  refine (unhide SP).mono ?_
  rintro e wl ⟨rfl, hwl⟩
  have hb1 : Below (w.alloc resO).heap.size (w.alloc resO) wl := by rw [hwl]; exact bel_new _ _
  have c0 := unhide HC0
  obtain ⟨AR, hAR⟩ : ∃ AR, ((linesOf s).map Value.string).toArray = AR := ⟨_, rfl⟩
  rw [hAR] at hwl c0
  have hLIN : wl.heap[w.heap.size + 1]? = some (.cells AR 9 (0, 0)) := by rw [hwl, ← e1]; exact heap_alloc_new _ _
  rw [← hwl, e1] at c0
  have HBL := hide (bel_on (unhide HBQ) hb1)
  have HQL := hide ((hb1.block _ (by simp)).trans (unhide HQ))
  have HLIN := hide hLIN
  have hsl : w.heap.size + 1 < wl.heap.size := World.block_lt_of_cell? _ _ c0
  rw [e1]
  clear hwl hb1 hLIN hAR
  go_wp2_with fail
  refine (parseRow_any x0 txB 1 1 rfl hx0 (by decide) (by decide) wl ((unhide HE).later (unhide HBL)) (some [h]) (unhide HR)).mono ?_
  rintro e w3 ⟨a3, c3, rfl, hrow, hb3, _⟩
  simp only [Option.getD_some, Option.isSome_some, List.length_cons, List.length_nil] at hrow ⊢
  obtain ⟨hb, ho, rfl, hcell⟩ := hrow.2.2 (by decide)
  have h0 := hcell 0 (by decide)
  simp only [Nat.add_zero] at h0
  change w3.cell? ⟨hb, ho, none⟩ = some (.int .i64 h) at h0
  have hs3 : w.heap.size + 1 < w3.heap.size := Nat.lt_of_lt_of_le hsl hb3.size
  obtain ⟨⟨q0, q1, q2⟩, qf⟩ := block_cells3 ((hb3.block _ (by omega)).trans (unhide HQL))
  have f0 := qf 0
  have f1 := qf 1
  have f2 := qf 2
  have hq3 : w.heap.size < w3.heap.size := by omega
  have HB3 := hide (bel_on (unhide HBL) hb3)
  clear qf hb3 hrow hcell c0
  go_wp2
  refine wp_loop_rounds 1 ?_
  rw [rounds_succ]
  go_wp2
  (try simp only [Exit.inBlock, Exit.then])
  refine bodyPost_ret (v := .tuple #[.agg #[.int .i64 h, .slice none 0 0, .slice none 0 0], .bool true]) ?_ rfl ⟨?_, ?_⟩
  · rw [results_cell_tmp rfl]
    go_simp
  · exact ⟨_, _, rfl, TxOwn.nil _ _⟩
  · exact ((((unhide HB3).setCell (Nat.le_refl _) _).setCell (Nat.le_refl _) _).setCell (Nat.le_refl _) _).alloc (by simp; omega) _

end Go.Proofs.YthhlofipapfbnaaGreatDoor

/- The contract of Parse of transactions: its error, and what a text says. -/
namespace Go.Proofs.YthhlofipapfbnaaGreatDoor
open Go.RowKit

theorem parseLines_any (s : ByteArray) (hs : s.size ≤ 4000) (w : World) (hE : EnvP w) :
    Calls Tryz.prog 89 #[.string s] w fun e w' => LinesIs w.heap.size w' e (linesTx s) ∧ Below w.heap.size w w' := by
  cases hen : endsB s with
  | false =>
    have e : linesTx s = none := by unfold linesTx; rw [hen]; rfl
    rw [e]
    exact lines_bad s hs w hE _ rfl (Or.inl hen)
  | true =>
    cases hr : rowOf ((linesOf s).getD 0 ⟨#[]⟩) txB 1 with
    | none =>
      have e : linesTx s = none := by unfold linesTx; rw [hen, hr]; rfl
      rw [e]
      exact lines_bad s hs w hE _ hr (Or.inr rfl)
    | some Z =>
      obtain ⟨h, rfl⟩ := List.length_eq_one_iff.1 (rowOf_len hr)
      have e : linesTx s = foldTx (h, [], []) ((linesOf s).drop 1) := by unfold linesTx; rw [hen, hr]; rfl
      rw [e]
      have hpos : 0 < (linesOf s).length := spl_pos 10 (bodyB s)
      by_cases h1 : (linesOf s).length = 1
      · have e2 : (linesOf s).drop 1 = [] := List.drop_of_length_le (by omega)
        rw [e2]
        exact lines_one s hs w hE h hr hen h1
      · exact lines_good s hs w hE h hr hen (by omega)

/-- What Parse answers: its error, and the transaction. -/
def pE (s : ByteArray) : Int := if 4000 < s.size then 2 else match linesTx s with | none => 1 | some t => chkTx t
def pT (s : ByteArray) : TxD := if pE s = 0 then (linesTx s).getD (0, [], []) else (0, [], [])

/-- The answer in memory. -/
def TxIs (B : Nat) (w' : World) (e : Ending) (t : TxD) (x : Int) : Prop := ∃ v1 v2, e = .returned (.tuple #[.agg #[.int .i64 t.1, v1, v2], .int .i64 x]) ∧ TxOwn B w' v1 v2 t.2.1 t.2.2

set_option maxRecDepth 10000 in
set_option maxHeartbeats 1600000 in
theorem txParse_long (s : ByteArray) (hs : 4000 < s.size) (w : World) :
    Calls Tryz.prog 39 #[.string s] w fun e w' => TxIs w.heap.size w' e (0, [], []) 2 ∧ Below w.heap.size w w' := by
  have g : (4000 : Int) < (s.size : Int) := by omega
  have HB := hide (bel_new w resO)
  go_enter Tryz.func39, Tryz.ntmps39
  go_wp2
  (try simp only [Exit.inBlock, Exit.then])
  refine bodyPost_ret (v := .tuple #[.agg #[.int .i64 0, .slice none 0 0, .slice none 0 0], .int .i64 2]) ?_ rfl ⟨⟨_, _, rfl, TxOwn.nil _ _⟩, ?_⟩
  · rw [results_cell_tmp rfl]
    go_simp
  · first
      | exact unhide HB
      | exact (((unhide HB).setCell (Nat.le_refl _) _).setCell (Nat.le_refl _) _).setCell (Nat.le_refl _) _
      | exact bel_new w _

set_option maxRecDepth 10000 in
set_option maxHeartbeats 3200000 in
theorem txParse_text (s : ByteArray) (hs : s.size ≤ 4000) (hn : linesTx s = none) (w : World) (hE : EnvP w) :
    Calls Tryz.prog 39 #[.string s] w fun e w' => TxIs w.heap.size w' e (0, [], []) 1 ∧ Below w.heap.size w w' := by
  have g : ¬ (4000 : Int) < (s.size : Int) := by omega
  have bq := bel_new w resO
  have C := hide (parseLines_any s hs (w.alloc resO) (hE.later bq))
  rw [hn] at C
  have HQ : Hid ((w.alloc resO).heap[w.heap.size]? = some (.cells #[.int .i64 0, .slice none 0 0, .slice none 0 0] 78 (0, 0))) := heap_alloc_new _ _
  have HBQ := hide bq
  clear hE bq hn
  go_enter Tryz.func39, Tryz.ntmps39
  go_wp2_with fail
  refine (unhide C).mono ?_
  rintro e w2 ⟨he, hb2⟩
  change e = _ at he
  subst he
  obtain ⟨⟨q0, q1, q2⟩, qf⟩ := block_cells3 ((hb2.block _ (by simp)).trans (unhide HQ))
  have f0 := qf 0
  have f1 := qf 1
  have f2 := qf 2
  have hq2 : w.heap.size < w2.heap.size := World.block_lt_of_cell? _ _ q0
  have HB2 := hide (bel_on (unhide HBQ) hb2)
  clear hb2 qf
  go_wp2
  (try simp only [Exit.inBlock, Exit.then])
  refine bodyPost_ret (v := .tuple #[.agg #[.int .i64 0, .slice none 0 0, .slice none 0 0], .int .i64 1]) ?_ rfl ⟨⟨_, _, rfl, TxOwn.nil _ _⟩, ?_⟩
  · rw [results_cell_tmp rfl]
    go_simp
  · exact ((((unhide HB2).setCell (Nat.le_refl _) _).setCell (Nat.le_refl _) _).setCell (Nat.le_refl _) _).alloc (by simp; omega) _

set_option maxRecDepth 10000 in
set_option maxHeartbeats 3200000 in
theorem txParse_some (s : ByteArray) (hs : s.size ≤ 4000) (h : Int) (I : List InD) (O : List OutD) (hn : linesTx s = some (h, I, O)) (w : World) (hE : EnvP w) :
    Calls Tryz.prog 39 #[.string s] w fun e w' => TxIs w.heap.size w' e (if chkTx (h, I, O) = 0 then (h, I, O) else (0, [], [])) (chkTx (h, I, O)) ∧ Below w.heap.size w w' := by
  have g : ¬ (4000 : Int) < (s.size : Int) := by omega
  have bq := bel_new w resO
  have C := hide (parseLines_any s hs (w.alloc resO) (hE.later bq))
  rw [hn] at C
  have HQ : Hid ((w.alloc resO).heap[w.heap.size]? = some (.cells #[.int .i64 0, .slice none 0 0, .slice none 0 0] 78 (0, 0))) := heap_alloc_new _ _
  have HBQ := hide bq
  have esz : w.heap.size ≤ (w.alloc resO).heap.size := by simp
  clear hE bq hn
  by_cases hx : chkTx (h, I, O) = 0
  · rw [if_pos hx, hx]
    have HX := hide hx
    clear hx
    go_enter Tryz.func39, Tryz.ntmps39
    go_wp2_with fail
    refine (unhide C).mono ?_
    rintro e w2 ⟨he, hb2⟩
    obtain ⟨v1, v2, rfl, hown⟩ := he
    have hown' := hown.base esz
    obtain ⟨ai, ci, ao, co, rfl, rfl, hI, hO, sI, sO⟩ := hown'.at
    have ba := bel_new w2 (.cells #[.int .i64 h, .slice ai I.length ci, .slice ao O.length co] 78)
    have CK := hide (txCheck_any h ai ao I.length ci O.length co I O _ (hI.later ba) (hO.later ba) sI)
    rw [unhide HX] at CK
    obtain ⟨n0, n1, n2⟩ := three_new w2 (.int .i64 h) (.slice ai I.length ci) (.slice ao O.length co) 78
    have HQ2 := hide ((ba.block _ (by have := hb2.size; simp at this; omega)).trans ((hb2.block _ (by simp)).trans (unhide HQ)))
    have HOW := hide (hown'.later ba)
    have HN0 := hide n0
    have HN1 := hide n1
    have HN2 := hide n2
    have HB2 := hide (bel_on (bel_on (unhide HBQ) hb2) ba)
    clear hb2 hown hown' hI hO sI sO ba n0 n1 n2
    go_wp2_with fail
    refine (unhide CK).mono ?_
    rintro e w3 ⟨rfl, hb3⟩
    have m0 := cell_later hb3 (unhide HN0)
    have m1 := cell_later hb3 (unhide HN1)
    have m2 := cell_later hb3 (unhide HN2)
    have hQ3 := (hb3.block _ (lt_of_block (unhide HQ2))).trans (unhide HQ2)
    obtain ⟨⟨q0, q1, q2⟩, qf⟩ := block_cells3 hQ3
    have f0 := qf 0
    have f1 := qf 1
    have f2 := qf 2
    have hq3 : w.heap.size < w3.heap.size := World.block_lt_of_cell? _ _ q0
    have hq4 : w2.heap.size < w3.heap.size := World.block_lt_of_cell? _ _ m0
    have HQ3 := hide hQ3
    have HOW3 := hide ((unhide HOW).later hb3)
    have HB3 := hide (bel_on (unhide HB2) hb3)
    clear hb3 qf hQ3
    go_wp2
    (try simp only [Exit.inBlock, Exit.then])
    refine bodyPost_ret (v := .tuple #[.agg #[.int .i64 h, .slice ai I.length ci, .slice ao O.length co], .int .i64 0]) ?_ rfl ⟨⟨_, _, rfl, ?_⟩, ?_⟩
    · rw [results_cell_tmp rfl]
      go_simp
    · exact (unhide HOW3).far (far_three (unhide HQ3) _ _ _)
    · exact (((unhide HB3).setCell (Nat.le_refl _) _).setCell (Nat.le_refl _) _).setCell (Nat.le_refl _) _
  · rw [if_neg hx]
    obtain ⟨z, hz⟩ : ∃ z, chkTx (h, I, O) = z := ⟨_, rfl⟩
    rw [hz] at hx ⊢
    have gz : (z != 0) = true := by simp [hx]
    have HX := hide hz
    clear hx hz
    go_enter Tryz.func39, Tryz.ntmps39
    go_wp2_with fail
    refine (unhide C).mono ?_
    rintro e w2 ⟨he, hb2⟩
    obtain ⟨v1, v2, rfl, hown⟩ := he
    have hown' := hown.base esz
    obtain ⟨ai, ci, ao, co, rfl, rfl, hI, hO, sI, sO⟩ := hown'.at
    have ba := bel_new w2 (.cells #[.int .i64 h, .slice ai I.length ci, .slice ao O.length co] 78)
    have CK := hide (txCheck_any h ai ao I.length ci O.length co I O _ (hI.later ba) (hO.later ba) sI)
    rw [unhide HX] at CK
    have HQ2 := hide ((ba.block _ (by have := hb2.size; simp at this; omega)).trans ((hb2.block _ (by simp)).trans (unhide HQ)))
    have HB2 := hide (bel_on (bel_on (unhide HBQ) hb2) ba)
    clear hb2 hown hown' hI hO sI sO ba
    go_wp2_with fail
    refine (unhide CK).mono ?_
    rintro e w3 ⟨rfl, hb3⟩
    have hQ3 := (hb3.block _ (lt_of_block (unhide HQ2))).trans (unhide HQ2)
    obtain ⟨⟨q0, q1, q2⟩, qf⟩ := block_cells3 hQ3
    have f0 := qf 0
    have f1 := qf 1
    have f2 := qf 2
    have hq3 : w.heap.size < w3.heap.size := World.block_lt_of_cell? _ _ q0
    have HB3 := hide (bel_on (unhide HB2) hb3)
    clear hb3 qf hQ3
    go_wp2
    (try simp only [Exit.inBlock, Exit.then])
    refine bodyPost_ret (v := .tuple #[.agg #[.int .i64 0, .slice none 0 0, .slice none 0 0], .int .i64 z]) ?_ rfl ⟨⟨_, _, rfl, TxOwn.nil _ _⟩, ?_⟩
    · rw [results_cell_tmp rfl]
      go_simp
    · exact (((unhide HB3).setCell (Nat.le_refl _) _).setCell (Nat.le_refl _) _).setCell (Nat.le_refl _) _

theorem txParse_any (s : ByteArray) (w : World) (hE : EnvP w) :
    Calls Tryz.prog 39 #[.string s] w fun e w' => TxIs w.heap.size w' e (pT s) (pE s) ∧ Below w.heap.size w w' := by
  by_cases hs : 4000 < s.size
  · have e1 : pE s = 2 := by unfold pE; rw [if_pos hs]
    have e2 : pT s = (0, [], []) := by unfold pT; rw [e1]; rfl
    rw [e1, e2]
    exact txParse_long s hs w
  · cases hn : linesTx s with
    | none =>
      have e1 : pE s = 1 := by unfold pE; rw [if_neg hs, hn]
      have e2 : pT s = (0, [], []) := by unfold pT; rw [e1]; rfl
      rw [e1, e2]
      exact txParse_text s (by omega) hn w hE
    | some t =>
      obtain ⟨h, I, O⟩ := t
      have e1 : pE s = chkTx (h, I, O) := by unfold pE; rw [if_neg hs, hn]
      have e2 : pT s = if chkTx (h, I, O) = 0 then (h, I, O) else (0, [], []) := by unfold pT; rw [e1, hn]; rfl
      rw [e1, e2]
      exact txParse_some s (by omega) h I O hn w hE

end Go.Proofs.YthhlofipapfbnaaGreatDoor

/- Contracts of block.Names, whatever comes in, of namesFor and of turns. -/
namespace Go.Proofs.YthhlofipapfbnaaGreatDoor
open Go.RowKit

theorem nmGo_len : ∀ (l : List ByteArray) (L : List ByteArray) (N : List Int) (M : List ByteArray) (N' : List Int), Bk.nmGo L N l = (M, N', 0) → N'.length = N.length + l.length
  | [], L, N, M, N', h => by
    unfold Bk.nmGo at h
    injection h with _ h
    injection h with h _
    subst h
    rfl
  | s :: r, L, N, M, N', h => by
    unfold Bk.nmGo at h
    split at h
    · have := nmGo_len r _ _ M N' h
      rw [this, List.length_append, List.length_cons, List.length_cons, List.length_nil]
      omega
    · rename_i q
      injection h with _ h
      injection h with _ h
      exact absurd h q
theorem allR_len {L l M : List ByteArray} {N : List Int} (h : Bk.allR L l = (M, N, 0)) : N.length = l.length := by
  unfold Bk.allR at h
  split at h
  · have := nmGo_len l L [] M N h
    rw [this]
    simp
  · rename_i q
    injection h with _ h
    injection h with _ h
    exact absurd h q

theorem names_any (ka : Option Addr) (kn kc : Nat) (L : List ByteArray) (p h k n : Int) (a : Option Addr) (m c : Nat) (T : List TxD) (M : List ByteArray) (nm : Int) (N : List Int) (x : Int) (w : World) (hE : Env w) (hL : Bk.TextsAt w ka kn L) (hT : TxsAt w a m T) (hx : nmsB L (p, h, k, n, T) = (M, nm, N, x)) :
    Calls Tryz.prog 16 #[.agg #[.slice ka kn kc], .agg #[.int .i64 p, .int .i64 h, .int .i64 k, .int .i64 n, .slice a m c]] w fun e w' => NmR w w' M nm N x e := by
  have hz : T.length = m := hT.1
  unfold nmsB at hx
  by_cases h0 : chkB (p, h, k, n, T) = 0
  · rw [if_neg (by rw [h0]; decide)] at hx
    obtain ⟨⟨M', N', x'⟩, hr⟩ : ∃ r, Bk.allR L (txtsOf (p, h, k, n, T)) = r := ⟨_, rfl⟩
    rw [hr] at hx
    simp only [hz] at hx
    have hlen : x' = 0 → N'.length = m + 1 := fun e => by
      subst e
      rw [allR_len hr]
      unfold txtsOf
      simp [hz]
    by_cases hx0 : x' = 0
    · subst hx0
      rw [if_neg (by decide)] at hx
      injection hx with e1 e2
      injection e2 with e2 e3
      injection e3 with e3 e4
      subst e1 e2 e3 e4
      exact names_some ka kn kc L p h k n a m c T M' N' 0 w hE hL hT h0 hr hlen _ _ _ (if_pos rfl)
    · rw [if_pos hx0] at hx
      injection hx with e1 e2
      injection e2 with e2 e3
      injection e3 with e3 e4
      subst e1 e2 e3 e4
      exact names_some ka kn kc L p h k n a m c T M' N' x' w hE hL hT h0 hr hlen _ _ _ (if_neg hx0)
  · rw [if_pos h0] at hx
    injection hx with e1 e2
    injection e2 with e2 e3
    injection e3 with e3 e4
    subst e1 e2 e3
    exact names_bad ka kn kc p h k n a m c T x w hT e4 (by rw [← e4]; exact h0)

/-- What namesFor answers. -/
def nfD (K : List ByteArray) (C : List CoinD) (b : BlkD) : List Int × Int := if ckCoins C ≠ 0 then ([], ckCoins C) else ((nmsB K b).2.2.1, (nmsB K b).2.2.2)
def NfR (w w' : World) (N : List Int) (x : Int) (e : Ending) : Prop := ∃ a n c, e = .returned (.tuple #[.slice a n c, .int .i64 x]) ∧ Bk.IntsAt w' a n N ∧ n ≤ c ∧ Below w.heap.size w w'

set_option maxRecDepth 10000 in
set_option maxHeartbeats 1600000 in
theorem namesFor_is (ka : Option Addr) (kn kc : Nat) (L : List ByteArray) (la : Option Addr) (ln lc : Nat) (C : List CoinD) (p h k n : Int) (a : Option Addr) (m c : Nat) (T : List TxD) (N : List Int) (x : Int) (w : World) (hE : Env w) (hL : Bk.TextsAt w ka kn L) (hC : CoinsAt w la ln C) (hT : TxsAt w a m T) (hx : nfD L C (p, h, k, n, T) = (N, x)) :
    Calls Tryz.prog 57 #[.agg #[.slice ka kn kc], .slice la ln lc, .agg #[.int .i64 p, .int .i64 h, .int .i64 k, .int .i64 n, .slice a m c]] w fun e w' => NfR w w' N x e := by
  obtain ⟨X, hX⟩ : ∃ X, X = (w.alloc (.cells #[.slice ka kn kc] 37)).alloc (.cells #[.int .i64 p, .int .i64 h, .int .i64 k, .int .i64 n, .slice a m c] 24) := ⟨_, rfl⟩
  have hbX : Below w.heap.size w X := by rw [hX]; exact bel_on (bel_new _ _) (bel_new _ _)
  have hX1 : X.heap[w.heap.size]? = some (.cells [.slice ka kn kc].toArray 37 (0, 0)) := by
    rw [hX, Below.heap_alloc _ _ _ (by simp)]; exact one_heap _ _ _
  have hX2 : X.heap[w.heap.size + 1]? = some (.cells [.int .i64 p, .int .i64 h, .int .i64 k, .int .i64 n, .slice a m c].toArray 24 (0, 0)) := by
    rw [hX]
    have := five_heap (w.alloc (.cells #[.slice ka kn kc] 37)) (.int .i64 p) (.int .i64 h) (.int .i64 k) (.int .i64 n) (.slice a m c) 24
    rw [show (w.alloc (.cells #[.slice ka kn kc] 37)).heap.size = w.heap.size + 1 by simp] at this
    exact this
  obtain ⟨y, hy⟩ : ∃ y, ckCoins C = y := ⟨_, rfl⟩
  have CK := hide (uCheck_any la ln lc C y X (hC.later hbX) hy)
  have HX1 := hide hX1
  have HX2 := hide hX2
  have HBX := hide hbX
  unfold nfD at hx
  rw [hy] at hx
  by_cases hy0 : y = 0
  · subst hy0
    rw [if_neg (by decide)] at hx
    obtain ⟨⟨M, nm, N', x'⟩, hr⟩ : ∃ r, nmsB L (p, h, k, n, T) = r := ⟨_, rfl⟩
    rw [hr] at hx
    injection hx with e1 e2
    simp only at e1 e2
    subst e1 e2
    have NA := hide (fun W (hb : Below X.heap.size X W) => names_any ka kn kc L p h k n a m c T M nm N' x' W ((hE.later hbX).later hb) ((hL.later hbX).later hb) ((hT.later hbX).later hb) hr)
    clear hE hL hC hT hy hr hX1 hX2 hbX
    go_enter Tryz.func57, Tryz.ntmps57
    go_wp2_with fail
    rw [← hX]
    clear hX
    refine (unhide CK).mono ?_
    rintro e w1 ⟨rfl, hb1⟩
    have h1 := (hb1.block _ (lt_of_block (unhide HX1))).trans (unhide HX1)
    have h2 := (hb1.block _ (lt_of_block (unhide HX2))).trans (unhide HX2)
    have k0 := cell_of h1 0 _ rfl
    have b0 := cell_of h2 0 _ rfl
    have b1 := cell_of h2 1 _ rfl
    have b2 := cell_of h2 2 _ rfl
    have b3 := cell_of h2 3 _ rfl
    have b4 := cell_of h2 4 _ rfl
    have l1 := lt_of_block h1
    have l2 := lt_of_block h2
    have N1 := hide ((unhide NA) w1 hb1)
    have HB1 := hide (bel_on (unhide HBX) hb1)
    clear hb1 h1 h2 CK NA
    go_wp2_with fail
    refine (unhide N1).mono ?_
    rintro e w2 ⟨a', n', c', a2, n2, c2, rfl, _, _, hI, hc, hb2⟩
    have HF : Hid (NfR w (w2.alloc (.cells #[.slice a' n' c'] 37)) N' x' (.returned (.tuple #[.slice a2 n2 c2, .int .i64 x']))) := ⟨a2, n2, c2, rfl, hI.later (bel_new _ _), hc, bel_on (bel_on (unhide HB1) hb2) (bel_new _ _)⟩
    clear hI hc hb2
    go_wp2
    go_ret2
    exact unhide HF
  · rw [if_pos hy0] at hx
    injection hx with e1 e2
    subst e1 e2
    have gy : (y != 0) = true := by simp [hy0]
    clear hE hL hC hT hy hX1 hX2 hbX hy0
    go_enter Tryz.func57, Tryz.ntmps57
    go_wp2_with fail
    rw [← hX]
    clear hX
    refine (unhide CK).mono ?_
    rintro e w1 ⟨rfl, hb1⟩
    have HF : Hid (NfR w w1 [] y (.returned (.tuple #[.slice none 0 0, .int .i64 y]))) := ⟨none, 0, 0, rfl, Bk.IntsAt.nil _ _, Nat.le_refl _, bel_on (unhide HBX) hb1⟩
    clear hb1
    go_wp2
    go_ret2
    exact unhide HF

end Go.Proofs.YthhlofipapfbnaaGreatDoor

/- The contract of turns. -/
namespace Go.Proofs.YthhlofipapfbnaaGreatDoor
open Go.RowKit

def turnV (m i : Nat) : Value := .int .i64 (((i + 1) % m : Nat) : Int)

set_option maxRecDepth 10000 in
set_option maxHeartbeats 3200000 in
theorem turns_is (m : Nat) (w : World) (h0 : 0 < m) (hm : m ≤ 4) :
    Calls Tryz.prog 58 #[.int .i64 m] w fun e w' => e = .returned (.slice (some ⟨w.heap.size, 0, none⟩) m m) ∧ FillV w.heap.size 3 m (turnV m) w w' m := by
  obtain ⟨i0, hi, hz0, hz1, hz2⟩ := info_parts Tryz.infoInt
  go_enter Tryz.func58, Tryz.ntmps58
  go_wp2_with (at_make; refine wpList_make_full _ rfl _ _ 40 rfl w.heap.size 3 i0 (.int .i64 0) 1 Tryz.underlying40 hi hz0 hz1 .i64 .i64 _ _ m rfl rfl rfl rfl (by rw [hz2]; omega) (by unfold maxLen; omega) (Nat.le_refl _) ?_; intro w2 hown2 hgrow2)
  have hst : FillV w.heap.size 3 m (turnV m) w w2 0 := ⟨⟨_, hown2, fun j hj => absurd hj (by omega)⟩, (Below.refl _ _).grown hgrow2 (Nat.le_refl _) (fun k h => by cases h)⟩
  have HST := hide hst
  clear hst hown2 hgrow2
  go_loopw [8] (fun i wr => ∃ k : Nat, k ≤ m ∧ i = .int .i64 k ∧ FillV w.heap.size 3 m (turnV m) w wr k) (fun i _ => m - (intOf i).toNat)
  case atStart => exact ⟨0, Nat.zero_le _, rfl, unhide HST⟩
  case round =>
    obtain ⟨k, hk, rfl, hfl⟩ := hrel
    have HF := hide hfl
    by_cases hlt : k < m
    · obtain ⟨v, hold⟩ := hfl.old hlt
      have hfree := hfl.free k
      have hl3 := hfl.lt
      have hne : (m : Int) ≠ 0 := by omega
      have hmod : ((k : Int) + 1).tmod (m : Int) = (((k + 1) % m : Nat) : Int) := by
        rw [show ((k : Int) + 1) = ((k + 1 : Nat) : Int) by omega]
        rfl
      have hlm : (k + 1) % m < m := Nat.mod_lt _ h0
      obtain ⟨q, hq⟩ : ∃ q, (k + 1) % m = q := ⟨_, rfl⟩
      rw [hq] at hmod hlm
      have HQ := hide hq
      clear hfl hq
      go_wp2
      go_roundw
      case rel =>
        refine ⟨k + 1, by omega, by go_num, (unhide HF).step hlt ?_⟩
        unfold turnV
        rw [unhide HQ]
      case measure => simp [intOf]; omega
    · clear hfl
      have e : k = m := by omega
      subst e
      clear hk hlt
      go_wp2
      go_ret
      exact ⟨rfl, unhide HF⟩

end Go.Proofs.YthhlofipapfbnaaGreatDoor

/- The contract of coin.Reward. -/
namespace Go.Proofs.YthhlofipapfbnaaGreatDoor
open Go.RowKit

/-- What is made behind so many halvings. -/
def rwN : Nat → Nat
  | 0 => 64
  | n + 1 => rwN n / 2
theorem rwN_le : ∀ n, rwN n ≤ 64
  | 0 => Nat.le_refl _
  | n + 1 => by
    have := rwN_le n
    unfold rwN
    omega
/-- What Reward answers. -/
def rwD (h : Int) : Int × Int := if (decide (1 ≤ h) && decide (h ≤ 1000)) = true then ((rwN ((h - 1).toNat / 8) : Nat), 0) else (0, 3)

set_option maxRecDepth 10000 in
set_option maxHeartbeats 3200000 in
theorem reward_is (h r x : Int) (w : World) (hx : rwD h = (r, x)) :
    Calls Tryz.prog 29 #[.int .i64 h] w fun e w' => e = .returned (.tuple #[.int .i64 r, .int .i64 x]) ∧ Below w.heap.size w w' := by
  unfold rwD at hx
  cases q : (decide ((1 : Int) ≤ h) && decide (h ≤ 1000)) with
  | false =>
    rw [q, if_neg (by decide)] at hx
    injection hx with e1 e2
    subst e1 e2
    have CC := hide (within_bel h 1 1000 false w q)
    clear q
    go_enter Tryz.func29, Tryz.ntmps29
    go_wp2_with fail
    refine (unhide CC).mono ?_
    rintro e w1 ⟨rfl, hb1⟩
    have HB := hide hb1
    clear hb1
    go_wp2
    go_ret2
    exact ⟨rfl, unhide HB⟩
  | true =>
    rw [q, if_pos rfl] at hx
    injection hx with e1 e2
    subst e2
    have CC := hide (within_bel h 1 1000 true w q)
    rw [Bool.and_eq_true, decide_eq_true_eq, decide_eq_true_eq] at q
    obtain ⟨k, rfl⟩ : ∃ k : Nat, h = (k : Int) + 1 := ⟨(h - 1).toNat, by omega⟩
    have hk : k < 1000 := by omega
    rw [show (((k : Int) + 1 - 1).toNat) = k by omega] at e1
    obtain ⟨n, hn⟩ : ∃ n, k / 8 = n := ⟨_, rfl⟩
    have hq : ((k : Int)).tdiv 8 = (n : Int) := by rw [← hn]; rfl
    have hn2 : n ≤ 125 := by omega
    rw [hn] at e1
    have HR := hide e1
    clear q e1 hn
    go_enter Tryz.func29, Tryz.ntmps29
    go_wp2_with fail
    refine (unhide CC).mono ?_
    rintro e w1 ⟨rfl, hb1⟩
    have HB := hide hb1
    clear hb1
    go_wp2
    go_loopw [4, 11] (fun v i wr => ∃ j : Nat, j ≤ n ∧ v = .int .i64 (rwN j : Nat) ∧ i = .int .i64 j ∧ Hid (Below w.heap.size w wr)) (fun _ i _ => n - (intOf i).toNat)
    case atStart => exact ⟨0, Nat.zero_le _, rfl, rfl, HB⟩
    case round =>
      obtain ⟨j, hj, rfl, rfl, HBr⟩ := hrel
      have hle := rwN_le j
      by_cases hlt : j < n
      · have hd : ((rwN j : Nat) : Int).tdiv 2 = ((rwN (j + 1) : Nat) : Int) := rfl
        have hle2 := rwN_le (j + 1)
        obtain ⟨a, ha⟩ : ∃ a, rwN j = a := ⟨_, rfl⟩
        obtain ⟨b, hb⟩ : ∃ b, rwN (j + 1) = b := ⟨_, rfl⟩
        rw [ha, hb] at hd
        rw [ha] at hle
        rw [hb] at hle2
        rw [ha]
        have HBB := hide hb
        clear ha hb
        go_wp2
        go_roundw
        case rel => exact ⟨j + 1, by omega, by rw [unhide HBB], by go_num, HBr⟩
        case measure => simp [intOf]; omega
      · have e : j = n := by omega
        subst e
        go_wp2
        go_ret2
        exact ⟨by rw [unhide HR]; rfl, unhide HBr⟩

end Go.Proofs.YthhlofipapfbnaaGreatDoor
