/- What waits: mathematics, 2: what each that stays leaves behind; what Sweep, Accept and Make answer. -/
import Derived.Test.YtmomfkikogbdeaaGreatDoorBlkDisLToPolOpen
import Derived.Test.YtmomfkikogbdeaaGreatDoorCoinApplyB
import Derived.Test.YtmomfkikogbdeaaGreatDoorCoinPlaceToBlkMem
import Derived.Test.YtmomfkikogbdeaaGreatDoorTxStateToChnStep
namespace Go.Proofs.YtmomfkikogbdeaaGreatDoor
open Bk (Right nm nameR)

theorem do_parts {h : Int} {K K' : List ByteArray} {C C' : List CoinD} {t : TxD} (e : doD h (K, C) t = (0, K', C')) :
    chkTx t = 0 ∧ t.2.1.length ≠ 0 ∧ ∃ n S, nameR K (txT t) = (K', n, 0) ∧ apD C t n h = (0, C', S) := by
  unfold doD at e
  split at e
  · rename_i q; injection e with e _; exact absurd e q
  rename_i q1
  split at e
  · injection e with e _; exact absurd (show (4 : Int) = 0 from e) (by decide)
  rename_i q2
  split at e
  · rename_i q; injection e with e _; exact absurd e q
  rename_i q3
  split at e
  · rename_i q; injection e with e _; exact absurd e q
  rename_i q4
  injection e with _ e
  injection e with e1 e2
  exact ⟨Decidable.not_not.1 q1, q2, _, _, Prod.ext e1 (Prod.ext rfl (Decidable.not_not.1 q3)), Prod.ext (Decidable.not_not.1 q4) (Prod.ext e2 rfl)⟩
theorem do_facts {h : Int} {K K' : List ByteArray} {C C' : List CoinD} {t : TxD} (hK : Right K) (e : doD h (K, C) t = (0, K', C')) :
    Right K' ∧ (∃ M, K' = K ++ M) ∧ RightC C' ∧ sumC C' ≤ sumC C ∧ chkTx t = 0 := by
  obtain ⟨h1, h2, n, S, h3, h4⟩ := do_parts e
  obtain ⟨d1, d2, _⟩ := do_again hK (show (doD h (K, C) t).1 = 0 by rw [e])
  rw [e] at d1 d2
  exact ⟨d1, d2, (ap_right h4).2.1, (back_sum h4).2 h2, h1⟩

/-- Those that stay, with the coins behind each. -/
def swT (h : Int) : List TxD → List ByteArray × List CoinD → List (TxD × List CoinD)
  | [], _ => []
  | t :: l, s => if (doD h s t).1 = 0 then (t, (doD h s t).2.2) :: swT h l (doD h s t).2 else swT h l s
def lastC (C : List CoinD) (X : List (TxD × List CoinD)) : List CoinD := (X.getLast?.map (·.2)).getD C
theorem lastC_nil (C : List CoinD) : lastC C [] = C := rfl
theorem lastC_snoc (C : List CoinD) (X : List (TxD × List CoinD)) (t : TxD) (C' : List CoinD) : lastC C (X ++ [(t, C')]) = C' := by simp [lastC]
theorem lastC_cons (C : List CoinD) (X : List (TxD × List CoinD)) (t : TxD) (C' : List CoinD) : lastC C ((t, C') :: X) = lastC C' X := by
  cases X with
  | nil => rfl
  | cons y X =>
    obtain ⟨z, hz⟩ : ∃ z, (y :: X).getLast? = some z := ⟨_, List.getLast?_eq_some_getLast (by simp)⟩
    unfold lastC
    rw [List.getLast?_cons_cons, hz]
    rfl
theorem swT_map (h : Int) : ∀ (l : List TxD) (s : List ByteArray × List CoinD), (swT h l s).map (·.1) = (swGo h l s).1
  | [], _ => rfl
  | t :: l, s => by
    rw [swT, swGo]
    split
    · rw [List.map_cons, swT_map h l]
    · exact swT_map h l s
theorem swT_last (h : Int) : ∀ (l : List TxD) (s : List ByteArray × List CoinD), lastC s.2 (swT h l s) = (swGo h l s).2.2
  | [], _ => rfl
  | t :: l, s => by
    rw [swT, swGo]
    split
    · rw [lastC_cons, swT_last h l]
    · exact swT_last h l s
theorem swT_len (h : Int) : ∀ (l : List TxD) (s : List ByteArray × List CoinD), (swT h l s).length ≤ l.length
  | [], _ => Nat.le_refl _
  | t :: l, s => by
    rw [swT]
    split
    · rw [List.length_cons, List.length_cons]; exact Nat.succ_le_succ (swT_len h l _)
    · exact Nat.le_succ_of_le (swT_len h l s)
theorem sw_coins {h : Int} : ∀ (l : List TxD) (K : List ByteArray) (C : List CoinD), Right K → RightC C → RightC (swGo h l (K, C)).2.2 ∧ sumC (swGo h l (K, C)).2.2 ≤ sumC C ∧ ∀ t ∈ (swGo h l (K, C)).1, chkTx t = 0 ∧ t.2.1.length ≠ 0
  | [], K, C, _, hC => ⟨hC, Int.le_refl _, fun _ q => by cases q⟩
  | t :: l, K, C, hK, hC => by
    rw [swGo]
    by_cases q : (doD h (K, C) t).1 = 0
    · rw [if_pos q]
      have e : doD h (K, C) t = (0, (doD h (K, C) t).2.1, (doD h (K, C) t).2.2) := Prod.ext q rfl
      obtain ⟨d1, _, d3, d4, d5⟩ := do_facts hK e
      obtain ⟨s1, s2, s3⟩ := sw_coins (h := h) l _ _ d1 d3
      refine ⟨s1, Int.le_trans s2 d4, fun x hx => ?_⟩
      rcases List.mem_cons.1 hx with rfl | hx
      · exact ⟨d5, (do_parts e).2.1⟩
      · exact s3 x hx
    · rw [if_neg q]
      exact sw_coins l K C hK hC

/-- What Sweep answers: what is wrong, the book, what stays, the coins, what is left over. -/
def swE (K : List ByteArray) (C : List CoinD) (l : List TxD) (h : Int) : Int :=
  if openE K C h ≠ 0 then openE K C h else if 8 < l.length then 2 else 0
theorem openE_zero {K : List ByteArray} {C : List CoinD} {h : Int} (e : openE K C h = 0) : Right K ∧ RightC C ∧ 1 ≤ h ∧ h ≤ 1000 := by
  unfold openE at e
  split at e
  · rename_i q; exact absurd e q
  rename_i q1
  split at e
  · rename_i q; exact absurd e q
  rename_i q2
  split at e
  · exact absurd e (by decide)
  rename_i q3
  simp at q3
  exact ⟨(Bk.right_iff K).1 (Decidable.not_not.1 q1), (ckCoins_zero C).1 (Decidable.not_not.1 q2), q3.1, q3.2⟩
theorem openE_mk {K : List ByteArray} {C : List CoinD} {h : Int} (hK : Right K) (hC : RightC C) (h1 : 1 ≤ h) (h2 : h ≤ 1000) : openE K C h = 0 := by
  unfold openE
  rw [if_neg (fun q => q ((Bk.right_iff K).2 hK)), if_neg (fun q => q ((ckCoins_zero C).2 hC)), if_neg (by simp [h1, h2])]
theorem swE_zero {K : List ByteArray} {C : List CoinD} {l : List TxD} {h : Int} (e : swE K C l h = 0) : openE K C h = 0 ∧ l.length ≤ 8 := by
  unfold swE at e
  split at e
  · rename_i q; exact absurd e q
  rename_i q1
  split at e
  · exact absurd e (by decide)
  exact ⟨Decidable.not_not.1 q1, by omega⟩
/-- What Accept answers. -/
def acE (K : List ByteArray) (C : List CoinD) (l : List TxD) (t : TxD) (h : Int) : Int × List ByteArray × List TxD :=
  if swE K C l h ≠ 0 then (swE K C l h, [], []) else if ((swGo h l (K, C)).1.any fun x => sameT x t) = true then (6, [], []) else
  if (doD h (swGo h l (K, C)).2 t).1 ≠ 0 then ((doD h (swGo h l (K, C)).2 t).1, [], []) else if (swGo h l (K, C)).1.length = 8 then (12, [], []) else
  (0, (doD h (swGo h l (K, C)).2 t).2.1, (swGo h l (K, C)).1 ++ [t])
/-- What Make answers. -/
def payD (h n : Int) (lk : List (Int × Int)) : TxD := (h, [], [(n, lk)])
def zeroB : BlkD := (0, 0, 0, 0, [])
def feeD (h : Int) (l : List TxD) (K : List ByteArray) (C : List CoinD) : Int := sumC C - sumC (lastC C ((swT h l (K, C)).take 3))
def mkE (K : List ByteArray) (C : List CoinD) (l : List TxD) (p h wk n : Int) (lk : List (Int × Int)) : Int × BlkD :=
  if swE K C l h ≠ 0 then (swE K C l h, zeroB) else if (rwD h).1 + feeD h l K C = 0 then (9, zeroB) else
  if chkB (p, h, wk, n, payD h ((rwD h).1 + feeD h l K C) lk :: (swGo h l (K, C)).1.take 3) ≠ 0 then (chkB (p, h, wk, n, payD h ((rwD h).1 + feeD h l K C) lk :: (swGo h l (K, C)).1.take 3), zeroB) else
  (0, (p, h, wk, n, payD h ((rwD h).1 + feeD h l K C) lk :: (swGo h l (K, C)).1.take 3))

end Go.Proofs.YtmomfkikogbdeaaGreatDoor

/- The contract of Total. -/
namespace Go.Proofs.YtmomfkikogbdeaaGreatDoor
open Go.RowKit

set_option maxHeartbeats 400000 in
theorem total1_is (x : CoinD) (a : Option Addr) (n c : Nat) (w : World) : Calls Tryz.prog 81 #[cnV x a n c] w fun e w' => e = .returned (.bool true) ∧ Below w.heap.size w w' := by
  unfold cnV
  have HB := hide (bel_new w (.cells #[.int .i64 x.1, .int .i64 x.2.1, .int .i64 (cv x), .slice a n c, .int .i64 (ch x), .bool (cr x)] 124))
  go_enter Tryz.func81, Tryz.ntmps81
  go_wp2
  go_ret
  exact ⟨rfl, unhide HB⟩

set_option maxRecDepth 10000 in
set_option maxHeartbeats 3200000 in
theorem sumOf_total (a : Option Addr) (n c : Nat) (L : List CoinD) (x s : Int) (w : World) (h : CoinsAt w a n L) (hx : ckCoins L = x) (hs : (if x = 0 then sumC L else 0) = s) :
    Calls Tryz.prog 80 #[.slice a n c, .func (.func 81) #[] #[]] w fun e w' => e = .returned (.tuple #[.int .i64 s, .int .i64 x]) ∧ Below w.heap.size w w' := by
  have C1 := hide (uCheck_any a n c L x w h hx)
  by_cases e1 : x = 0
  · subst e1
    rw [if_pos rfl] at hs
    have hR := (ckCoins_zero L).1 hx
    have hn : n ≤ 720 := by rw [← h.1]; exact hR.len
    have HSB := hide (fun k => sumC_bd L k (fun z hz => by have := ck1_zero (hR.one z hz); omega))
    have HL := hide h
    have HZ := hide h.1
    have HS := hide hs
    clear hR h hx hs
    go_enter Tryz.func80, Tryz.ntmps80
    go_wp2_with fail
    refine (unhide C1).mono ?_
    rintro e w2 ⟨rfl, hb2⟩
    have HB2 := hide hb2
    clear hb2 C1
    go_wp2
    go_loopw [7, 17] (fun sv i wr => ∃ (k : Nat) (d : Int), k ≤ n ∧ sv = .int .i64 d ∧ i = .int .i64 k ∧ Hid (d = sumC (L.take k)) ∧ Hid (Below w.heap.size w wr)) (fun _ i _ => n - (intOf i).toNat)
    case atStart => exact ⟨0, 0, Nat.zero_le _, rfl, rfl, rfl, HB2⟩
    case round =>
      obtain ⟨k, d, hk, rfl, rfl, A, HB⟩ := hrel
      by_cases hlt : k < n
      · have hlk : k < L.length := by rw [unhide HZ]; exact hlt
        obtain ⟨b, off, rfl, hbl, hcell⟩ := (unhide HL).2 (by omega)
        have hin := CoinAt.kept _ _ _ _ _ (unhide HB) (hcell k hlk)
        have b1 := (unhide HSB) k
        have b2 := (unhide HSB) (k + 1)
        have hst := sumC_take L k hlk
        obtain ⟨y, hy⟩ : ∃ y, L[k] = y := ⟨_, rfl⟩
        rw [hy] at hin hst
        obtain ⟨la, ln, lc, g0, g1, g2, g3, g4, g5, _, _⟩ := hin.val
        obtain ⟨v, hv⟩ : ∃ v, cv y = v := ⟨_, rfl⟩
        have T1 := fun w => total1_is y la ln lc w
        unfold cnV at T1
        rw [hv] at g2 hst T1
        have HT1 := hide T1
        rw [← unhide A] at b1 hst
        rw [hst] at b2
        have A2 : Hid (d + v = sumC (L.take (k + 1))) := hst.symm
        obtain ⟨X, hX⟩ : ∃ X, X = wr.alloc (.cells #[.int .i64 y.1, .int .i64 y.2.1, .int .i64 v, .slice la ln lc, .int .i64 (ch y), .bool (cr y)] 124) := ⟨_, rfl⟩
        have hbX : Below wr.heap.size wr X := by rw [hX]; exact bel_new _ _
        have hX1 : X.heap[wr.heap.size]? = some (.cells [.int .i64 y.1, .int .i64 y.2.1, .int .i64 v, .slice la ln lc, .int .i64 (ch y), .bool (cr y)].toArray 124 (0, 0)) := by rw [hX]; exact six_heap _ _ _ _ _ _ _ _
        have m2 := cell_of hX1 2 _ rfl
        have HBX := hide (bel_on (unhide HB) hbX)
        have hw1 : IntKind.i64.wrap (d + v) = d + v := by rw [IntKind.wrap_i64]; omega
        clear hin hy hst A HB T1 hv hX1 hbX
        go_wp2_with fail
        rw [← hX]
        clear hX
        refine ((unhide HT1) _).mono ?_
        rintro e w3 ⟨rfl, hb3⟩
        have n2 := cell_later hb3 m2
        have hl3 := World.block_lt_of_cell? _ _ n2
        have HB3 := hide (bel_on (unhide HBX) hb3)
        clear hb3 m2
        go_wp2
        go_roundw
        case rel => exact ⟨k + 1, d + v, by omega, rfl, by go_num, A2, HB3⟩
        case measure => simp [intOf]; omega
      · have e : k = n := by omega
        subst e
        have R : Hid (d = s) := by
          show _ = _
          rw [unhide A, List.take_of_length_le (by rw [unhide HZ]; exact Nat.le_refl _)]
          exact unhide HS
        clear A
        go_wp2
        go_ret2
        exact ⟨by rw [← unhide R]; rfl, unhide HB⟩
  · rw [if_neg e1] at hs
    subst hs
    have g : (x != 0) = true := by simp [e1]
    clear h hx e1
    go_enter Tryz.func80, Tryz.ntmps80
    go_wp2_with fail
    refine (unhide C1).mono ?_
    rintro e w2 ⟨rfl, hb2⟩
    have HB2 := hide hb2
    clear hb2 C1
    go_wp2
    go_ret2
    exact ⟨rfl, unhide HB2⟩

set_option maxHeartbeats 400000 in
theorem total_is (a : Option Addr) (n c : Nat) (L : List CoinD) (x s : Int) (w : World) (h : CoinsAt w a n L) (hx : ckCoins L = x) (hs : (if x = 0 then sumC L else 0) = s) :
    Calls Tryz.prog 25 #[.slice a n c] w fun e w' => e = .returned (.tuple #[.int .i64 s, .int .i64 x]) ∧ Below w.heap.size w w' := by
  have C := hide (sumOf_total a n c L x s w h hx hs)
  clear h hx hs
  go_enter Tryz.func25, Tryz.ntmps25
  go_wp2_with fail
  refine (unhide C).mono ?_
  rintro e w2 ⟨rfl, hb2⟩
  have HB2 := hide hb2
  clear hb2
  go_wp2
  go_ret2
  exact ⟨rfl, unhide HB2⟩

end Go.Proofs.YtmomfkikogbdeaaGreatDoor

/- The contract of worth. -/
namespace Go.Proofs.YtmomfkikogbdeaaGreatDoor
open Go.RowKit

theorem pWorth_is (a : Option Addr) (n c : Nat) (L : List CoinD) (s : Int) (w : World) (h : CoinsAt w a n L) (hR : RightC L) (hs : sumC L = s) :
    Calls Tryz.prog 158 #[.slice a n c] w fun e w' => e = .returned (.int .i64 s) ∧ Below w.heap.size w w' := by
  have C1 := hide (total_is a n c L 0 s w h ((ckCoins_zero L).2 hR) (by rw [if_pos rfl]; exact hs))
  clear h hR hs
  go_enter Tryz.func158, Tryz.ntmps158
  go_wp2_with fail
  refine (unhide C1).mono ?_
  rintro e w1 ⟨rfl, hb⟩
  have HB := hide hb
  clear hb C1
  go_wp2
  go_ret
  exact ⟨rfl, unhide HB⟩

end Go.Proofs.YtmomfkikogbdeaaGreatDoor

/- Trees as plain data and in memory; what is wrong with one, paths, work, the best one, forks. -/
namespace Go.Proofs.YtmomfkikogbdeaaGreatDoor.Tr
open Go.RowKit

def IntsAt (w : World) (a : Option Addr) (len : Nat) (Z : List Int) : Prop :=
  Z.length = len ∧ (0 < len → ∃ b off, a = some ⟨b, off, none⟩ ∧ b < w.heap.size ∧ ∀ i (h : i < Z.length), w.cell? ⟨b, off + i, none⟩ = some (.int .i64 Z[i]))
theorem IntsAt.later {w w' : World} {a : Option Addr} {len : Nat} {Z : List Int} (h : IntsAt w a len Z) (hb : Below w.heap.size w w') : IntsAt w' a len Z := by
  refine ⟨h.1, fun h0 => ?_⟩
  obtain ⟨b, off, e, hl, hc⟩ := h.2 h0
  exact ⟨b, off, e, Nat.lt_of_lt_of_le hl hb.size, fun i hi => cell_later hb (hc i hi)⟩
theorem IntsAt.nil (w : World) (a : Option Addr) : IntsAt w a 0 [] := ⟨rfl, fun h => absurd h (by omega)⟩
theorem IntsAt.take {w : World} {a : Option Addr} {len : Nat} {l : List Int} (h : IntsAt w a len l) (k : Nat) (hk : k ≤ len) : IntsAt w a k (l.take k) := by
  have hl := h.1
  refine ⟨by rw [List.length_take]; omega, fun h0 => ?_⟩
  obtain ⟨b, off, e, hb, hc⟩ := h.2 (by omega)
  refine ⟨b, off, e, hb, fun i hi => ?_⟩
  rw [List.length_take] at hi
  rw [List.getElem_take]
  exact hc i (by omega)
theorem ints_of_own {w : World} {base : Nat} {v : Value} {n : Nat} {N : List Int} (h : w.ownsRow base 3 1 v n (N.map (Value.int .i64))) : ∃ a cap, v = .slice a n cap ∧ SlOk a n cap ∧ IntsAt w a n N := by
  have hl : N.length = n := by simpa using h.1
  rcases h.2 with ⟨rfl, rfl⟩ | ⟨g, cap, cur, rfl, hg, hh, h1, h2, h3, h4⟩
  · exact ⟨none, 0, rfl, ⟨Nat.le_refl _, Nat.zero_le _, fun _ => ⟨rfl, rfl⟩⟩, hl, fun h => absurd h (by omega)⟩
  · refine ⟨_, cap, rfl, ⟨h1, h2, fun e => by cases e⟩, hl, fun _ => ⟨g, 0, rfl, lt_of_block hh, fun i hi => ?_⟩⟩
    rw [Nat.zero_add, World.ownsRow.cellAt h _ (by omega)]
    simp [hi]

def BlkAt (w : World) (b o : Nat) (x : BlkD) : Prop :=
  w.cell? ⟨b, o, none⟩ = some (.int .i64 x.1) ∧ w.cell? ⟨b, o + 1, none⟩ = some (.int .i64 x.2.1) ∧ w.cell? ⟨b, o + 2, none⟩ = some (.int .i64 x.2.2.1) ∧ w.cell? ⟨b, o + 3, none⟩ = some (.int .i64 x.2.2.2.1) ∧
  ∃ a n c, w.cell? ⟨b, o + 4, none⟩ = some (.slice a n c) ∧ TxsAt w a n x.2.2.2.2 ∧ SlOk a n c
theorem BlkAt.kept : KeptR BlkAt := fun _ _ _ _ _ hb h => by
  obtain ⟨h1, h2, h3, h4, a, n, c, h5, h6, h7⟩ := h
  exact ⟨cell_later hb h1, cell_later hb h2, cell_later hb h3, cell_later hb h4, a, n, c, cell_later hb h5, h6.later hb, h7⟩
def BlksAt (w : World) (a : Option Addr) (len : Nat) (l : List BlkD) : Prop := RowsAt BlkAt 5 w a len l
theorem BlksAt.later {w w' : World} {a : Option Addr} {len : Nat} {l : List BlkD} (h : BlksAt w a len l) (hb : Below w.heap.size w w') : BlksAt w' a len l := RowsAt.later BlkAt.kept h hb

/-! Records. -/
theorem cells3 {w : World} {b o : Nat} {x y z : Value} (h0 : w.cell? ⟨b, o, none⟩ = some x) (h1 : w.cell? ⟨b, o + 1, none⟩ = some y) (h2 : w.cell? ⟨b, o + 2, none⟩ = some z) : CellsAt w b o [x, y, z] := by
  intro j u hj
  match j, hj with
  | 0, hj => cases hj; exact h0
  | 1, hj => cases hj; exact h1
  | 2, hj => cases hj; exact h2
  | j + 3, hj => simp at hj
theorem cells2 {w : World} {b o : Nat} {x y : Value} (h0 : w.cell? ⟨b, o, none⟩ = some x) (h1 : w.cell? ⟨b, o + 1, none⟩ = some y) : CellsAt w b o [x, y] := by
  intro j u hj
  match j, hj with
  | 0, hj => cases hj; exact h0
  | 1, hj => cases hj; exact h1
  | j + 2, hj => simp at hj
theorem cells5 {w : World} {b o : Nat} {x y z r s : Value} (h0 : w.cell? ⟨b, o, none⟩ = some x) (h1 : w.cell? ⟨b, o + 1, none⟩ = some y) (h2 : w.cell? ⟨b, o + 2, none⟩ = some z) (h3 : w.cell? ⟨b, o + 3, none⟩ = some r) (h4 : w.cell? ⟨b, o + 4, none⟩ = some s) : CellsAt w b o [x, y, z, r, s] := by
  intro j u hj
  match j, hj with
  | 0, hj => cases hj; exact h0
  | 1, hj => cases hj; exact h1
  | 2, hj => cases hj; exact h2
  | 3, hj => cases hj; exact h3
  | 4, hj => cases hj; exact h4
  | j + 5, hj => simp at hj

def inR : Rec InD where
  sz := 3
  C w cs x := ∃ a n c, cs = [.int .i64 x.1, .int .i64 x.2.1, .slice a n c] ∧ OpsAt w a n x.2.2 ∧ SlOk a n c
  R := InAt
  wide _ _ _ := by rintro ⟨a, n, c, rfl, _⟩; rfl
  one _ _ _ := by rintro ⟨a, n, c, rfl, _⟩ v hv; simp at hv; rcases hv with rfl | rfl | rfl <;> rfl
  kept _ _ _ _ hb := by rintro ⟨a, n, c, rfl, h1, h2⟩; exact ⟨a, n, c, rfl, h1.later hb, h2⟩
  rc _ _ _ _ := by rintro ⟨h1, h2, a, n, c, h3, h4, h5⟩; exact ⟨_, cells3 h1 h2 h3, a, n, c, rfl, h4, h5⟩
  cr _ _ _ _ _ h := by rintro ⟨a, n, c, rfl, h1, h2⟩; exact ⟨h 0 _ rfl, h 1 _ rfl, a, n, c, h 2 _ rfl, h1, h2⟩
def outR : Rec OutD where
  sz := 2
  C w cs x := ∃ a n c, cs = [.int .i64 x.1, .slice a n c] ∧ OpsAt w a n x.2 ∧ SlOk a n c
  R := OutAt
  wide _ _ _ := by rintro ⟨a, n, c, rfl, _⟩; rfl
  one _ _ _ := by rintro ⟨a, n, c, rfl, _⟩ v hv; simp at hv; rcases hv with rfl | rfl <;> rfl
  kept _ _ _ _ hb := by rintro ⟨a, n, c, rfl, h1, h2⟩; exact ⟨a, n, c, rfl, h1.later hb, h2⟩
  rc _ _ _ _ := by rintro ⟨h1, a, n, c, h3, h4, h5⟩; exact ⟨_, cells2 h1 h3, a, n, c, rfl, h4, h5⟩
  cr _ _ _ _ _ h := by rintro ⟨a, n, c, rfl, h1, h2⟩; exact ⟨h 0 _ rfl, a, n, c, h 1 _ rfl, h1, h2⟩
def txR : Rec TxD where
  sz := 3
  C w cs x := ∃ a n c a' n' c', cs = [.int .i64 x.1, .slice a n c, .slice a' n' c'] ∧ InsAt w a n x.2.1 ∧ SlOk a n c ∧ OutsAt w a' n' x.2.2 ∧ SlOk a' n' c'
  R := TxAt
  wide _ _ _ := by rintro ⟨a, n, c, a', n', c', rfl, _⟩; rfl
  one _ _ _ := by rintro ⟨a, n, c, a', n', c', rfl, _⟩ v hv; simp at hv; rcases hv with rfl | rfl | rfl <;> rfl
  kept _ _ _ _ hb := by rintro ⟨a, n, c, a', n', c', rfl, h1, h2, h3, h4⟩; exact ⟨a, n, c, a', n', c', rfl, h1.later hb, h2, h3.later hb, h4⟩
  rc _ _ _ _ := by rintro ⟨h1, ⟨a, n, c, h2, h3, h4⟩, a', n', c', h5, h6, h7⟩; exact ⟨_, cells3 h1 h2 h5, a, n, c, a', n', c', rfl, h3, h4, h6, h7⟩
  cr _ _ _ _ _ h := by rintro ⟨a, n, c, a', n', c', rfl, h1, h2, h3, h4⟩; exact ⟨h 0 _ rfl, ⟨a, n, c, h 1 _ rfl, h1, h2⟩, a', n', c', h 2 _ rfl, h3, h4⟩
def blkR : Rec BlkD where
  sz := 5
  C w cs x := ∃ a n c, cs = [.int .i64 x.1, .int .i64 x.2.1, .int .i64 x.2.2.1, .int .i64 x.2.2.2.1, .slice a n c] ∧ TxsAt w a n x.2.2.2.2 ∧ SlOk a n c
  R := BlkAt
  wide _ _ _ := by rintro ⟨a, n, c, rfl, _⟩; rfl
  one _ _ _ := by rintro ⟨a, n, c, rfl, _⟩ v hv; simp at hv; rcases hv with rfl | rfl | rfl | rfl | rfl <;> rfl
  kept _ _ _ _ hb := by rintro ⟨a, n, c, rfl, h1, h2⟩; exact ⟨a, n, c, rfl, h1.later hb, h2⟩
  rc _ _ _ _ := by rintro ⟨h1, h2, h3, h4, a, n, c, h5, h6, h7⟩; exact ⟨_, cells5 h1 h2 h3 h4 h5, a, n, c, rfl, h6, h7⟩
  cr _ _ _ _ _ h := by rintro ⟨a, n, c, rfl, h1, h2⟩; exact ⟨h 0 _ rfl, h 1 _ rfl, h 2 _ rfl, h 3 _ rfl, a, n, c, h 4 _ rfl, h1, h2⟩

/-! Trees: the names and the blocks. -/
def idxI (x : Int) : List Int → Nat → Int
  | [], _ => -1
  | a :: r, k => if x = a then k else idxI x r (k + 1)
theorem idxI_at (x : Int) (L : List Int) (k : Nat) (h : k < L.length) : idxI x (L.drop k) k = if x = L[k] then (k : Int) else idxI x (L.drop (k + 1)) (k + 1) := by
  rw [List.drop_eq_getElem_cons h]; rfl
theorem idxI_end (x : Int) (L : List Int) (k : Nat) (h : L.length ≤ k) : idxI x (L.drop k) k = -1 := by
  rw [List.drop_of_length_le h]; rfl
def zeroB : BlkD := (0, 0, 0, 0, [])
def fnd (x : Int) : List Int → List BlkD → BlkD
  | a :: N, b :: T => if x = a then b else fnd x N T
  | _, _ => zeroB
theorem idxI_fnd (x : Int) : ∀ (N : List Int) (T : List BlkD) (k : Nat), N.length = T.length → (idxI x N k = -1 ∧ x ∉ N ∧ fnd x N T = zeroB) ∨ ∃ i, ∃ h : i < T.length, idxI x N k = (k + i : Nat) ∧ x ∈ N ∧ fnd x N T = T[i]
  | [], _, _, _ => .inl ⟨rfl, by simp, by simp [fnd]⟩
  | a :: N, [], _, h => by cases h
  | a :: N, b :: T, k, h => by
    by_cases e : x = a
    · exact .inr ⟨0, by simp, by simp [idxI, e], by simp [e], by simp [fnd, e]⟩
    · rcases idxI_fnd x N T (k + 1) (by simpa using h) with ⟨h1, h2, h3⟩ | ⟨i, hi, h1, h2, h3⟩
      · exact .inl ⟨by simp [idxI, e, h1], by simp [e, h2], by simp [fnd, e, h3]⟩
      · exact .inr ⟨i + 1, by simpa using hi, by simp [idxI, e, h1]; omega, by simp [h2], by simp [fnd, e, h3]⟩
theorem idxI_has (x : Int) : ∀ (N : List Int) (k : Nat), decide (0 ≤ idxI x N k) = decide (x ∈ N)
  | [], _ => by simp [idxI]
  | a :: N, k => by
    by_cases e : x = a
    · simp [idxI, e]
    · simp [idxI, e, idxI_has x N (k + 1)]
def nextD (N : List Int) (T : List BlkD) (x : Int) (b : BlkD) : Int :=
  if (decide (1 ≤ x) && decide (x ≤ 120)) = false then 3 else if chkB b ≠ 0 then chkB b else if decide (x ∈ N) = true then 6
  else if b.1 ≠ 0 ∧ decide (b.1 ∈ N) = false then 5 else if b.2.1 ≠ (fnd b.1 N T).2.1 + 1 then 4 else 0
def chkGo (N : List Int) (T : List BlkD) : List Int → List BlkD → Int
  | x :: M, b :: U => if nextD N T x b ≠ 0 then nextD N T x b else chkGo (N ++ [x]) (T ++ [b]) M U
  | _, _ => 0
def chkTr (N : List Int) (T : List BlkD) : Int := if N.length ≠ T.length then 4 else if 24 < N.length then 2 else chkGo [] [] N T
theorem chkGo_at (N : List Int) (T : List BlkD) (k : Nat) (h : k < N.length) (h' : k < T.length) : chkGo (N.take k) (T.take k) (N.drop k) (T.drop k) =
    if nextD (N.take k) (T.take k) N[k] T[k] ≠ 0 then nextD (N.take k) (T.take k) N[k] T[k] else chkGo (N.take (k + 1)) (T.take (k + 1)) (N.drop (k + 1)) (T.drop (k + 1)) := by
  rw [List.drop_eq_getElem_cons h, List.drop_eq_getElem_cons h', chkGo, List.take_succ_eq_append_getElem h, List.take_succ_eq_append_getElem h']
theorem chkGo_end (N : List Int) (T : List BlkD) (k : Nat) (h : N.length ≤ k) : chkGo (N.take k) (T.take k) (N.drop k) (T.drop k) = 0 := by
  rw [List.drop_of_length_le h]; unfold chkGo; rfl

/-- Each block's head is right. -/
def HeadsOk (T : List BlkD) : Prop := ∀ b ∈ T, 1 ≤ b.2.1 ∧ b.2.1 ≤ 1000 ∧ 1 ≤ b.2.2.1 ∧ b.2.2.1 ≤ 1000
theorem chkB_head {b : BlkD} (h : chkB b = 0) : 1 ≤ b.2.1 ∧ b.2.1 ≤ 1000 ∧ 1 ≤ b.2.2.1 ∧ b.2.2.1 ≤ 1000 := by
  unfold chkB at h
  split at h
  · cases h
  · next q => simp [headOk] at q; omega
theorem fnd_mem (x : Int) : ∀ (N : List Int) (T : List BlkD), fnd x N T = zeroB ∨ fnd x N T ∈ T
  | [], _ => .inl (by simp [fnd])
  | _ :: _, [] => .inl (by simp [fnd])
  | a :: N, b :: T => by
    by_cases e : x = a
    · exact .inr (by simp [fnd, e])
    · rcases fnd_mem x N T with h | h
      · exact .inl (by simp [fnd, e, h])
      · exact .inr (by simp [fnd, e, h])
theorem fnd_ok {T : List BlkD} (h : HeadsOk T) (x : Int) (N : List Int) : 0 ≤ (fnd x N T).2.1 ∧ (fnd x N T).2.1 ≤ 1000 ∧ 0 ≤ (fnd x N T).2.2.1 ∧ (fnd x N T).2.2.1 ≤ 1000 := by
  rcases fnd_mem x N T with e | e
  · rw [e]; simp [zeroB]
  · have := h _ e; omega

/-- A block and what it stands on, so many. -/
def upD (N : List Int) (T : List BlkD) : Nat → Int → List Int
  | 0, _ => []
  | d + 1, x => upD N T d (fnd x N T).1 ++ [x]
end Go.Proofs.YtmomfkikogbdeaaGreatDoor.Tr
