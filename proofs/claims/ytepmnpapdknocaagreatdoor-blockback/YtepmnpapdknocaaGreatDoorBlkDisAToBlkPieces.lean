/- The contract of Disconnect, every way. -/
import Derived.Test.YtepmnpapdknocaaGreatDoorBlkDis
import Derived.Test.YtepmnpapdknocaaGreatDoorProg
import Derived.Shelf.Strings.Builder1
import Derived.Shelf.Strings.Builder2
import Derived.Shelf.Strings.OnBuilder
import Derived.Shelf.Small.Bits
import Derived.Shelf.Utf8.RuneCount
import Derived.Shelf.Strconv.Atoi
import Derived.Shelf.Strconv.Itoa0
import Derived.Shelf.Strconv.Itoa1
import Derived.Shelf.LaysM
import Derived.Shelf.Strconv.Itoa2
import Derived.Shelf.Strconv.Itoa3
import Derived.Shelf.Strconv.AtoiErrFast
import Derived.Shelf.Strconv.ParseIntEmpty
import Derived.Shelf.Strconv.AtoiFail
import Derived.Shelf.Strconv.Clone
import Derived.Shelf.Strconv.SyntaxError
import Derived.Shelf.LaysC
import Derived.Shelf.Strconv.ToError
import Derived.Shelf.Strconv.Lower
import Derived.Shelf.Strconv.ParseUint10
import Derived.Shelf.Strconv.ParseUint10Empty
import Derived.Shelf.Strconv.ParseUint10Any
import Derived.Shelf.Strconv.ParseInt10
import Derived.Shelf.Strconv.AtoiLong
import Derived.Shelf.Strconv.AtoiInnerAll
import Derived.Shelf.Strconv.RangeError
import Derived.Shelf.Strconv.ToErrorRange
import Derived.Shelf.Strconv.AtoiAll
import Derived.Shelf.Strconv.ErrVarAll
import Derived.Shelf.Strconv.ParseUintEmpty
import Derived.Shelf.Strconv.ParseUint10b64
import Derived.Shelf.Strconv.ParseUint10b32
import Derived.Shelf.Strconv.ParseUint10b16
import Derived.Shelf.Strconv.ParseUint10b8
import Derived.Shelf.Strconv.ParseUint10At
import Derived.Shelf.Strconv.ParseInt10At64
import Derived.Shelf.Strconv.ParseInt10At32
import Derived.Shelf.Strconv.ParseInt10At16
import Derived.Shelf.Strconv.ParseInt10At8
import Derived.Shelf.Strconv.ParseInt10All
import Derived.Shelf.Strings.Search1
import Derived.Shelf.Strings.Search2
import Derived.Shelf.Strings.Search3
import Derived.Shelf.Strings.Cut
import Derived.Shelf.Strings.Count
import Derived.Shelf.Strings.Shaped
import Derived.Ground.GgsProg
import Derived.Shelf.GgSortFunc.Insertion
import Derived.Shelf.GgSortFunc.Small
import Derived.Shelf.GgSortFunc.InsertionK
import Derived.Shelf.GgSortFunc.SmallK
import Derived.Shelf.GgSortFunc.Tiny
import Derived.Shelf.Strings.Split
import Derived.Shelf.Strings.Fields
import Derived.Shelf.Strings.SplitShaped
import Derived.Shelf.Unicode.Latin
import Derived.Shelf.Unicode.Decode
import Derived.Shelf.Strings.RuneCount
import Derived.Shelf.Strings.Explode
import Derived.Shelf.Unicode.DecodeSlow
import Derived.Shelf.Unicode.DecodeAny
import Derived.Shelf.Unicode.Is16White
import Derived.Shelf.Unicode.IsSpaceAny
import Derived.Shelf.Unicode.Is16WhiteD
import Derived.Shelf.Unicode.IsSpaceAnyD
import Derived.Shelf.Strings.FieldsAny
import Derived.Shelf.Strings.FieldsFuncAny
import Derived.Shelf.Unicode.Is16Any
import Derived.Shelf.Unicode.Is32Any
import Derived.Shelf.Unicode.ExclAny
import Derived.Shelf.Slices.Turned
import Derived.Shelf.Slices.Equal
import Derived.Ground.Names2Prog
import Derived.Shelf.Slices.Clone
import Derived.Shelf.Slices.SearchI
import Derived.Shelf.Slices.Empties2
import Derived.Shelf.SlSortFunc.Xorshift
import Derived.Shelf.SlSortFuncK.ComposeK
import Derived.Ground.SlgnProg
import Derived.Shelf.SlicesE.Equal
import Derived.Shelf.SlicesE.Clone
import Derived.Test.YtepmnpapdknocaaGreatDoorBlkNamesToBlkTurns
import Derived.Test.YtepmnpapdknocaaGreatDoorCoinCopyToCoinCopyC
import Derived.Test.YtepmnpapdknocaaGreatDoorTxPartsToTxRow
import Derived.Lib.IndexMore
import Derived.Deep.AppendLies
namespace Go.Proofs.YtepmnpapdknocaaGreatDoor
open Go.RowKit

theorem nf_len {K : List ByteArray} {C : List CoinD} {b : BlkD} {N : List Int} (h : nfD K C b = (N, 0)) : N.length = b.2.2.2.2.length ∧ 0 < b.2.2.2.2.length ∧ b.2.2.2.2.length ≤ 4 := by
  obtain ⟨_, hb, X, n, N', hN, hN2⟩ := nfD_zero (by rw [h])
  rw [h] at hN2
  have e := (nms_zero hN).2.2.2.2.1
  obtain ⟨h0, h4, _, _⟩ := chkB_few hb
  have hN3 : N = N' := hN2
  rw [hN3]
  exact ⟨by rw [e]; simp, h0, h4⟩

set_option maxRecDepth 100000 in
set_option maxHeartbeats 6400000 in
theorem dis_early (ka : Option Addr) (kn kc : Nat) (K : List ByteArray) (la : Option Addr) (ln lc : Nat) (C0 : List CoinD) (p h k0 n : Int) (a : Option Addr) (m c : Nat) (L : List TxD) (ua : Option Addr) (un uc : Nat) (N : List Int) (x y : Int) (w : World) (hE : Env w) (hK : Bk.TextsAt w ka kn K) (hC : CoinsAt w la ln C0) (hL : TxsAt w a m L) (hnf : nfD K C0 (p, h, k0, n, L) = (N, x)) (hy : (x ≠ 0 ∧ y = x) ∨ (x = 0 ∧ un ≠ m ∧ y = 4)) :
    Calls Tryz.prog 7 #[.agg #[.slice ka kn kc], .slice la ln lc, .agg #[.int .i64 p, .int .i64 h, .int .i64 k0, .int .i64 n, .slice a m c], .slice ua un uc] w fun e w' => RvR w w' y [] e := by
  obtain ⟨X, hX⟩ : ∃ X, X = (((((w.alloc (.cells #[.slice ka kn kc] 24)).alloc (.cells #[.slice la ln lc] 25)).alloc (.cells #[.int .i64 p, .int .i64 h, .int .i64 k0, .int .i64 n, .slice a m c] 28)).alloc (.cells #[.slice ua un uc] 29)).alloc (.cells #[.slice none 0 0] 25)).alloc (.cells #[.int .i64 0] 31) := ⟨_, rfl⟩
  obtain ⟨hbX, hXs, x1, x2, x3, x4, x5, x6⟩ := six_boxes w _ _ _ _ _ _ X hX
  have NF := hide (namesFor_is ka kn kc K la ln lc C0 p h k0 n a m c L N x X (hE.later hbX) (hK.later hbX) (hC.later hbX) (hL.later hbX) hnf)
  have c1 := cell_of (X := [.slice ka kn kc]) x1 0 _ rfl
  have c2 := cell_of (X := [.slice la ln lc]) x2 0 _ rfl
  have c30 := cell_of (X := [.int .i64 p, .int .i64 h, .int .i64 k0, .int .i64 n, .slice a m c]) x3 0 _ rfl
  have c31 := cell_of (X := [.int .i64 p, .int .i64 h, .int .i64 k0, .int .i64 n, .slice a m c]) x3 1 _ rfl
  have c32 := cell_of (X := [.int .i64 p, .int .i64 h, .int .i64 k0, .int .i64 n, .slice a m c]) x3 2 _ rfl
  have c33 := cell_of (X := [.int .i64 p, .int .i64 h, .int .i64 k0, .int .i64 n, .slice a m c]) x3 3 _ rfl
  have c34 := cell_of (X := [.int .i64 p, .int .i64 h, .int .i64 k0, .int .i64 n, .slice a m c]) x3 4 _ rfl
  have hs1 := lt_of_block x1
  have hs2 := lt_of_block x2
  have hs3 := lt_of_block x3
  have HBX := hide hbX
  have HX3 := hide x3
  have HX4 := hide x4
  have HX5 := hide x5
  have HX6 := hide x6
  have HXS := hide hXs
  clear hE hK hC hL hnf hbX x1 x2 x3 x4 x5 x6 hXs
  go_enter Tryz.func7, Tryz.ntmps7
  go_wp2_with fail
  rw [← hX]
  clear hX
  refine (unhide NF).mono ?_
  rintro e w1 ⟨na, nn, nc, rfl, hN, hnc, hb1⟩
  obtain ⟨Y, hY⟩ : ∃ Y, Y = (w1.alloc (.cells #[.slice na nn nc] 30)).alloc (.cells #[.int .i64 x] 31) := ⟨_, rfl⟩
  have hbY : Below w1.heap.size w1 Y := by rw [hY]; exact bel_on (bel_new _ _) (bel_new _ _)
  have y11 : Y.heap[w1.heap.size + 1]? = some (.cells [.int .i64 x].toArray 31 (0, 0)) := by
    rw [hY]
    have := heap_alloc_new (w1.alloc (.cells #[.slice na nn nc] 30)) (.cells #[.int .i64 x] 31)
    rw [show (w1.alloc (.cells #[.slice na nn nc] 30)).heap.size = w1.heap.size + 1 by simp] at this
    exact this
  have hs1' := hb1.size
  have hXs := unhide HXS
  have hXY := bel_on hb1 hbY
  have d3 := (hb1.block _ (lt_of_block (unhide HX3))).trans (unhide HX3)
  have d34 := cell_of (X := [.int .i64 p, .int .i64 h, .int .i64 k0, .int .i64 n, .slice a m c]) d3 4 _ rfl
  have d3l := lt_of_block d3
  have d4 := (hb1.block _ (lt_of_block (unhide HX4))).trans (unhide HX4)
  have d40 := cell_of (X := [.slice ua un uc]) d4 0 _ rfl
  have d4l := lt_of_block d4
  have d2l : w.heap.size + 1 < w1.heap.size := by omega
  have d1l : w.heap.size < w1.heap.size := by omega
  have d8 := (hXY.block _ (lt_of_block (unhide HX5))).trans (unhide HX5)
  have d9 := (hXY.block _ (lt_of_block (unhide HX6))).trans (unhide HX6)
  have o8 := (hb1.block _ (lt_of_block (unhide HX5))).trans (unhide HX5)
  have o9 := (hb1.block _ (lt_of_block (unhide HX6))).trans (unhide HX6)
  have O8 := hide o8
  have O9 := hide o9
  have c8w := cell_of (X := [.slice none 0 0]) o8 0 _ rfl
  have f8w := frozen_of o8 0
  have l8w := lt_of_block o8
  have c9w := cell_of (X := [.int .i64 0]) o9 0 _ rfl
  have f9w := frozen_of o9 0
  have l9w := lt_of_block o9
  have n98 : ¬ w.heap.size + 1 + 1 + 1 + 1 + 1 = w.heap.size + 1 + 1 + 1 + 1 := by omega
  have c8 := cell_of (X := [.slice none 0 0]) d8 0 _ rfl
  have f8 := frozen_of d8 0
  have l8 := lt_of_block d8
  have c9 := cell_of (X := [.int .i64 0]) d9 0 _ rfl
  have f9 := frozen_of d9 0
  have l9 := lt_of_block d9
  have c11 := cell_of y11 0 _ rfl
  have l11 := lt_of_block y11
  have n89 : ¬ w.heap.size + 1 + 1 + 1 + 1 = w.heap.size + 1 + 1 + 1 + 1 + 1 := by omega
  have n811 : ¬ w1.heap.size + 1 = w.heap.size + 1 + 1 + 1 + 1 := by omega
  have HW1 := hide (bel_on (unhide HBX) hb1)
  have HF : Hid (∀ V v5 v6, V = (Y.drew.setCell ⟨w.heap.size + 1 + 1 + 1 + 1, 0, none⟩ v5).setCell ⟨w.heap.size + 1 + 1 + 1 + 1 + 1, 0, none⟩ v6 ∨ V = (Y.setCell ⟨w.heap.size + 1 + 1 + 1 + 1, 0, none⟩ v5).setCell ⟨w.heap.size + 1 + 1 + 1 + 1 + 1, 0, none⟩ v6 ∨ V = ((Y.setCell ⟨w.heap.size + 1 + 1 + 1 + 1, 0, none⟩ v5).setCell ⟨w.heap.size + 1 + 1 + 1 + 1 + 1, 0, none⟩ v6).drew → Below w.heap.size w V) := by
    intro V v5 v6 hV
    have hb := bel_on (unhide HBX) hXY
    rcases hV with rfl | rfl | rfl
    · exact ((bel_on hb (bel_draw1 Y)).setCell (p := ⟨w.heap.size + 1 + 1 + 1 + 1, 0, none⟩) (by show w.heap.size ≤ w.heap.size + 1 + 1 + 1 + 1; omega) _).setCell (p := ⟨w.heap.size + 1 + 1 + 1 + 1 + 1, 0, none⟩) (by show w.heap.size ≤ w.heap.size + 1 + 1 + 1 + 1 + 1; omega) _
    · exact (hb.setCell (p := ⟨w.heap.size + 1 + 1 + 1 + 1, 0, none⟩) (by show w.heap.size ≤ w.heap.size + 1 + 1 + 1 + 1; omega) _).setCell (p := ⟨w.heap.size + 1 + 1 + 1 + 1 + 1, 0, none⟩) (by show w.heap.size ≤ w.heap.size + 1 + 1 + 1 + 1 + 1; omega) _
    · exact bel_on ((hb.setCell (p := ⟨w.heap.size + 1 + 1 + 1 + 1, 0, none⟩) (by show w.heap.size ≤ w.heap.size + 1 + 1 + 1 + 1; omega) _).setCell (p := ⟨w.heap.size + 1 + 1 + 1 + 1 + 1, 0, none⟩) (by show w.heap.size ≤ w.heap.size + 1 + 1 + 1 + 1 + 1; omega) _) (bel_draw1 _)
  clear hN hb1 hbY y11 hXY d3 d4 d8 d9 o8 o9 hs1' hXs NF c1 c2 c30 c31 c32 c33 c34 hs1 hs2 hs3
  have HZ : Hid (∀ (v : Value) (o1 o2 : Obj), ((((w1.setCell ⟨w.heap.size + 1 + 1 + 1 + 1, 0, none⟩ (.slice none 0 0)).setCell ⟨w.heap.size + 1 + 1 + 1 + 1 + 1, 0, none⟩ v).alloc o1).alloc o2).cell? ⟨w.heap.size + 1 + 1 + 1 + 1, 0, none⟩ = some (.slice none 0 0) ∧ ((((w1.setCell ⟨w.heap.size + 1 + 1 + 1 + 1, 0, none⟩ (.slice none 0 0)).setCell ⟨w.heap.size + 1 + 1 + 1 + 1 + 1, 0, none⟩ v).alloc o1).alloc o2).cell? ⟨w.heap.size + 1 + 1 + 1 + 1 + 1, 0, none⟩ = some v) := by
    intro v o1 o2
    have g4 := (Gr.refl w1 (fun q => q = w.heap.size + 1 + 1 + 1 + 1)).set (p := ⟨w.heap.size + 1 + 1 + 1 + 1, 0, none⟩) (.inl rfl) (.slice none 0 0)
    have e8 := box_set (u := .slice none 0 0) (unhide O8)
    have e9 := g4.heap (unhide O9) n98
    have g5 := (Gr.refl (w1.setCell ⟨w.heap.size + 1 + 1 + 1 + 1, 0, none⟩ (.slice none 0 0)) (fun q => q = w.heap.size + 1 + 1 + 1 + 1 + 1)).set (p := ⟨w.heap.size + 1 + 1 + 1 + 1 + 1, 0, none⟩) (.inl rfl) v
    have k9 := box_set (u := v) e9
    have k8 := g5.heap e8 n89
    have hb := bel_on (bel_new ((w1.setCell ⟨w.heap.size + 1 + 1 + 1 + 1, 0, none⟩ (.slice none 0 0)).setCell ⟨w.heap.size + 1 + 1 + 1 + 1 + 1, 0, none⟩ v) o1) (bel_new _ o2)
    exact ⟨cell_later hb (cell_of (X := [.slice none 0 0]) k8 0 _ rfl), cell_later hb (cell_of (X := [v]) k9 0 _ rfl)⟩
  rcases hy with ⟨hx, rfl⟩ | ⟨rfl, hu, rfl⟩
  · have gx : (y != 0) = true := by simp [hx]
    go_wp2
    rw [← hY]
    clear hY
    go_region
    go_wp2
    (try simp only [Exit.inBlock, Exit.then])
    refine bodyPost_ret (v := .tuple #[.slice none 0 0, .int .i64 y]) ?_ rfl ?_
    · simp [results, Tryz.f7, go_sem, c8, c9]
    · refine rv_err rfl ((unhide HF) _ (.slice none 0 0) (.int .i64 y) ?_)
      first | exact .inl rfl | exact .inr (.inl rfl) | exact .inr (.inr rfl)
  · have gu : ((un : Int) != (m : Int)) = true := by simp; omega
    go_wp2
    (try simp only [Exit.inBlock, Exit.then])
    refine bodyPost_ret (v := .tuple #[.slice none 0 0, .int .i64 4]) ?_ rfl ?_
    · obtain ⟨z8, z9⟩ := (unhide HZ) (.int .i64 4) (.cells #[.slice na nn nc] 30) (.cells #[.int .i64 0] 31)
      simp [results, Tryz.f7, go_sem, z8, z9]
    · exact rv_err rfl (bel_on (((unhide HW1).setCell (p := ⟨w.heap.size + 1 + 1 + 1 + 1, 0, none⟩) (by show w.heap.size ≤ w.heap.size + 1 + 1 + 1 + 1; omega) _).setCell (p := ⟨w.heap.size + 1 + 1 + 1 + 1 + 1, 0, none⟩) (by show w.heap.size ≤ w.heap.size + 1 + 1 + 1 + 1 + 1; omega) _) (bel_on (bel_new _ _) (bel_new _ _)))

theorem disconnect_is (ka : Option Addr) (kn kc : Nat) (K : List ByteArray) (la : Option Addr) (ln lc : Nat) (C0 : List CoinD) (p h k0 n : Int) (a : Option Addr) (m c : Nat) (L : List TxD) (ua : Option Addr) (un uc : Nat) (S : List (List CoinD)) (x : Int) (C' : List CoinD) (w : World) (hE : Env w) (hK : Bk.TextsAt w ka kn K) (hC : CoinsAt w la ln C0) (sC : SlOk la ln lc) (hL : TxsAt w a m L) (hU : UndosAt w ua un S) (hx : disD K C0 (p, h, k0, n, L) S = (x, C')) :
    Calls Tryz.prog 7 #[.agg #[.slice ka kn kc], .slice la ln lc, .agg #[.int .i64 p, .int .i64 h, .int .i64 k0, .int .i64 n, .slice a m c], .slice ua un uc] w fun e w' => RvR w w' x C' e := by
  obtain ⟨⟨N, z⟩, hnf⟩ : ∃ r, nfD K C0 (p, h, k0, n, L) = r := ⟨_, rfl⟩
  have hLl : L.length = m := hL.1
  unfold disD at hx
  rw [hnf] at hx
  by_cases hz : z = 0
  · subst hz
    rw [if_neg (fun q => q rfl)] at hx
    by_cases hl : S.length = L.length
    · rw [if_neg (fun q => q hl)] at hx
      obtain ⟨e1, e2, e3⟩ := nf_len hnf
      have hum : un = m := by rw [← hU.1, hl, hLl]
      subst hum
      have e1 : N.length = un := by rw [← hLl]; exact e1
      have hx : disGo L N S L.length C0 = (x, C') := hx
      rw [hLl] at hx
      exact dis_main ka kn kc K la ln lc C0 p h k0 n a un c L ua uc S N x C' w hE hK hC sC hL hU (by rw [← hLl]; exact e3) (by rw [← hLl]; exact e2) hnf e1 hx
    · rw [if_pos hl] at hx
      obtain ⟨rfl, rfl⟩ := Prod.mk.inj hx
      exact dis_early ka kn kc K la ln lc C0 p h k0 n a m c L ua un uc N 0 4 w hE hK hC hL hnf (.inr ⟨rfl, fun q => hl (by rw [hU.1, hLl]; exact q), rfl⟩)
  · rw [if_pos hz] at hx
    obtain ⟨rfl, rfl⟩ := Prod.mk.inj hx
    exact dis_early ka kn kc K la ln lc C0 p h k0 n a m c L ua un uc N z z w hE hK hC hL hnf (.inl ⟨hz, rfl⟩)

end Go.Proofs.YtepmnpapdknocaaGreatDoor

/- Contracts of functions of the library at this program: laid by the guide's own command, in its plain words. -/
namespace Go.Proofs
open Go.Shelf
def Tryz.laysM143_ren : Go.Shelf.Ren := ⟨fun | 143 => 100 | 219 => 131 | 217 => 162 | 225 => 163 | 224 => 164 | 267 => 165 | 266 => 209 | 314 => 210 | n => n, fun | 9 => 9 | 3 => 3 | 4 => 4 | 5 => 5 | 46 => 227 | 146 => 279 | 51 => 263 | n => n, fun | 1 => 1 | n => n⟩
theorem Tryz.laysM143 : Go.Proofs.LaysM.n143 Tryz.prog Tryz.laysM143_ren := {
  mixed := by kernel_rfl
  f143 := Tryz.func100.trans (congrArg some (by kernel_rfl))
  f217 := Tryz.func162.trans (congrArg some (by kernel_rfl))
  f219 := Tryz.func131.trans (congrArg some (by kernel_rfl))
  f224 := Tryz.func164.trans (congrArg some (by kernel_rfl))
  f225 := Tryz.func163.trans (congrArg some (by kernel_rfl))
  f266 := Tryz.func209.trans (congrArg some (by kernel_rfl))
  f267 := Tryz.func165.trans (congrArg some (by kernel_rfl))
  f314 := Tryz.func210.trans (congrArg some (by kernel_rfl))
  t3 := Tryz.underlying3
  a3 := Tryz.isAgg3
  z3 := Tryz.sizeOf3
  v3 := Tryz.zeroValue3
  t4 := Tryz.underlying4
  a4 := Tryz.isAgg4
  z4 := Tryz.sizeOf4
  v4 := Tryz.zeroValue4
  t5 := Tryz.underlying5
  a5 := Tryz.isAgg5
  z5 := Tryz.sizeOf5
  v5 := Tryz.zeroValue5
  t9 := Tryz.underlying9
  a9 := Tryz.isAgg9
  z9 := Tryz.sizeOf9
  v9 := Tryz.zeroValue9
  t46 := Tryz.underlying227
  a46 := Tryz.isAgg227
  z46 := Tryz.sizeOf227
  v46 := Tryz.zeroValue227
  t51 := Tryz.underlying263
  a51 := Tryz.isAgg263
  z51 := Tryz.sizeOf263
  v51 := Tryz.zeroValue263
  t146 := Tryz.underlying279
  a146 := Tryz.isAgg279
  z146 := Tryz.sizeOf279
  v146 := Tryz.zeroValue279
  g1 := by kernel_rfl
  i3 := by kernel_rfl
  i4 := by kernel_rfl
  i5 := by kernel_rfl
  i9 := by kernel_rfl
  i46 := by kernel_rfl
  i51 := by kernel_rfl
  i146 := by kernel_rfl
  m1 := by kernel_rfl
  s1_3 := fun w h => Go.Proofs.cell_of_shapedOpen_int (zero := #[.int .i64 0]) (t := 3) h (of_decide_eq_true (by kernel_rfl)) (by kernel_rfl) rfl (by kernel_rfl) (by kernel_rfl) Tryz.underlying3 }
open Go.RowKit Go.Lib in
theorem Tryz.strings_Index_shaped (s sub : ByteArray) (w : World) (h : w.ShapedOpen Tryz.prog) (hs : s.size < 4294967281) :
    Calls Tryz.prog 100 #[.string s, .string sub] w fun e w' => e = .returned (.int .i64 (Lib.index s.data.toList sub.data.toList)) ∧ w' = w := Any.strings_Index_shaped Tryz.laysM143 s sub w h hs
end Go.Proofs

/- The contract of pieces: a text cut ahead of each line at which a transaction begins. -/
namespace Go.Proofs.YtepmnpapdknocaaGreatDoor
open Go.RowKit

def cutB : ByteArray := ⟨#[10, 116, 120, 32]⟩
/-- Where the first piece of a text ends. -/
def endP (s : ByteArray) : Nat := if Lib.index s.data.toList cutB.data.toList = -1 then s.size else (Lib.index s.data.toList cutB.data.toList + 1).toNat
theorem endP_ok (s : ByteArray) (h : 0 < s.size) : 0 < endP s ∧ endP s ≤ s.size := by
  unfold endP
  split
  · exact ⟨h, Nat.le_refl _⟩
  · next q =>
    have h1 := Lib.index_ge s.data.toList cutB.data.toList
    have h2 := Lib.index_room s.data.toList cutB.data.toList (by omega)
    have h3 : cutB.data.toList.length = 4 := rfl
    have h4 : s.data.toList.length = s.size := by rw [Array.length_toList]; rfl
    omega
def pcsF : Nat → ByteArray → List ByteArray
  | 0, _ => []
  | f + 1, s => if s.size = 0 then [] else s.extract 0 (endP s) :: pcsF f (s.extract (endP s) s.size)
theorem rest_size (s : ByteArray) : (s.extract (endP s) s.size).size = s.size - endP s := by simp
theorem pcsF_none (f : Nat) (s : ByteArray) (h : s.size = 0) : pcsF f s = [] := by cases f <;> simp [pcsF, h]
theorem pcsF_step (f : Nat) (s : ByteArray) (h : 0 < s.size) : pcsF (f + 1) s = s.extract 0 (endP s) :: pcsF f (s.extract (endP s) s.size) := by rw [pcsF, if_neg (by omega)]
theorem pcsF_len : ∀ (f : Nat) (s : ByteArray), (pcsF f s).length ≤ s.size
  | 0, _ => by simp [pcsF]
  | f + 1, s => by
    by_cases h : s.size = 0
    · rw [pcsF_none _ _ h]; simp
    · have he := endP_ok s (by omega)
      have := pcsF_len f (s.extract (endP s) s.size)
      rw [rest_size] at this
      rw [pcsF_step f s (by omega), List.length_cons]
      omega
def pcs (s : ByteArray) : List ByteArray := pcsF s.size s
def szV : Value → Nat
  | .string r => r.size
  | _ => 0
theorem empty_size {r : ByteArray} (h : r.size = 0) : r = ⟨#[]⟩ := by
  obtain ⟨d⟩ := r
  have : d.size = 0 := h
  simp at this
  rw [this]
theorem str_none {r : ByteArray} (h : r.size ≠ 0) : (r.toList == (⟨#[]⟩ : ByteArray).toList) = false := by
  rw [ByteArray.toList_eq, ByteArray.toList_eq]
  obtain ⟨d⟩ := r
  have : d.size ≠ 0 := h
  simpa using this

set_option maxRecDepth 10000 in
set_option maxHeartbeats 3200000 in
theorem pieces_is (s : ByteArray) (hs : s.size ≤ 4000) (w : World) (hE : EnvP w) :
    Calls Tryz.prog 56 #[.string s] w fun e w' => ∃ v, e = .returned v ∧ w'.ownsRow w.heap.size 9 1 v (pcs s).length ((pcs s).map Value.string) ∧ Below w.heap.size w w' := by
  obtain ⟨i0, hi, hz0, hz1, hz2⟩ := info_parts Tryz.info9
  have IX := hide (fun (r : ByteArray) W (hr : r.size ≤ 4000) (hb : Below w.heap.size w W) => Tryz.strings_Index_shaped r cutB W (hE.later hb).shp (by omega))
  have ST : Hid (([] : List ByteArray) ++ pcsF s.size s = pcs s) := rfl
  have OW : Hid (w.ownsRow w.heap.size 9 1 (.slice none 0 0) ([] : List ByteArray).length (([] : List ByteArray).map Value.string)) := ⟨rfl, .inl ⟨rfl, rfl⟩⟩
  have HL := hide (pcsF_len s.size s)
  clear hE
  go_enter Tryz.func56, Tryz.ntmps56
  go_wp2_with fail
  go_loopw [0, 3] (fun sv lv wr => ∃ (r : ByteArray) (f : Nat) (L : List ByteArray), sv = .string r ∧ r.size ≤ 4000 ∧ Hid (r.size ≤ f) ∧ Hid (wr.ownsRow w.heap.size 9 1 lv L.length (L.map Value.string)) ∧ Hid (L ++ pcsF f r = pcs s) ∧ Hid (Below w.heap.size w wr)) (fun sv _ _ => szV sv)
  case atStart => exact ⟨s, s.size, [], rfl, hs, (Nat.le_refl _ : s.size ≤ s.size), OW, ST, (Below.refl _ _ : Below w.heap.size w w)⟩
  case round =>
    obtain ⟨r, f, L, rfl, hr, HF, HO, HA, HB⟩ := hrel
    clear ST OW
    obtain ⟨av, cw, rfl, sv, -⟩ := own_head (unhide HO)
    by_cases h0 : r.size = 0
    · have hre := empty_size h0
      subst hre
      have R : Hid (L = pcs s) := by have := unhide HA; rw [pcsF_none _ _ h0, List.append_nil] at this; exact this
      clear h0
      go_wp2
      go_ret
      exact ⟨.slice av L.length cw, rfl, by rw [← unhide R]; exact unhide HO, unhide HB⟩
    · have gne := str_none h0
      have gn3 : ¬ r.toList = [] := fun e => by rw [e] at gne; simp at gne
      have gn4 : r.toList.isEmpty = false := List.isEmpty_eq_false_iff.2 gn3
      obtain ⟨ix, hix⟩ : ∃ ix, Lib.index r.data.toList cutB.data.toList = ix := ⟨_, rfl⟩
      have C := (unhide IX) r wr hr (unhide HB)
      rw [hix] at C
      have HC := hide C
      have he := endP_ok r (by omega)
      have hge := Lib.index_ge r.data.toList cutB.data.toList
      have hle := Lib.index_le r.data.toList cutB.data.toList
      rw [hix] at hge hle
      have hsz : r.data.toList.length = r.size := by rw [Array.length_toList]; rfl
      obtain ⟨en, hen⟩ : ∃ en, endP r = en := ⟨_, rfl⟩
      have hrs := rest_size r
      obtain ⟨g, rfl⟩ : ∃ g, f = g + 1 := ⟨f - 1, by have := unhide HF; omega⟩
      have HST := hide (pcsF_step g r (by omega))
      have HEN : endP r = if ix = -1 then r.size else (ix + 1).toNat := by unfold endP; rw [hix]
      rw [hen] at HEN he hrs HST
      have LL : Hid (L.length ≤ 4000) := by
        have h1 := congrArg List.length (unhide HA)
        have h2 := unhide HL
        rw [List.length_append] at h1
        unfold pcs at h1
        show L.length ≤ 4000
        omega
      have hw1 : IntKind.i64.wrap (ix + 1) = ix + 1 := by rw [IntKind.wrap_i64]; omega
      clear C hix
      by_cases hno : ix = -1
      · subst hno
        rw [if_pos rfl] at HEN
        have hpe : r.extract 0 r.size = r := by simp
        have hpr : (r.extract r.size r.size).size = 0 := by simp
        rw [HEN] at HST
        clear HEN hen hrs hge hle hsz
        have hbn := bel_new wr (.cells #[.string r] 9)
        have OWN5 := hide ((Gr.of (S := fun _ => False) hbn).own (unhide HO) (fun _ _ q => q))
        have NEWS := hide (World.news_of_block (heap_alloc_new wr (.cells #[.string r] 9)))
        have HB6 := hide (bel_on (unhide HB) hbn)
        clear hbn
        go_wp2_with fail
        refine (unhide HC).mono ?_
        rintro e w5 ⟨rfl, rfl⟩
        go_wp2_with (at_builtin; refine wpList_append_lies _ rfl _ _ 22 rfl w.heap.size 9 i0 (.string ⟨#[]⟩) 1 16 Tryz.underlying22 hi hz0 hz1 hz2 rfl (by decide) _ _ _ rfl (unhide OWN5) ⟨w5.heap.size, 0, none⟩ 1 1 [.string r] rfl rfl (unhide NEWS) (fun u hu => by simp at hu; subst hu; rfl) (by decide) (by have := unhide LL; unfold maxLen; omega) (by have := unhide LL; omega) (unhide HB6).size _ rfl ?_; intro g7 cap7 w7 hown7 hgrow7 hor7 _)
        have OWN7 := hide hown7
        have HB7 := hide ((unhide HB6).grown hgrow7 (unhide HB6).size (fun k hk => ((unhide OWN5).lt k hk).1))
        clear hown7 hgrow7 hor7
        go_wp2
        go_roundw
        case rel =>
          refine ⟨_, g, L ++ [r], rfl, by simp, (by show _ ≤ _; simp : Hid (_ ≤ g)), ?_, ?_, HB7⟩
          · have := unhide OWN7
            show World.ownsRow _ _ _ _ _ _ _
            simpa using this
          · show _ = _
            have h1 := unhide HA
            rw [unhide HST, hpe] at h1
            rw [← h1]
            simp
        case measure => simp [szV]; omega
      · obtain ⟨j, rfl⟩ : ∃ j : Nat, ix = j := ⟨ix.toNat, by omega⟩
        rw [if_neg (by omega)] at HEN
        obtain rfl : en = j + 1 := by rw [HEN]; omega
        have hjr : j + 1 ≤ r.size := he.2
        have hjI : ((j : Int) + 1) ≤ (r.size : Int) := by omega
        have gj0 : ((j : Int) + 1 == 0) = false := by simp; omega
        clear HEN hen hge hle hsz
        have hbn := bel_new wr (.cells #[.string (r.extract 0 (j + 1))] 9)
        have OWN5 := hide ((Gr.of (S := fun _ => False) hbn).own (unhide HO) (fun _ _ q => q))
        have NEWS := hide (World.news_of_block (heap_alloc_new wr (.cells #[.string (r.extract 0 (j + 1))] 9)))
        have HB6 := hide (bel_on (unhide HB) hbn)
        clear hbn
        go_wp2_with fail
        refine (unhide HC).mono ?_
        rintro e w5 ⟨rfl, rfl⟩
        go_wp2_with (at_builtin; refine wpList_append_lies _ rfl _ _ 22 rfl w.heap.size 9 i0 (.string ⟨#[]⟩) 1 16 Tryz.underlying22 hi hz0 hz1 hz2 rfl (by decide) _ _ _ rfl (unhide OWN5) ⟨w5.heap.size, 0, none⟩ 1 1 [.string (r.extract 0 (j + 1))] rfl rfl (unhide NEWS) (fun u hu => by simp at hu; subst hu; rfl) (by decide) (by have := unhide LL; unfold maxLen; omega) (by have := unhide LL; omega) (unhide HB6).size _ rfl ?_; intro g7 cap7 w7 hown7 hgrow7 hor7 _)
        have OWN7 := hide hown7
        have HB7 := hide ((unhide HB6).grown hgrow7 (unhide HB6).size (fun k hk => ((unhide OWN5).lt k hk).1))
        clear hown7 hgrow7 hor7
        go_wp2
        go_roundw
        case rel =>
          refine ⟨_, g, L ++ [r.extract 0 (j + 1)], rfl, by simp; omega, (by show _ ≤ _; have := unhide HF; simp; omega : Hid (_ ≤ g)), ?_, ?_, HB7⟩
          · have := unhide OWN7
            show World.ownsRow _ _ _ _ _ _ _
            simpa using this
          · show _ = _
            have h1 := unhide HA
            rw [unhide HST] at h1
            rw [← h1]
            simp
        case measure => simp [szV]; omega

end Go.Proofs.YtepmnpapdknocaaGreatDoor
