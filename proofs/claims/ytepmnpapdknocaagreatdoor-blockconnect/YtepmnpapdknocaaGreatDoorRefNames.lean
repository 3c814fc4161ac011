/- The contract of the reference's BlockNames: of a right book it answers as Names does. -/
import Derived.Test.YtepmnpapdknocaaGreatDoorRefBlkText
import Derived.Test.YtepmnpapdknocaaGreatDoorRefBlk
import Derived.Test.YtepmnpapdknocaaGreatDoorBookRefA
import Derived.Test.YtepmnpapdknocaaGreatDoorBlkNamedM
import Derived.Test.YtepmnpapdknocaaGreatDoorCoinCopyC
import Derived.Test.YtepmnpapdknocaaGreatDoorBlkDisM
import Derived.Deep.AppendLies
import Derived.BigQuiet
import Derived.Deep.QuietTactic
namespace Go.Proofs.YtepmnpapdknocaaGreatDoor
open Go.RowKit

/-- The reference's answer, its book as a bare slice. -/
def RnR (w w' : World) (M : List ByteArray) (nm : Int) (N : List Int) (x : Int) (e : Ending) : Prop :=
  ∃ a' n' c' a2 n2 c2, e = .returned (.tuple #[.slice a' n' c', .int .i64 nm, .slice a2 n2 c2, .int .i64 x]) ∧ Bk.TextsAt w' a' n' M ∧ Bk.SlOk a' n' c' ∧ Bk.IntsAt w' a2 n2 N ∧ Below w.heap.size w w'
theorem rn_err {w w' : World} {x : Int} (hb : Below w.heap.size w w') : RnR w w' [] 0 [] x (.returned (.tuple #[.slice none 0 0, .int .i64 0, .slice none 0 0, .int .i64 x])) :=
  ⟨none, 0, 0, none, 0, 0, rfl, Bk.TextsAt.nil _ _, Bk.SlOk.nil, Bk.IntsAt.nil _ _, hb⟩

theorem nms_right {K : List ByteArray} {b : BlkD} (hR : Bk.Right K) : Bk.allR K (txtsOf b) = Bk.nmGo K [] (txtsOf b) := by
  unfold Bk.allR
  rw [if_pos ((Bk.right_iff K).2 hR)]
theorem txts_take (T : List TxD) (k : Nat) (h : k < T.length) : (T.take (k + 1)).map txText = (T.take k).map txText ++ [txText T[k]] := by
  rw [List.take_succ_eq_append_getElem h, List.map_append]; rfl

set_option maxRecDepth 10000 in
set_option maxHeartbeats 6400000 in
theorem rnames_is (ka : Option Addr) (kn kc : Nat) (K : List ByteArray) (p h k n : Int) (a : Option Addr) (m c : Nat) (T : List TxD) (M : List ByteArray) (nm : Int) (N : List Int) (x : Int) (w : World) (hE : EnvF w) (hK : Bk.TextsAt w ka kn K) (sK : Bk.SlOk ka kn kc) (hR : Bk.Right K) (hT : TxsAt w a m T) (hx : nmsB K (p, h, k, n, T) = (M, nm, N, x)) :
    Calls Tryz.prog 11 #[.slice ka kn kc, .agg #[.int .i64 p, .int .i64 h, .int .i64 k, .int .i64 n, .slice a m c]] w fun e w' => RnR w w' M nm N x e := by
  obtain ⟨X, hX⟩ : ∃ X, X = w.alloc (.cells #[.int .i64 p, .int .i64 h, .int .i64 k, .int .i64 n, .slice a m c] 28) := ⟨_, rfl⟩
  have hbX : Below w.heap.size w X := by rw [hX]; exact bel_new _ _
  have hXb : X.heap[w.heap.size]? = some (.cells [.int .i64 p, .int .i64 h, .int .i64 k, .int .i64 n, .slice a m c].toArray 28 (0, 0)) := by rw [hX]; exact five_heap _ _ _ _ _ _ _
  obtain ⟨z, hz⟩ : ∃ z, chkB (p, h, k, n, T) = z := ⟨_, rfl⟩
  have CK := hide (rchkBlock_any p h k n a m c T z X (hT.later hbX) hz)
  have x0 := cell_of hXb 0 _ rfl
  have x1 := cell_of hXb 1 _ rfl
  have x2 := cell_of hXb 2 _ rfl
  have x3 := cell_of hXb 3 _ rfl
  have x4 := cell_of hXb 4 _ rfl
  have xl := lt_of_block hXb
  have HBX := hide hbX
  have HXB := hide hXb
  by_cases hz0 : z = 0
  · subst hz0
    obtain ⟨i0, hi, hz0', hz1, hz2⟩ := info_parts Tryz.info9
    have h4 := (chkB_few hz).2.1
    have zT : T.length = m := hT.1
    have hm4 : m ≤ 4 := by rw [← zT]; exact h4
    have hE2 := hE.later hbX
    have HEX := hide hE2
    have HTX := hide (hT.later hbX)
    have HKX := hide (hK.later hbX)
    have HCT : Hid (∀ t ∈ T, chkTx t = 0) := (chkB_zero hz).2.2.2.2
    have HZ := hide hz
    have HZT := hide zT
    have HX := hide hx
    have OW : Hid (∀ W : World, W.ownsRow X.heap.size 9 1 (.slice none 0 0) ([] : List ByteArray).length (([] : List ByteArray).map Value.string)) := fun _ => ⟨rfl, .inl ⟨rfl, rfl⟩⟩
    clear hE hE2 hK hT hbX hXb hz zT hx h4
    go_enter Tryz.func11, Tryz.ntmps11
    go_wp2_with fail
    rw [← hX]
    clear hX
    (try go_wp2_with fail)
    refine (unhide CK).mono ?_
    rintro e w1 ⟨rfl, hb1⟩
    have HB1 := hide hb1
    have y4 := cell_later hb1 x4
    have yl := World.block_lt_of_cell? _ _ y4
    clear hb1 CK x0 x1 x2 x3 x4 xl
    go_wp2
    go_loopw [9, 21] (fun lv i wr => ∃ (j : Nat) (L : List ByteArray), j ≤ m ∧ i = .int .i64 j ∧ Hid (L = (T.take j).map txText) ∧ Hid (wr.ownsRow X.heap.size 9 1 lv L.length (L.map Value.string)) ∧ Hid (Below X.heap.size X wr)) (fun _ i _ => m - (intOf i).toNat)
    case atStart => exact ⟨0, [], Nat.zero_le _, rfl, rfl, (unhide OW) _, HB1⟩
    case round =>
      clear HB1 y4 yl
      obtain ⟨j, L, hj, rfl, HL, HO, HB⟩ := hrel
      have hLl : L.length = j := by
        rw [unhide HL, List.length_map, List.length_take, unhide HZT]; omega
      have HLl := hide hLl
      clear hLl
      obtain ⟨av, cw, rfl, sv, -⟩ := own_head (unhide HO)
      by_cases hlt : j < m
      · have hjT : j < T.length := by rw [unhide HZT]; exact hlt
        obtain ⟨tb, tof, rfl, _, htc⟩ := (unhide HTX).2 (by omega)
        have tcell := htc j hjT
        have L2 : Hid (L ++ [txText T[j]] = (T.take (j + 1)).map txText) := by show _ = _; rw [txts_take T j hjT, unhide HL]
        have hck := (unhide HCT) T[j] (List.getElem_mem hjT)
        obtain ⟨t, ht⟩ : ∃ t, T[j] = t := ⟨_, rfl⟩
        rw [ht] at tcell L2 hck
        obtain ⟨t1, ⟨ai, ni, ci, t2, hIn, sIn⟩, ao, no2, co, t3, hOut, sOut⟩ := tcell
        obtain ⟨th, ti, tout⟩ := t
        simp only at t1 t2 t3 hIn hOut
        have u1 := cell_later (unhide HB) t1
        have u2 := cell_later (unhide HB) t2
        have u3 := cell_later (unhide HB) t3
        have ul := World.block_lt_of_cell? _ _ u1
        obtain ⟨W1, hW1⟩ : ∃ W1, W1 = wr.alloc (.cells #[.int .i64 th, .slice ai ni ci, .slice ao no2 co] 74) := ⟨_, rfl⟩
        have hbW1 : Below wr.heap.size wr W1 := by rw [hW1]; exact bel_new _ _
        have hbXW := bel_on (unhide HB) hbW1
        have TX := hide (txText_is th ai ao ni ci no2 co ti tout W1 ((unhide HEX).later hbXW) (hIn.later hbXW) (hOut.later hbXW) hck)
        have HBW := hide hbXW
        have HO1 := hide ((Gr.of (S := fun _ => False) hbW1).own (unhide HO) (fun _ _ q => q))
        obtain ⟨s, hs⟩ : ∃ s, txText (th, ti, tout) = s := ⟨_, rfl⟩
        rw [hs] at TX L2
        clear htc t1 t2 t3 hIn hOut hbW1 hbXW hck ht hs
        go_wp2_with fail
        rw [← hW1]
        clear hW1
        (try go_wp2_with fail)
        refine (unhide TX).mono ?_
        rintro e W2 ⟨rfl, hb2⟩
        have HB2 := hide (bel_on (unhide HBW) hb2)
        have HO2 := (Gr.of (S := fun _ => False) hb2).own (unhide HO1) (fun _ _ q => q)
        have hbn := bel_new W2 (.cells #[.string s] 9)
        have OWN5 := hide ((Gr.of (S := fun _ => False) hbn).own HO2 (fun _ _ q => q))
        have NEWS := hide (World.news_of_block (heap_alloc_new W2 (.cells #[.string s] 9)))
        have HB6 := hide (bel_on (unhide HB2) hbn)
        clear hbn hb2 HO2 TX u1 u2 u3 ul
        go_wp2_with (at_builtin; refine wpList_append_lies _ rfl _ _ 22 rfl X.heap.size 9 i0 (.string ⟨#[]⟩) 1 16 Tryz.underlying22 hi hz0' hz1 hz2 rfl (by decide) _ _ _ rfl (unhide OWN5) ⟨W2.heap.size, 0, none⟩ 1 1 [.string s] rfl rfl (unhide NEWS) (fun u hu => by simp at hu; subst hu; rfl) (by decide) (by have := unhide HLl; unfold maxLen; omega) (by have := unhide HLl; omega) (unhide HB6).size _ rfl ?_; intro g7 cap7 w7 hown7 hgrow7 hor7 _)
        have OWN7 : Hid (w7.ownsRow X.heap.size 9 1 (.slice (some ⟨g7, 0, none⟩) (L.length + 1) cap7) (L ++ [s]).length ((L ++ [s]).map Value.string)) := by
          show World.ownsRow _ _ _ _ _ _ _
          rw [List.length_append, List.map_append]
          exact hown7
        have HB7 := hide ((unhide HB6).grown hgrow7 (unhide HB6).size (fun k hk => ((unhide OWN5).lt k hk).1))
        clear hown7 hgrow7 hor7
        go_wp2
        go_roundw
        case rel => exact ⟨j + 1, L ++ [s], by omega, by go_num, L2, OWN7, HB7⟩
        case measure => simp [intOf]; omega
      · obtain rfl : j = m := by omega
        have hLT : L = T.map txText := by rw [unhide HL, List.take_of_length_le (by rw [unhide HZT]; exact Nat.le_refl _)]
        obtain ⟨⟨M', N', x'⟩, hgo⟩ : ∃ r, Bk.nmGo K [] (txtsOf (p, h, k, n, T)) = r := ⟨_, rfl⟩
        have b5 := ((unhide HB).block _ (lt_of_block (unhide HXB))).trans (unhide HXB)
        have y0 := cell_of b5 0 _ rfl
        have y1 := cell_of b5 1 _ rfl
        have y2 := cell_of b5 2 _ rfl
        have y3 := cell_of b5 3 _ rfl
        have y4 := cell_of b5 4 _ rfl
        have yl := lt_of_block b5
        have BT := hide (rblkText_is p h k n a j c T wr ((unhide HEX).later (unhide HB)) ((unhide HTX).later (unhide HB)) (unhide HZ))
        obtain ⟨s, hs⟩ : ∃ s, blkText (p, h, k, n, T) = s := ⟨_, rfl⟩
        rw [hs] at BT
        have HGO := hide hgo
        have HTO : Hid (L ++ [s] = txtsOf (p, h, k, n, T)) := by show _ = _; rw [hLT, ← hs]; rfl
        have hml : Hid ((L ++ [s]).length = j + 1) := by show _ = _; rw [List.length_append, unhide HLl]; rfl
        clear hgo hs b5 hLT hlt
        go_wp2_with fail
        refine (unhide BT).mono ?_
        rintro e W2 ⟨rfl, hb2⟩
        have HB2 := hide (bel_on (unhide HB) hb2)
        have HO2 := (Gr.of (S := fun _ => False) hb2).own (unhide HO) (fun _ _ q => q)
        have hbn := bel_new W2 (.cells #[.string s] 9)
        have OWN5 := hide ((Gr.of (S := fun _ => False) hbn).own HO2 (fun _ _ q => q))
        have NEWS := hide (World.news_of_block (heap_alloc_new W2 (.cells #[.string s] 9)))
        have HB6 := hide (bel_on (unhide HB2) hbn)
        clear hbn hb2 HO2 BT y0 y1 y2 y3 y4 yl
        go_wp2_with (at_builtin; refine wpList_append_lies _ rfl _ _ 22 rfl X.heap.size 9 i0 (.string ⟨#[]⟩) 1 16 Tryz.underlying22 hi hz0' hz1 hz2 rfl (by decide) _ _ _ rfl (unhide OWN5) ⟨W2.heap.size, 0, none⟩ 1 1 [.string s] rfl rfl (unhide NEWS) (fun u hu => by simp at hu; subst hu; rfl) (by decide) (by have := unhide HLl; unfold maxLen; omega) (by have := unhide HLl; omega) (unhide HB6).size _ rfl ?_; intro g7 cap7 w7 hown7 hgrow7 hor7 _)
        have hTX7 : Bk.TextsAt w7 (some ⟨g7, 0, none⟩) (L.length + 1) (txtsOf (p, h, k, n, T)) := by
          rw [← unhide HTO]
          refine Bk.texts_own (base := X.heap.size) (c := cap7) ?_
          rw [List.map_append]
          exact hown7
        have HB7 := hide ((unhide HB6).grown hgrow7 (unhide HB6).size (fun k hk => ((unhide OWN5).lt k hk).1))
        have NA := hide (Bk.namedAll_is ka (some ⟨g7, 0, none⟩) kn kc (L.length + 1) cap7 K (txtsOf (p, h, k, n, T)) M' N' x' w7 hR ((unhide HKX).later (unhide HB7)) sK hTX7 (by have := unhide HLl; omega) (unhide HGO))
        clear hown7 hgrow7 hor7 hTX7
        go_wp2_with fail
        refine (unhide NA).mono ?_
        rintro e w8 ⟨⟨a', n', c', a2, n2, c2, rfl, hT8, s8, hI8, hn2, hc2⟩, hb8⟩
        have HB8 := hide (bel_on (unhide HBX) (bel_on (unhide HB7) hb8))
        have hxx := unhide HX
        unfold nmsB at hxx
        rw [unhide HZ, if_neg (by decide), nms_right hR, unhide HGO] at hxx
        by_cases hx0 : x' = 0
        · subst hx0
          rw [if_neg (fun q => q rfl)] at hxx
          have hNl : N'.length = j + 1 := by
            have e := nmGo_len _ _ _ _ _ (unhide HGO)
            rw [e]
            show 0 + (txtsOf (p, h, k, n, T)).length = j + 1
            rw [← unhide HTO, unhide hml]
            omega
          have hn2e : n2 = j + 1 := by rw [← hI8.1]; exact hNl
          subst hn2e
          obtain ⟨ib, io, rfl, hic⟩ := hI8.2 (by omega)
          have hlast := hic j (by omega)
          obtain ⟨v, hv⟩ : ∃ v, N'[j]'(by omega) = v := ⟨_, rfl⟩
          rw [hv] at hlast
          have ill := World.block_lt_of_cell? _ _ hlast
          have HEND : Hid (∀ W, Below w8.heap.size w8 W → RnR w W M nm N x (.returned (.tuple #[.slice a' n' c', .int .i64 v, .slice (some ⟨ib, io, none⟩) j c2, .int .i64 0]))) := by
            intro W hbW
            have hxl : (M', N'.getD j 0, N'.take j, (0 : Int)) = (M, nm, N, x) := by
              rw [← hxx]
              show _ = (M', N'.getD T.length 0, N'.take T.length, (0 : Int))
              rw [unhide HZT]
            obtain ⟨e1, e2⟩ := Prod.mk.inj hxl
            obtain ⟨e2, e3⟩ := Prod.mk.inj e2
            obtain ⟨e3, e4⟩ := Prod.mk.inj e3
            rw [← e1, ← e2, ← e3, ← e4]
            refine ⟨a', n', c', some ⟨ib, io, none⟩, j, c2, ?_, hT8.later hbW, s8, ⟨by rw [List.length_take]; omega, fun _ => ⟨ib, io, rfl, fun i hi => ?_⟩⟩, bel_on (unhide HB8) hbW⟩
            · have : N'.getD j 0 = v := by rw [← hv]; simp [List.getD, hNl]
              rw [this]
            · rw [List.getElem_take]
              exact cell_later hbW (hic i (by rw [List.length_take] at hi; omega))
          have hjc : j ≤ c2 := by omega
          have hwj : IntKind.i64.wrap (((j + 1 : Nat) : Int) - 1) = (j : Int) := by rw [IntKind.wrap_i64]; omega
          have hj1 : ((j + 1 : Nat) : Int) - 1 = (j : Int) := by omega
          clear hT8 s8 hI8 hic hxx hb8 NA hNl hv
          go_wp2_with fail
          go_quiet (fail)
          go_wp2
          (try simp only [Exit.inBlock, Exit.then])
          refine bodyPost_ret (v := .tuple #[.slice a' n' c', .int .i64 v, .slice (some ⟨ib, io, none⟩) j c2, .int .i64 0]) ?_ rfl ((unhide HEND) _ ⟨rfl, rfl, rfl, Nat.le_refl _, fun _ _ => rfl⟩)
          simp [results, Tryz.f11, go_sem]
        · rw [if_pos hx0] at hxx
          have g : (x' != 0) = true := by simp [hx0]
          have HF2 : Hid (RnR w w8 M nm N x (.returned (.tuple #[.slice none 0 0, .int .i64 0, .slice none 0 0, .int .i64 x']))) := by
            obtain ⟨e1, e2⟩ := Prod.mk.inj hxx
            obtain ⟨e2, e3⟩ := Prod.mk.inj e2
            obtain ⟨e3, e4⟩ := Prod.mk.inj e3
            rw [← e1, ← e2, ← e3, ← e4]
            exact rn_err (unhide HB8)
          clear hT8 s8 hI8 hxx hb8 NA
          go_wp2
          (try simp only [Exit.inBlock, Exit.then])
          refine bodyPost_ret (v := .tuple #[.slice none 0 0, .int .i64 0, .slice none 0 0, .int .i64 x']) ?_ rfl (unhide HF2)
          simp [results, Tryz.f11, go_sem]
  · have HF : Hid ((M, nm, N, x) = (([] : List ByteArray), (0 : Int), ([] : List Int), z)) := by
      show _ = _
      rw [← hx]
      unfold nmsB
      rw [hz, if_pos hz0]
    have g : (z != 0) = true := by simp [hz0]
    clear hE hK hT hbX hXb hx hz
    go_enter Tryz.func11, Tryz.ntmps11
    go_wp2_with fail
    rw [← hX]
    clear hX
    (try go_wp2_with fail)
    refine (unhide CK).mono ?_
    rintro e w1 ⟨rfl, hb1⟩
    have HB1 := hide (bel_on (unhide HBX) hb1)
    have HF2 : Hid (RnR w w1 M nm N x (.returned (.tuple #[.slice none 0 0, .int .i64 0, .slice none 0 0, .int .i64 z]))) := by
      obtain ⟨e1, e2⟩ := Prod.mk.inj (unhide HF)
      obtain ⟨e2, e3⟩ := Prod.mk.inj e2
      obtain ⟨e3, e4⟩ := Prod.mk.inj e3
      rw [e1, e2, e3, e4]
      exact rn_err (unhide HB1)
    clear hb1 CK
    go_wp2
    (try simp only [Exit.inBlock, Exit.then])
    refine bodyPost_ret (v := .tuple #[.slice none 0 0, .int .i64 0, .slice none 0 0, .int .i64 z]) ?_ rfl (unhide HF2)
    simp [results, Tryz.f11, go_sem]

end Go.Proofs.YtepmnpapdknocaaGreatDoor
