/- What reads a transaction's lines: line by line. -/
import Derived.Test.YtepmnpapdknocaaGreatDoorTxLinesA
import Derived.Deep.RegionLaw
namespace Go.Proofs.YtepmnpapdknocaaGreatDoor
open Go.RowKit

theorem Tryz.infoIn : (Tryz.prog.info? 140).map (fun i => (i.zero, i.size, i.bytes)) = some (some (.agg #[.int .i64 0, .int .i64 0, .slice none 0 0]), 3, 40) := by kernel_rfl
theorem Tryz.infoOut : (Tryz.prog.info? 84).map (fun i => (i.zero, i.size, i.bytes)) = some (some (.agg #[.int .i64 0, .slice none 0 0]), 2, 32) := by kernel_rfl

theorem line_at (T : List ByteArray) (A : Array Value) (ws : List ByteArray) (hA : A = (ws.map Value.string).toArray) (hT : T = ws.drop 1) (w : World) (lb : Nat) (h : w.heap[lb]? = some (.cells A 9 (0, 0))) (j : Nat) (hj : j < T.length) : w.cell? ⟨lb, 1 + j, none⟩ = some (.string T[j]) := by
  subst hA hT
  rw [List.length_drop] at hj
  have : w.cell? ⟨lb, 1 + j, none⟩ = (ws.map Value.string).toArray[1 + j]? := by simp [World.cell?, h]
  rw [this]
  have h2 : 1 + j < ws.length := by omega
  rw [List.getElem_drop]
  simp [h2]

theorem PL.done {w : World} {q p lb : Nat} {A : Array Value} {h : Int} {wr : World} {v1 v2 : Value} {L1 : List (InD × Value)} {L2 : List (OutD × Value)} (s : PL w q p lb A h wr v1 v2 L1 L2) (x y z : Value) :
    TxOwn w.heap.size (((wr.setCell ⟨q, 0, none⟩ x).setCell ⟨q, 1, none⟩ y).setCell ⟨q, 2, none⟩ z) v1 v2 (L1.map (·.1)) (L2.map (·.1)) :=
  TxOwn.far (w := wr) ⟨L1, L2, rfl, rfl, s.own1, s.own2, s.keys1, s.keys2⟩ (far_three s.res x y z)

set_option maxRecDepth 10000 in
set_option maxHeartbeats 12800000 in
theorem lines_good (s : ByteArray) (hs : s.size ≤ 4000) (w : World) (hE : EnvP w) (h : Int) (hr : rowOf ((linesOf s).getD 0 ⟨#[]⟩) txB 1 = some [h]) (hen : endsB s = true) (hmany : 1 < (linesOf s).length) :
    Calls Tryz.prog 101 #[.string s] w fun e w' => LinesIs w.heap.size w' e (foldTx (h, [], []) ((linesOf s).drop 1)) ∧ Below w.heap.size w w' := by
  obtain ⟨i0, ii, iz0, iz1, iz2⟩ := info_parts Tryz.infoIn
  obtain ⟨o0, oi, oz0, oz1, oz2⟩ := info_parts Tryz.infoOut
  have bq := bel_new w resO
  have CS := hide (cutSuffix_any s hs (w.alloc resO))
  have hbs := body_size s
  have SP := hide (split_lines s hs (w.alloc resO) (hE.later bq))
  have hc0 := strs_new (w.alloc resO) (linesOf s) 0 (spl_pos 10 _)
  have hm : (linesOf s).length ≤ 4002 := spl_many 10 (bodyB s) (by omega)
  have hsm : ∀ x ∈ linesOf s, x.size ≤ 4000 := fun x hx => Nat.le_trans (spl_small 10 _ _ hx) (by omega)
  have hx0 : ((linesOf s).getD 0 ⟨#[]⟩).size ≤ 4000 := by
    have : 0 < (linesOf s).length := by omega
    rw [List.getD_eq_getElem?_getD, List.getElem?_eq_getElem this]
    exact hsm _ (List.getElem_mem this)
  obtain ⟨x0, ex0⟩ : ∃ x0, (linesOf s).getD 0 ⟨#[]⟩ = x0 := ⟨_, rfl⟩
  rw [ex0] at hr hc0 hx0
  rw [hen] at CS
  obtain ⟨bd, hbd⟩ : ∃ bd, bodyB s = bd := ⟨_, rfl⟩
  rw [hbd] at CS SP
  obtain ⟨ws, hws⟩ : ∃ ws, linesOf s = ws := ⟨_, rfl⟩
  rw [hws] at SP hc0 hm hsm hmany ⊢
  obtain ⟨m, hn⟩ : ∃ m, ws.length = m + 1 := ⟨ws.length - 1, by omega⟩
  rw [hn] at SP hm hmany
  obtain ⟨T, hT⟩ : ∃ T, ws.drop 1 = T := ⟨_, rfl⟩
  have hTl : T.length = m := by rw [← hT, List.length_drop]; omega
  have hTs : ∀ x ∈ T, x.size ≤ 4000 := fun x hx => hsm x (by rw [← hT] at hx; exact List.mem_of_mem_drop hx)
  obtain ⟨AR, hAR⟩ : ∃ AR, AR = (ws.map Value.string).toArray := ⟨_, rfl⟩
  have LA := hide (fun (w : World) (lb : Nat) (hh : w.heap[lb]? = some (.cells AR 9 (0, 0))) (j : Nat) (hj : j < T.length) => line_at T AR ws hAR hT.symm w lb hh j hj)
  rw [← hAR] at SP hc0
  obtain ⟨GO, hGO⟩ : ∃ GO, foldTx (h, [], []) T = GO := ⟨_, rfl⟩
  rw [hT, hGO]
  have HF := hide hGO.symm
  have HTL := hide hTl
  have HTS := hide hTs
  have HC0 := hide hc0
  have HQ : Hid ((w.alloc resO).heap[w.heap.size]? = some (.cells #[.int .i64 0, .slice none 0 0, .slice none 0 0] 74 (0, 0))) := heap_alloc_new _ _
  have HBQ := hide bq
  have HE := hide hE
  have HR := hide hr
  have e1 : (w.alloc resO).heap.size = w.heap.size + 1 := by simp
  have gm : ¬ m = 0 := by omega
  clear bq hbs hc0 hE hn ex0 hen hbd hr hws hsm hT hTl hTs hAR hGO
  go_enter Tryz.func101, Tryz.ntmps101
  go_wp2_with fail
  refine (unhide CS).mono ?_
  rintro e w' ⟨rfl, rfl⟩
  go_wp2_with fail
  refine (unhide SP).mono ?_
  rintro e wl ⟨rfl, hwl⟩
  have hb1 : Below (w.alloc resO).heap.size (w.alloc resO) wl := by rw [hwl]; exact bel_new _ _
  have c0 := unhide HC0
  have hLIN : wl.heap[w.heap.size + 1]? = some (.cells AR 9 (0, 0)) := by rw [hwl, ← e1]; exact heap_alloc_new _ _
  rw [← hwl, e1] at c0
  have HBL := hide (bel_on (unhide HBQ) hb1)
  have HQL := hide ((hb1.block _ (by simp)).trans (unhide HQ))
  have HLIN := hide hLIN
  have hsl : w.heap.size + 1 < wl.heap.size := World.block_lt_of_cell? _ _ c0
  rw [e1]
  clear hwl hb1 hLIN
  go_wp2_with fail
  refine (parseRow_any x0 txB 1 1 rfl hx0 (by decide) (by decide) wl ((unhide HE).later (unhide HBL)) (some [h]) (unhide HR)).mono ?_
  rintro e w3 ⟨a3, c3, rfl, hrow, hb3, _⟩
  simp only [Option.getD_some, Option.isSome_some, List.length_cons, List.length_nil] at hrow ⊢
  obtain ⟨hb, ho, rfl, hcell⟩ := hrow.2.2 (by decide)
  have h0 := hcell 0 (by decide)
  simp only [Nat.add_zero] at h0
  change w3.cell? ⟨hb, ho, none⟩ = some (.int .i64 h) at h0
  have hs3 : w.heap.size + 1 < w3.heap.size := Nat.lt_of_lt_of_le hsl hb3.size
  have hPL : PL w w.heap.size w3.heap.size (w.heap.size + 1) AR h (w3.alloc (.cells #[.int .i64 h, .slice none 0 0, .slice none 0 0] 74)) (.slice none 0 0) (.slice none 0 0) [] [] := by
    have ba := bel_new w3 (.cells #[.int .i64 h, .slice none 0 0, .slice none 0 0] 74)
    refine ⟨heap_alloc_new _ _, ?_, by omega, ?_, World.ownsRow_nil _ _ _ _, World.ownsRow_nil _ _ _ _, (fun x hx => by cases hx), (fun x hx => by cases hx), bel_on (bel_on (unhide HBL) hb3) ba, by omega⟩
    · exact (ba.block _ (by omega)).trans ((hb3.block _ (by omega)).trans (unhide HQL))
    · exact (ba.block _ (by omega)).trans ((hb3.block _ (by omega)).trans (unhide HLIN))
  have HPL := hide hPL
  obtain ⟨p, hp⟩ : ∃ p, p = w3.heap.size := ⟨_, rfl⟩
  clear hb3 hrow hcell c0 hPL
  go_wp2
  rw [← hp] at HPL ⊢
  clear hp
  go_loopw [46] (fun i wr => ∃ (j : Nat) (v1 v2 : Value) (L1 : List (InD × Value)) (L2 : List (OutD × Value)), j ≤ m ∧ i = .int .i64 j ∧ L1.length ≤ j ∧ L2.length ≤ j ∧ PL w w.heap.size p (w.heap.size + 1) AR h wr v1 v2 L1 L2 ∧ Hid (foldTx (h, [], []) T = foldTx (h, L1.map (·.1), L2.map (·.1)) (T.drop j))) (fun i _ => m - (intOf i).toNat)
  case atStart => exact ⟨0, _, _, [], [], Nat.zero_le _, rfl, Nat.le_refl _, Nat.le_refl _, unhide HPL, rfl⟩
  case round =>
    obtain ⟨j, v1, v2, L1, L2, hj, rfl, l1, l2, hS, A⟩ := hrel
    obtain ⟨va, vc, ev2, _⟩ := sl_of_own hS.own2
    subst ev2
    have HS := hide hS
    by_cases hlt : j < m
    · have hlk : j < T.length := by rw [unhide HTL]; exact hlt
      have c1 := (unhide LA) wr (w.heap.size + 1) hS.lin j hlk
      have hxs := (unhide HTS) T[j] (List.getElem_mem hlk)
      have FS := hide (fun (u : TxD) (hu : stepLn (h, L1.map (·.1), L2.map (·.1)) T[j] = some u) => foldTx_step hlk hu)
      have FD := hide (fun (hu : stepLn (h, L1.map (·.1), L2.map (·.1)) T[j] = none) => foldTx_dead hlk hu)
      obtain ⟨x, hx⟩ : ∃ x, T[j] = x := ⟨_, rfl⟩
      rw [hx] at c1 hxs FS FD
      have hlw : w.heap.size + 1 < wr.heap.size := lt_of_block hS.lin
      have PI := hide (parseLine_any x inB 2 2 rfl hxs (by decide) (by decide) wr ((unhide HE).later hS.bel))
      clear hS hx
      cases hi : lineOf x inB 2 with
      | none =>
        rw [hi] at PI
        have HI := hide hi
        clear hi
        go_wp2_with fail
        refine (unhide PI).mono ?_
        rintro e w5 ⟨he, hb5⟩
        change e = _ at he
        subst he
        have HS5 := hide ((unhide HS).later hb5)
        clear hb5
        have RO : Hid (stepLn (h, L1.map (·.1), L2.map (·.1)) x = outStep (h, L1.map (·.1), L2.map (·.1)) x) := by show _ = _; unfold stepLn; rw [unhide HI]
        cases ho : lineOf x outB 1 with
        | none =>
          have HD : Hid (foldTx (h, [], []) T = none) := by
            show _ = _
            rw [unhide A, (unhide FD) (by rw [unhide RO]; unfold outStep; rw [ho])]
          have PO := hide (parseLine_any x outB 1 1 rfl hxs (by decide) (by decide) w5 ((unhide HE).later (unhide HS5).bel))
          rw [ho] at PO
          clear ho FD FS RO A
          go_wp2_with fail
          refine (unhide PO).mono ?_
          rintro e w6 ⟨he, hb6⟩
          change e = _ at he
          subst he
          have HS6 := hide ((unhide HS5).later hb6)
          obtain ⟨⟨q0, q1, q2⟩, qf⟩ := block_cells3 (unhide HS6).res
          have f0 := qf 0
          have f1 := qf 1
          have f2 := qf 2
          have hq6 : w.heap.size < w6.heap.size := World.block_lt_of_cell? _ _ q0
          clear hb6 qf
          go_wp2
          (try simp only [Exit.inBlock, Exit.then])
          refine bodyPost_ret (v := .tuple #[.agg #[.int .i64 0, .slice none 0 0, .slice none 0 0], .bool false]) ?_ rfl ⟨?_, ?_⟩
          · rw [results_cell_tmp rfl]
            go_simp
          · rw [unhide HF, unhide HD]; rfl
          · exact (((unhide HS6).bel.setCell (Nat.le_refl _) _).setCell (Nat.le_refl _) _).setCell (Nat.le_refl _) _
        | some ZL =>
          obtain ⟨Zo, Lo⟩ := ZL
          have hZo := lineOf_len ho
          obtain ⟨z, rfl⟩ := List.length_eq_one_iff.1 hZo
          have HD : Hid (foldTx (h, [], []) T = foldTx (h, L1.map (·.1), L2.map (·.1) ++ [(z, Lo)]) (T.drop (j + 1))) := by
            show _ = _
            rw [unhide A, (unhide FS) _ (by rw [unhide RO]; unfold outStep; rw [ho])]
            rfl
          have PO := hide (parseLine_any x outB 1 1 rfl hxs (by decide) (by decide) w5 ((unhide HE).later (unhide HS5).bel))
          rw [ho] at PO
          clear ho hZo FD FS RO A
          go_wp2_with fail
          refine (unhide PO).mono ?_
          rintro e w6 ⟨he, hb6⟩
          obtain ⟨a6, c6, kv, rfl, hrow, hkv, hfr⟩ := he
          obtain ⟨nb, no, rfl, hcell⟩ := hrow.2.2 (by simp)
          have n0 := hcell 0 (by simp)
          simp only [Nat.add_zero] at n0
          change w6.cell? ⟨nb, no, none⟩ = some (.int .i64 z) at n0
          have HS6 := hide ((unhide HS5).later hb6)
          have hkv' := own_base hkv (Nat.le_trans (unhide HS5).bel.size (Nat.le_refl _))
          obtain ⟨ka, kc, rfl, _, _⟩ := ops_slice hkv'
          have HKV := hide hkv'
          obtain ⟨⟨b0, b1, b2⟩, bf⟩ := block_cells3 (unhide HS6).box
          have bfr2 := bf 2
          have hp6 : p < w6.heap.size := World.block_lt_of_cell? _ _ b0
          have lnb : nb < w6.heap.size := World.block_lt_of_cell? _ _ n0
          have av1 : (Value.slice va L2.length vc).ownBlock ≠ some p := fun e => by
            obtain ⟨_, ⟨e9, _⟩ | ⟨g, cap, cur, e9, _, hh, _⟩⟩ := (unhide HS6).own2
            · rw [e9] at e; cases e
            · rw [e9] at e
              have e2 : g = p := by injection e
              subst e2
              rw [(unhide HS6).box] at hh
              injection hh with hh
              injection hh with _ hh
              exact absurd hh (by decide)
          have av2 : (Value.slice va L2.length vc).ownBlock ≠ some nb := fun e => by
            obtain ⟨_, ⟨e9, _⟩ | ⟨g, cap, cur, e9, _, hh, _⟩⟩ := (unhide HS5).own2
            · rw [e9] at e; cases e
            · rw [e9] at e
              have e2 : g = nb := by injection e
              subst e2
              have := lt_of_block hh
              have := hfr _ rfl
              simp only at this
              omega
          have hnp : (⟨nb, no, none⟩ : Addr) ≠ ⟨p, 2, none⟩ := fun e => by
            have h1 := hfr _ rfl
            have h2 := lt_of_block (unhide HS5).box
            have h3 : nb = p := by injection e
            simp only at h1
            omega
          have HFZ : Hid (∀ o, (w6.alloc o).drew.frozen? ⟨p, 2, none⟩ = false) := fun o => ((bel_new w6 o).frozen (p := ⟨p, 2, none⟩) hp6).trans bfr2
          have HCE : Hid (∀ o, (w6.alloc o).drew.cell? ⟨p, 2, none⟩ = some (.slice va L2.length vc)) := fun o => ((bel_new w6 o).cell (p := ⟨p, 2, none⟩) hp6).trans b2
          have HL2 := hide l2
          clear hb6 hrow hkv hfr hcell hkv' bf
          go_wp2_with fail
          
          go_region_law
            ((refine step_append_lies _ (by rfl) _ _ _ (by rfl) w.heap.size 84 o0 _ 2 32 Tryz.underlying72 oi oz0 oz1 oz2 rfl (by omega) (.slice va L2.length vc) L2.length (outCells L2) (by rfl) (((unhide HS6).own2.alloc _).drew)
                ⟨w6.heap.size, 0, none⟩ 1 1 [.int .i64 z, .slice ka Lo.length kc] (by rfl) (by rfl) (World.news_of_block (cs := #[.int .i64 z, .slice ka Lo.length kc]) (t := 84) (fr := (0, 0)) (heap_alloc_new w6 _)) (by simp [Value.oneCell'])
                (by omega) (by have := unhide HL2; unfold maxLen; omega) (by have := unhide HL2; omega) (by have := (unhide HS6).bel.size; simp; omega) (w6.heap.size + 1) (by simp) ?_; intro gg cap w7 hown7 hgrow hat hlt7; have hfz7 : w7.frozen? ⟨p, 2, none⟩ = false := (hgrow.frozen_far _ (by simp; omega) (Ne.symm av1)).trans ((unhide HFZ) _); have hce7 : w7.cell? ⟨p, 2, none⟩ = some (.slice va L2.length vc) := (hgrow.cell_far _ (by simp; omega) (Ne.symm av1)).trans ((unhide HCE) _)))
          all_goals
            have HN := hide (PL.addOut (PL.later (w' := (w6.alloc (.cells #[.int .i64 z, .slice ka Lo.length kc] 84)).drew) ((unhide HS6).alloc (.cells #[.int .i64 z, .slice ka Lo.length kc] 84)) ⟨rfl, rfl, rfl, Nat.le_refl _, fun _ _ => rfl⟩) (((unhide HKV).alloc _).drew) hown7 hgrow)
            clear hown7 hgrow hat hlt7 hfz7 hce7
            go_wp2
            go_roundw
            case rel =>
              refine ⟨_, _, _, _, _, _, _, _, _, _, _, _, _, _, _, _, _, _, _, _, _, _, _, _, _, _, _, _, _, _, _, _, _, _, _, _, _, _, _, _, _, _, _, _, _, _, _, _, _, _, _, _, _, _, _, _, _, _, ?_, rfl⟩
              refine ⟨j + 1, v1, _, L1, _, by omega, by go_num, by omega, by have := unhide HL2; simp; omega, unhide HN, ?_⟩
              show _ = _
              rw [List.map_append]
              exact unhide HD
            case measure => simp [intOf]; omega
      | some ZL =>
        obtain ⟨Zi, Li⟩ := ZL
        have hZi := lineOf_len hi
        obtain ⟨z1, z2, rfl⟩ : ∃ z1 z2, Zi = [z1, z2] := by
          match Zi, hZi with
          | [a, b], _ => exact ⟨a, b, rfl⟩
        rw [hi] at PI
        have HI := hide hi
        clear hi hZi
        by_cases h02 : L2.length = 0
        · have e2 : L2 = [] := List.length_eq_zero_iff.1 h02
          subst e2
          simp only [List.length_nil] at HS
          have HD : Hid (foldTx (h, [], []) T = foldTx (h, L1.map (·.1) ++ [(z1, z2, Li)], []) (T.drop (j + 1))) := by
            show _ = _
            rw [unhide A, (unhide FS) (h, L1.map (·.1) ++ [(z1, z2, Li)], []) (by unfold stepLn; rw [unhide HI]; rfl)]
          clear FD FS A h02 l2
          go_wp2_with fail
          refine (unhide PI).mono ?_
          rintro e w6 ⟨he, hb6⟩
          obtain ⟨a6, c6, kv, rfl, hrow, hkv, hfr⟩ := he
          obtain ⟨nb, no, rfl, hcell⟩ := hrow.2.2 (by simp)
          have n0 := hcell 0 (by simp)
          have n1 := hcell 1 (by simp)
          simp only [Nat.add_zero] at n0
          change w6.cell? ⟨nb, no, none⟩ = some (.int .i64 z1) at n0
          change w6.cell? ⟨nb, no + 1, none⟩ = some (.int .i64 z2) at n1
          have HS6 := hide ((unhide HS).later hb6)
          have hkv' := own_base hkv (unhide HS).bel.size
          obtain ⟨ka, kc, rfl, _, _⟩ := ops_slice hkv'
          have HKV := hide hkv'
          obtain ⟨⟨b0, b1, b2⟩, bf⟩ := block_cells3 (unhide HS6).box
          have bfr1 := bf 1
          have hp6 : p < w6.heap.size := World.block_lt_of_cell? _ _ b0
          have lnb : nb < w6.heap.size := World.block_lt_of_cell? _ _ n0
          have av1 : v1.ownBlock ≠ some p := fun e => by
            obtain ⟨_, ⟨rfl, _⟩ | ⟨g, cap, cur, rfl, _, hh, _⟩⟩ := (unhide HS6).own1
            · cases e
            · have e2 : g = p := by injection e
              subst e2
              rw [(unhide HS6).box] at hh
              injection hh with hh
              injection hh with _ hh
              exact absurd hh (by decide)
          have HFZ : Hid (∀ o, (w6.alloc o).drew.frozen? ⟨p, 1, none⟩ = false) := fun o => ((bel_new w6 o).frozen (p := ⟨p, 1, none⟩) hp6).trans bfr1
          have HCE : Hid (∀ o, (w6.alloc o).drew.cell? ⟨p, 1, none⟩ = some v1) := fun o => ((bel_new w6 o).cell (p := ⟨p, 1, none⟩) hp6).trans b1
          have HL1 := hide l1
          clear hb6 hrow hkv hfr hcell hkv' bf
          go_wp2_with fail
          go_region_law
            ((refine step_append_lies _ (by rfl) _ _ _ (by rfl) w.heap.size 140 i0 _ 3 40 Tryz.underlying71 ii iz0 iz1 iz2 rfl (by omega) v1 L1.length (inCells L1) (by rfl) (((unhide HS6).own1.alloc _).drew)
                ⟨w6.heap.size, 0, none⟩ 1 1 [.int .i64 z1, .int .i64 z2, .slice ka Li.length kc] (by rfl) (by rfl) (World.news_of_block (cs := #[.int .i64 z1, .int .i64 z2, .slice ka Li.length kc]) (t := 140) (fr := (0, 0)) (heap_alloc_new w6 _)) (by simp [Value.oneCell'])
                (by omega) (by have := unhide HL1; unfold maxLen; omega) (by have := unhide HL1; omega) (by have := (unhide HS6).bel.size; simp; omega) (w6.heap.size + 1) (by simp) ?_; intro gg cap w7 hown7 hgrow hat hlt7; have hfz7 : w7.frozen? ⟨p, 1, none⟩ = false := (hgrow.frozen_far _ (by simp; omega) (Ne.symm av1)).trans ((unhide HFZ) _); have hce7 : w7.cell? ⟨p, 1, none⟩ = some v1 := (hgrow.cell_far _ (by simp; omega) (Ne.symm av1)).trans ((unhide HCE) _)))
          all_goals
            have HN := hide (PL.addIn (PL.later (w' := (w6.alloc (.cells #[.int .i64 z1, .int .i64 z2, .slice ka Li.length kc] 140)).drew) ((unhide HS6).alloc (.cells #[.int .i64 z1, .int .i64 z2, .slice ka Li.length kc] 140)) ⟨rfl, rfl, rfl, Nat.le_refl _, fun _ _ => rfl⟩) (((unhide HKV).alloc _).drew) hown7 hgrow)
            clear hown7 hgrow hat hlt7 hfz7 hce7
            go_wp2
            go_roundw
            case rel =>
              refine ⟨_, _, _, _, _, _, _, _, _, _, _, _, _, _, _, _, _, _, _, _, _, _, _, _, _, _, _, _, _, _, _, _, _, _, _, _, _, _, _, _, _, _, _, _, _, _, _, _, _, _, _, _, _, _, _, _, _, _, ?_, rfl⟩
              refine ⟨j + 1, _, _, _, [], by omega, by go_num, by have := unhide HL1; simp; omega, by simp, unhide HN, ?_⟩
              show _ = _
              rw [List.map_append]
              exact unhide HD
            case measure => simp [intOf]; omega
        · have g02 : ((L2.length : Int) == 0) = false := by rw [beq_eq_false_iff_ne]; omega
          have HNZ := hide h02
          clear h02
          go_wp2_with fail
          refine (unhide PI).mono ?_
          rintro e w5 ⟨he, hb5⟩
          obtain ⟨a5, c5, kv5, rfl, _, hkv5, _⟩ := he
          have HS5 := hide ((unhide HS).later hb5)
          obtain ⟨ka5, kc5, rfl, _, _⟩ := ops_slice hkv5
          obtain ⟨⟨b50, b51, b52⟩, bf5⟩ := block_cells3 (unhide HS5).box
          have hp5 : p < w5.heap.size := World.block_lt_of_cell? _ _ b50
          clear hb5 bf5 hkv5
          have RO : Hid (stepLn (h, L1.map (·.1), L2.map (·.1)) x = outStep (h, L1.map (·.1), L2.map (·.1)) x) := by show _ = _; unfold stepLn; rw [unhide HI]; exact if_neg (by rw [List.length_map]; exact unhide HNZ)
          cases ho : lineOf x outB 1 with
          | none =>
            have HD : Hid (foldTx (h, [], []) T = none) := by
              show _ = _
              rw [unhide A, (unhide FD) (by rw [unhide RO]; unfold outStep; rw [ho])]
            have PO := hide (parseLine_any x outB 1 1 rfl hxs (by decide) (by decide) w5 ((unhide HE).later (unhide HS5).bel))
            rw [ho] at PO
            clear ho FD FS RO A
            go_wp2_with fail
            refine (unhide PO).mono ?_
            rintro e w6 ⟨he, hb6⟩
            change e = _ at he
            subst he
            have HS6 := hide ((unhide HS5).later hb6)
            obtain ⟨⟨q0, q1, q2⟩, qf⟩ := block_cells3 (unhide HS6).res
            have f0 := qf 0
            have f1 := qf 1
            have f2 := qf 2
            have hq6 : w.heap.size < w6.heap.size := World.block_lt_of_cell? _ _ q0
            clear hb6 qf
            go_wp2
            (try simp only [Exit.inBlock, Exit.then])
            refine bodyPost_ret (v := .tuple #[.agg #[.int .i64 0, .slice none 0 0, .slice none 0 0], .bool false]) ?_ rfl ⟨?_, ?_⟩
            · rw [results_cell_tmp rfl]
              go_simp
            · rw [unhide HF, unhide HD]; rfl
            · exact (((unhide HS6).bel.setCell (Nat.le_refl _) _).setCell (Nat.le_refl _) _).setCell (Nat.le_refl _) _
          | some ZL =>
            obtain ⟨Zo, Lo⟩ := ZL
            have hZo := lineOf_len ho
            obtain ⟨z, rfl⟩ := List.length_eq_one_iff.1 hZo
            have HD : Hid (foldTx (h, [], []) T = foldTx (h, L1.map (·.1), L2.map (·.1) ++ [(z, Lo)]) (T.drop (j + 1))) := by
              show _ = _
              rw [unhide A, (unhide FS) _ (by rw [unhide RO]; unfold outStep; rw [ho])]
              rfl
            have PO := hide (parseLine_any x outB 1 1 rfl hxs (by decide) (by decide) w5 ((unhide HE).later (unhide HS5).bel))
            rw [ho] at PO
            clear ho hZo FD FS RO A
            go_wp2_with fail
            refine (unhide PO).mono ?_
            rintro e w6 ⟨he, hb6⟩
            obtain ⟨a6, c6, kv, rfl, hrow, hkv, hfr⟩ := he
            obtain ⟨nb, no, rfl, hcell⟩ := hrow.2.2 (by simp)
            have n0 := hcell 0 (by simp)
            simp only [Nat.add_zero] at n0
            change w6.cell? ⟨nb, no, none⟩ = some (.int .i64 z) at n0
            have HS6 := hide ((unhide HS5).later hb6)
            have hkv' := own_base hkv (Nat.le_trans (unhide HS5).bel.size (Nat.le_refl _))
            obtain ⟨ka, kc, rfl, _, _⟩ := ops_slice hkv'
            have HKV := hide hkv'
            obtain ⟨⟨b0, b1, b2⟩, bf⟩ := block_cells3 (unhide HS6).box
            have bfr2 := bf 2
            have hp6 : p < w6.heap.size := World.block_lt_of_cell? _ _ b0
            have lnb : nb < w6.heap.size := World.block_lt_of_cell? _ _ n0
            have av1 : (Value.slice va L2.length vc).ownBlock ≠ some p := fun e => by
              obtain ⟨_, ⟨e9, _⟩ | ⟨g, cap, cur, e9, _, hh, _⟩⟩ := (unhide HS6).own2
              · rw [e9] at e; cases e
              · rw [e9] at e
                have e2 : g = p := by injection e
                subst e2
                rw [(unhide HS6).box] at hh
                injection hh with hh
                injection hh with _ hh
                exact absurd hh (by decide)
            have av2 : (Value.slice va L2.length vc).ownBlock ≠ some nb := fun e => by
              obtain ⟨_, ⟨e9, _⟩ | ⟨g, cap, cur, e9, _, hh, _⟩⟩ := (unhide HS5).own2
              · rw [e9] at e; cases e
              · rw [e9] at e
                have e2 : g = nb := by injection e
                subst e2
                have := lt_of_block hh
                have := hfr _ rfl
                simp only at this
                omega
            have hnp : (⟨nb, no, none⟩ : Addr) ≠ ⟨p, 2, none⟩ := fun e => by
              have h1 := hfr _ rfl
              have h2 := lt_of_block (unhide HS5).box
              have h3 : nb = p := by injection e
              simp only at h1
              omega
            have HFZ : Hid (∀ o, (w6.alloc o).drew.frozen? ⟨p, 2, none⟩ = false) := fun o => ((bel_new w6 o).frozen (p := ⟨p, 2, none⟩) hp6).trans bfr2
            have HCE : Hid (∀ o, (w6.alloc o).drew.cell? ⟨p, 2, none⟩ = some (.slice va L2.length vc)) := fun o => ((bel_new w6 o).cell (p := ⟨p, 2, none⟩) hp6).trans b2
            have HL2 := hide l2
            clear hb6 hrow hkv hfr hcell hkv' bf
            go_wp2_with fail
          
            go_region_law
              ((refine step_append_lies _ (by rfl) _ _ _ (by rfl) w.heap.size 84 o0 _ 2 32 Tryz.underlying72 oi oz0 oz1 oz2 rfl (by omega) (.slice va L2.length vc) L2.length (outCells L2) (by rfl) (((unhide HS6).own2.alloc _).drew)
                  ⟨w6.heap.size, 0, none⟩ 1 1 [.int .i64 z, .slice ka Lo.length kc] (by rfl) (by rfl) (World.news_of_block (cs := #[.int .i64 z, .slice ka Lo.length kc]) (t := 84) (fr := (0, 0)) (heap_alloc_new w6 _)) (by simp [Value.oneCell'])
                  (by omega) (by have := unhide HL2; unfold maxLen; omega) (by have := unhide HL2; omega) (by have := (unhide HS6).bel.size; simp; omega) (w6.heap.size + 1) (by simp) ?_; intro gg cap w7 hown7 hgrow hat hlt7; have hfz7 : w7.frozen? ⟨p, 2, none⟩ = false := (hgrow.frozen_far _ (by simp; omega) (Ne.symm av1)).trans ((unhide HFZ) _); have hce7 : w7.cell? ⟨p, 2, none⟩ = some (.slice va L2.length vc) := (hgrow.cell_far _ (by simp; omega) (Ne.symm av1)).trans ((unhide HCE) _)))
            all_goals
              have HN := hide (PL.addOut (PL.later (w' := (w6.alloc (.cells #[.int .i64 z, .slice ka Lo.length kc] 84)).drew) ((unhide HS6).alloc (.cells #[.int .i64 z, .slice ka Lo.length kc] 84)) ⟨rfl, rfl, rfl, Nat.le_refl _, fun _ _ => rfl⟩) (((unhide HKV).alloc _).drew) hown7 hgrow)
              clear hown7 hgrow hat hlt7 hfz7 hce7
              go_wp2
              go_roundw
              case rel =>
                refine ⟨_, _, _, _, _, _, _, _, _, _, _, _, _, _, _, _, _, _, _, _, _, _, _, _, _, _, _, _, _, _, _, _, _, _, _, _, _, _, _, _, _, _, _, _, _, _, _, _, _, _, _, _, _, _, _, _, _, _, ?_, rfl⟩
                refine ⟨j + 1, v1, _, L1, _, by omega, by go_num, by omega, by have := unhide HL2; simp; omega, unhide HN, ?_⟩
                show _ = _
                rw [List.map_append]
                exact unhide HD
              case measure => simp [intOf]; omega
    · have e : j = m := by omega
      subst e
      have HR2 : Hid (GO = some (h, L1.map (·.1), L2.map (·.1))) := by
        show _ = _
        rw [unhide HF, unhide A, foldTx_end (by rw [unhide HTL]; exact Nat.le_refl _)]
      obtain ⟨ua, uc, ev1, _⟩ := sl_of_own hS.own1
      subst ev1
      obtain ⟨⟨b0, b1, b2⟩, bf⟩ := block_cells3 hS.box
      obtain ⟨⟨q0, q1, q2⟩, qf⟩ := block_cells3 hS.res
      have f0 := qf 0
      have f1 := qf 1
      have f2 := qf 2
      have hpq := hS.pq
      have hp5 : p < wr.heap.size := World.block_lt_of_cell? _ _ b0
      have hq5 : w.heap.size < wr.heap.size := World.block_lt_of_cell? _ _ q0
      clear hS A bf qf
      go_wp2
      (try simp only [Exit.inBlock, Exit.then])
      refine bodyPost_ret (v := .tuple #[.agg #[.int .i64 h, .slice ua L1.length uc, .slice va L2.length vc], .bool true]) ?_ rfl ⟨?_, ?_⟩
      · rw [results_cell_tmp rfl]
        go_simp
      · rw [unhide HR2]
        exact ⟨_, _, rfl, PL.done (unhide HS) _ _ _⟩
      · exact (((unhide HS).bel.setCell (Nat.le_refl _) _).setCell (Nat.le_refl _) _).setCell (Nat.le_refl _) _

end Go.Proofs.YtepmnpapdknocaaGreatDoor
