/- The contract of Run: its error, and what it leaves. -/
import Derived.Test.YtifhlohdidfbgaaGreatDoorLockRunB
import Derived.Test.YtifhlohdidfbgaaGreatDoorShelf
import Derived.Test.YtifhlohdidfbgaaGreatDoorCoinPut
import Derived.Test.YtifhlohdidfbgaaGreatDoorCoinDo
import Derived.Test.YtifhlohdidfbgaaGreatDoorBlkHead
namespace Go.Proofs.YtifhlohdidfbgaaGreatDoor
open Go.RowKit

/-- What a slice of ints that the call made is to a reader. -/
theorem row_of_own {w : World} {base : Nat} {e : TypeId} {v : Value} {n : Nat} {Z : List Int} (h : w.ownsRow base e 1 v n (Z.map (Value.int .i64))) : ∃ a cap, v = .slice a n cap ∧ RowAt w a n Z := by
  have hl : Z.length = n := by have := h.1; simpa using this
  rcases h.2 with ⟨rfl, rfl⟩ | ⟨g, cap, cur, rfl, _, _, h1, h2, _, _⟩
  · have e : Z = [] := List.length_eq_zero_iff.1 hl
    subst e
    exact ⟨none, 0, rfl, RowAt.nil _ _⟩
  · refine ⟨_, cap, rfl, hl, Nat.le_trans h1 h2, fun _ => ⟨g, 0, rfl, fun i hi => ?_⟩⟩
    rw [Nat.zero_add, World.ownsRow.cellAt h i (by omega)]
    simp [hl, hi]

theorem Tryz.arr289 : Tryz.prog.underlying 289 = some (.array (Tryz.prog.arrayLen 289) (Tryz.prog.elem 289)) := by kernel_rfl
theorem Tryz.len289 : Tryz.prog.arrayLen 289 = 16 := by kernel_rfl
theorem Tryz.el289 : Tryz.prog.elem 289 = 3 := by kernel_rfl

theorem slice_stack (p n : Nat) (h : n ≤ 16) (w : World) : (Instr.sliceAt 289 (.pointer (some ⟨p, 0, none⟩)) none (some (.int .i64 n)) none).run Tryz.prog w = .ok (.slice (some ⟨p, 0, none⟩) n 16) w := by
  rw [run_sliceAt_array_h w 289 ⟨p, 0, none⟩ Tryz.arr289 .i64 n (by omega) (by rw [Tryz.len289]; omega), Tryz.el289, Tryz.len289, Tryz.sizeOf3]
  simp [Result.andThen, slicedAt, Addr.add]

set_option maxRecDepth 100000 in
set_option maxHeartbeats 800000 in
theorem left_any (p : Nat) (s : MS) (W w : World) (hm : Mach p s W w) :
    Calls Tryz.prog 229 #[.pointer (some ⟨p, 0, none⟩)] w fun e w' => ∃ a cap, e = .returned (.slice a s.n cap) ∧ RowAt w' a s.n (s.cs.take s.n) ∧ Below w.heap.size w w' := by
  have c1 := hm.cell_n
  have hn := hm.good.2.1
  have hl := hm.good.1
  have HC : Hid (∀ j, j < s.cs.length → w.cell? ⟨p, 0 + j, none⟩ = some (.int .i64 (s.cs.getD j 0))) := fun j hj => by rw [Nat.zero_add]; exact hm.cell_s j (by omega)
  have hsl := slice_stack p s.n hn
  clear hm
  go_enter Tryz.func229, Tryz.ntmps229
  go_wp2
  go_region_with (go_at_call 257; refine (Tryz.slices_Clone_int p 0 s.n 16 s.cs _ ?_ ?_ ?_).mono ?_; omega; omega; exact (unhide HC); rintro e w' ⟨v, rfl, hown, hnn, hb⟩)
  all_goals
    obtain ⟨a, cap, rfl, hrow⟩ := row_of_own hown
    have HR := hide hrow
    have HB : Hid (Below w.heap.size w w') := ⟨hb.os, hb.tape, hb.output, hb.size, hb.block⟩
    clear hown hnn hb hrow
    go_wp2
    go_ret
    exact ⟨a, cap, rfl, unhide HR, unhide HB⟩

theorem runE_bad {l : List (Int × Int)} {Z : List Int} {h : Int} (e : chk l ≠ 0) : runE l Z h = chk l ∧ runS l Z h = [] := by
  have h1 : runE l Z h = chk l := by unfold runE; rw [if_neg e]
  exact ⟨h1, by unfold runS; rw [h1, if_neg e]⟩
theorem runE_range {l : List (Int × Int)} {Z : List Int} {h : Int} (e : chk l = 0) (g : (stackOk Z && hOk h) = false) : runE l Z h = 3 ∧ runS l Z h = [] := by
  have h1 : runE l Z h = 3 := by unfold runE; rw [if_pos e, g]; rfl
  exact ⟨h1, by unfold runS; rw [h1]; rfl⟩
theorem runE_key {l : List (Int × Int)} {Z : List Int} {h : Int} (e : chk l = 0) (g : (stackOk Z && hOk h) = true) (r : runL h l Z = none) : runE l Z h = 8 ∧ runS l Z h = [] := by
  have h1 : runE l Z h = 8 := by unfold runE; rw [if_pos e, g, r]; rfl
  exact ⟨h1, by unfold runS; rw [h1]; rfl⟩
theorem runE_fine {l : List (Int × Int)} {Z : List Int} {h : Int} {L : List Int} (e : chk l = 0) (g : (stackOk Z && hOk h) = true) (r : runL h l Z = some L) : runE l Z h = 0 ∧ runS l Z h = L := by
  have h1 : runE l Z h = 0 := by unfold runE; rw [if_pos e, g, r]; rfl
  exact ⟨h1, by unfold runS; rw [h1, r]; rfl⟩

set_option maxHeartbeats 400000 in
theorem run_none (p : Nat) (s : MS) (a : Option Addr) (cap : Nat) (W w : World) (hm : Mach p s W w) :
    Calls Tryz.prog 228 #[.pointer (some ⟨p, 0, none⟩), .slice a 0 cap] w fun e w' => e = .returned (.tuple #[]) ∧ ∃ s', Mach p s' W w' ∧ s'.h = s.h ∧ s'.rep = s.rep.bind (runL s.h []) := by
  have HM := hide hm
  have hpw := hm.lt
  clear hm
  go_enter Tryz.func228, Tryz.ntmps228
  go_wp2_with fail
  refine (orders_any p w hpw).mono ?_
  rintro e w1 ⟨rfl, hbx, hbw⟩
  have hs1 := run_storeCells_new (P := Tryz.prog) w1 326 #[.nilFunc, .nilFunc, .nilFunc, .nilFunc, .nilFunc, .nilFunc, .nilFunc, .nilFunc, .nilFunc, .nilFunc, .nilFunc, .nilFunc, .nilFunc, .nilFunc] (ords p (w.heap.size + 1)) Tryz.size326 rfl (by simp [ords, met, clo1, clo2, Value.oneCell'])
  have hs2 : (ords p (w.heap.size + 1)).size = 14 := rfl
  have hm1 : Mach p s W w1 := ⟨(unhide HM).good, (hbw.block p hpw).trans (unhide HM).block, fun k hk hl => (hbw.block k (Nat.lt_of_lt_of_le hl (unhide HM).size)).trans ((unhide HM).old k hk hl), Nat.le_trans (unhide HM).size hbw.size, hbw.os.trans (unhide HM).os, hbw.tape.trans (unhide HM).tape, hbw.output.trans (unhide HM).output⟩
  have HM2 := hide (hm1.alloc (.cells (ords p (w.heap.size + 1)) 326))
  clear hbx hbw hm1
  go_wp2
  refine wp_loop_rounds 1 ?_
  rw [rounds_succ]
  go_wp2
  go_end0
  exact ⟨rfl, s, unhide HM2, rfl, by cases s.rep <;> rfl⟩

theorem mrun_any (p : Nat) (s : MS) (a : Option Addr) (len cap : Nat) (l : List (Int × Int)) (W w : World) (hm : Mach p s W w) (hp : W.heap.size ≤ p) (hO : OpsAt W a len l) (hck : chk l = 0) :
    Calls Tryz.prog 228 #[.pointer (some ⟨p, 0, none⟩), .slice a len cap] w fun e w' => e = .returned (.tuple #[]) ∧ ∃ s', Mach p s' W w' ∧ s'.h = s.h ∧ s'.rep = s.rep.bind (runL s.h l) := by
  obtain ⟨hz, hc⟩ := hO
  have h16 : len ≤ 16 := by
    unfold chk at hck
    split at hck
    · cases hck
    · omega
  have hck' : chkL l = 0 := by
    unfold chk at hck
    split at hck
    · cases hck
    · exact hck
  by_cases h : len = 0
  · subst h
    have e : l = [] := List.length_eq_zero_iff.1 hz
    subst e
    exact run_none p s a cap W w hm
  · obtain ⟨b, off, rfl, hcell⟩ := hc (by omega)
    exact run_some p s b off len cap l W w hm hp hz h16 hck' (World.block_lt_of_cell? _ _ (hcell 0 (by omega)).1) hcell

/-- The machine as it is made. -/
def fresh (h : Int) : MS := ⟨List.replicate 16 0, 0, h, false⟩
theorem fresh_ok (h : Int) : (fresh h).ok := ⟨rfl, Nat.zero_le _, fun x hx => by rw [List.eq_of_mem_replicate hx]; rfl⟩
theorem fresh_mach (h : Int) (w : World) : Mach w.heap.size (fresh h) w (w.alloc (.cells (fresh h).cells 291)) where
  good := fresh_ok h
  block := heap_alloc_new _ _
  old := fun k _ hl => Below.heap_alloc _ _ _ hl
  size := by simp
  os := rfl
  tape := rfl
  output := rfl

theorem rep_left {s : MS} {L : List Int} (h : s.rep = some L) : s.f = false ∧ s.cs.take s.n = L := by
  unfold MS.rep at h
  cases hf : s.f with
  | true => rw [hf] at h; cases h
  | false => rw [hf] at h; exact ⟨rfl, by simpa using h⟩
theorem rep_lost {s : MS} (h : s.rep = none) : s.f = true := by
  unfold MS.rep at h
  cases hf : s.f with
  | true => rfl
  | false => rw [hf] at h; cases h

set_option maxHeartbeats 1600000 in
theorem run_any (a az : Option Addr) (len cap lens caps : Nat) (l : List (Int × Int)) (Z : List Int) (h : Int) (w : World) (hO : OpsAt w a len l) (hR : RowAt w az lens Z) :
    Calls Tryz.prog 197 #[.slice a len cap, .slice az lens caps, .int .i64 h] w fun e w' => ∃ a' cap', e = .returned (.tuple #[.slice a' (runS l Z h).length cap', .int .i64 (runE l Z h)]) ∧ RowAt w' a' (runS l Z h).length (runS l Z h) ∧ Below w.heap.size w w' := by
  have CK := hide (check_any a len cap l w hO)
  have HO := hide hO
  have HR := hide hR
  clear hO hR
  by_cases hck : chk l = 0
  · rw [hck] at CK
    have HK := hide hck
    clear hck
    go_enter Tryz.func197, Tryz.ntmps197
    go_wp2_with fail
    refine (unhide CK).mono ?_
    rintro e w1 ⟨rfl, hb1⟩
    have HB1 := hide hb1
    have HO1 := hide ((unhide HO).later hb1)
    have HR1 := hide ((unhide HR).later hb1)
    clear hb1
    go_wp2_with fail
    refine (putAll_any w1.heap.size (fresh h) az lens caps Z w1 _ (fresh_mach h w1) (Nat.le_refl _) (unhide HR1)).mono ?_
    rintro e w2 ⟨rfl, s', hm2, hh2, hr2⟩
    have hr3 : s'.rep = if stackOk Z then some Z else none := hr2.trans (putsL_nil Z)
    have hh3 : s'.h = h := hh2
    have cf := hm2.cell_f
    have HM2 := hide hm2
    clear hr2 hh2 hm2
    cases hso : stackOk Z with
    | false =>
      rw [hso] at hr3
      have hf := rep_lost hr3
      have e := runE_range (h := h) (unhide HK) (show (stackOk Z && hOk h) = false by rw [hso]; rfl)
      have EE := hide e
      rw [hf] at cf
      clear e hf hr3 hh3 hso
      go_wp2
      go_ret2
      rw [(unhide EE).1, (unhide EE).2]
      exact ⟨none, 0, rfl, RowAt.nil _ _, (unhide HB1).trans (((unhide HM2).below (Nat.le_refl _)).mono (unhide HB1).size)⟩
    | true =>
      rw [hso] at hr3
      have hf := rep_left hr3
      rw [hf.1] at cf
      have HF := hide hf.2
      clear hf
      cases hho : hOk h with
      | false =>
        have e := runE_range (unhide HK) (show (stackOk Z && hOk h) = false by rw [hso, hho]; rfl)
        have EE := hide e
        have HH := hide hho
        clear e hr3 hh3 hso hho
        go_wp2_with (go_at_call 196; refine (isHeight_is h false _ (unhide HH).symm).mono ?_; rintro e w' ⟨rfl, rfl⟩)
        go_ret2
        rw [(unhide EE).1, (unhide EE).2]
        exact ⟨none, 0, rfl, RowAt.nil _ _, (unhide HB1).trans (((unhide HM2).below (Nat.le_refl _)).mono (unhide HB1).size)⟩
      | true =>
        have HH := hide hho
        have HS := hide hso
        have HR3 := hide hr3
        have HH3 := hide hh3
        clear hr3 hh3 hso hho
        go_wp2_with (go_at_call 196; refine (isHeight_is h true _ (unhide HH).symm).mono ?_; rintro e w' ⟨rfl, rfl⟩)
        refine (mrun_any w1.heap.size s' a len cap l w1 _ (unhide HM2) (Nat.le_refl _) (unhide HO1) (unhide HK)).mono ?_
        rintro e w3 ⟨rfl, s3, hm3, hh4, hr4⟩
        rw [unhide HR3, unhide HH3] at hr4
        have hr5 : s3.rep = runL h l Z := hr4
        have cf3 := hm3.cell_f
        have HM3 := hide hm3
        clear hr4 hh4 hm3 cf
        cases hrl : runL h l Z with
        | none =>
          have hf3 := rep_lost (hr5.trans hrl)
          have e := runE_key (unhide HK) (show (stackOk Z && hOk h) = true by rw [unhide HS, unhide HH]; rfl) hrl
          have EE := hide e
          rw [hf3] at cf3
          clear e hr5 hf3 hrl
          go_wp2
          go_ret2
          rw [(unhide EE).1, (unhide EE).2]
          exact ⟨none, 0, rfl, RowAt.nil _ _, (unhide HB1).trans (((unhide HM3).below (Nat.le_refl _)).mono (unhide HB1).size)⟩
        | some L =>
          have hf3 := rep_left (hr5.trans hrl)
          have e := runE_fine (unhide HK) (show (stackOk Z && hOk h) = true by rw [unhide HS, unhide HH]; rfl) hrl
          have EE := hide e
          have hn3 : s3.n = L.length := by
            have h1 := (unhide HM3).good.1
            have h2 := (unhide HM3).good.2.1
            rw [← hf3.2, List.length_take]; omega
          rw [hf3.1] at cf3
          have LF := hide (left_any w1.heap.size s3 w1 w3 (unhide HM3))
          rw [hf3.2, hn3] at LF
          clear e hr5 hf3 hrl hn3
          go_wp2_with fail
          refine (unhide LF).mono ?_
          rintro e w4 ⟨a4, cap4, rfl, hrow, hb4⟩
          have HRW := hide hrow
          have HB4 := hide hb4
          clear hrow hb4
          go_wp2
          go_ret2
          rw [(unhide EE).1, (unhide EE).2]
          have b3 := (unhide HM3).below (Nat.le_refl _)
          exact ⟨a4, cap4, rfl, unhide HRW, (unhide HB1).trans ((b3.trans ((unhide HB4).mono b3.size)).mono (unhide HB1).size)⟩
  · have e := runE_bad (Z := Z) (h := h) hck
    rw [e.1, e.2]
    obtain ⟨x, hx⟩ : ∃ x, x = chk l := ⟨_, rfl⟩
    rw [← hx] at hck CK ⊢
    have hx1 : (x != 0) = true := by simp [hck]
    clear e hck hx
    go_enter Tryz.func197, Tryz.ntmps197
    go_wp2_with fail
    refine (unhide CK).mono ?_
    rintro e w1 ⟨rfl, hb1⟩
    have HB1 := hide hb1
    clear hb1
    go_wp2
    go_ret2
    exact ⟨none, 0, rfl, RowAt.nil _ _, unhide HB1⟩

end Go.Proofs.YtifhlohdidfbgaaGreatDoor

/- The contract of Opens. -/
namespace Go.Proofs.YtifhlohdidfbgaaGreatDoor
open Go.RowKit

theorem check_is (a : Option Addr) (len cap : Nat) (l : List (Int × Int)) (x : Int) (w : World) (hx : chk l = x) (h : OpsAt w a len l) :
    Calls Tryz.prog 139 #[.slice a len cap] w fun e w' => e = .returned (.int .i64 x) ∧ Below w.heap.size w w' := by
  subst hx; exact check_any a len cap l w h

theorem run_is (a az : Option Addr) (len cap lens caps : Nat) (l : List (Int × Int)) (Z : List Int) (h : Int) (x : Int) (L : List Int) (w : World) (hE : runE l Z h = x) (hS : runS l Z h = L) (hO : OpsAt w a len l) (hR : RowAt w az lens Z) :
    Calls Tryz.prog 197 #[.slice a len cap, .slice az lens caps, .int .i64 h] w fun e w' => ∃ a' cap', e = .returned (.tuple #[.slice a' L.length cap', .int .i64 x]) ∧ RowAt w' a' L.length L ∧ Below w.heap.size w w' := by
  subst hE hS; exact run_any a az len cap lens caps l Z h w hO hR

theorem bel_two {w w1 w2 : World} (h1 : Below w.heap.size w w1) (h2 : Below w1.heap.size w1 w2) : Below w.heap.size w w2 := h1.trans (h2.mono h1.size)

theorem runE_nil {h : Int} (hh : hOk h = true) : (stackOk [] && hOk h) = true := by rw [hh]; rfl

theorem index_two (a b : Option Addr) (n c m d : Nat) (w : World) :
    (Instr.index 247 (.agg #[.slice a n c, .slice b m d]) (.int .i64 0)).run Tryz.prog w = .ok (.slice a n c) w ∧
    (Instr.index 247 (.agg #[.slice a n c, .slice b m d]) (.int .i64 1)).run Tryz.prog w = .ok (.slice b m d) w := by
  constructor <;> kernel_rfl

set_option maxRecDepth 100000 in
set_option maxHeartbeats 1600000 in
theorem opens_any (a ak : Option Addr) (len cap lenk capk : Nat) (l k : List (Int × Int)) (h : Int) (w : World) (hO : OpsAt w a len l) (hK : OpsAt w ak lenk k) :
    Calls Tryz.prog 156 #[.slice a len cap, .slice ak lenk capk, .int .i64 h] w fun e w' => e = .returned (.tuple #[.bool (opensB l k h), .int .i64 (opensE l k h)]) ∧ Below w.heap.size w w' := by
  have HO := hide hO
  have HK := hide hK
  have hi0 := fun w => (index_two a ak len cap lenk capk w).1
  have hi1 := fun w => (index_two a ak len cap lenk capk w).2
  clear hO hK
  by_cases c1 : chk l = 0
  · by_cases c2 : chk k = 0
    · cases c3 : hOk h with
      | false =>
        have eE : opensE l k h = 3 := by simp [opensE, c1, c2, c3]
        have eB : opensB l k h = false := by simp [opensB, eE]
        rw [eE, eB]
        have C1 := hide c1
        have C2 := hide c2
        have C3 := hide c3
        clear c1 c2 c3 eE eB
        go_enter Tryz.func156, Tryz.ntmps156
        go_wp2
        refine wp_loop_rounds 3 ?_
        rw [rounds_succ]
        go_wp2_with fail
        refine (check_is a len cap l 0 _ (unhide C1) (unhide HO)).mono ?_
        rintro e w1 ⟨rfl, hb1⟩
        have HB1 := hide hb1
        clear hb1
        go_wp2
        rw [rounds_succ]
        go_wp2_with fail
        refine (check_is ak lenk capk k 0 _ (unhide C2) ((unhide HK).later (unhide HB1))).mono ?_
        rintro e w2 ⟨rfl, hb2⟩
        have HB2 := hide (bel_two (unhide HB1) hb2)
        clear hb2
        go_wp2
        rw [rounds_succ]
        go_wp2_with (go_at_call 196; refine (isHeight_is h false _ (unhide C3).symm).mono ?_; rintro e w' ⟨rfl, rfl⟩)
        go_ret2
        exact ⟨rfl, unhide HB2⟩
      | true =>
        have eE : opensE l k h = 0 := by simp [opensE, c1, c2, c3]
        have C1 := hide c1
        have C2 := hide c2
        have C3 := hide c3
        rw [eE]
        cases r1 : runL h k [] with
        | none =>
          have eB : opensB l k h = false := by simp [opensB, r1]
          rw [eB]
          have R1 := hide (runE_key c2 (runE_nil c3) r1)
          clear c1 c2 c3 eE eB r1
          go_enter Tryz.func156, Tryz.ntmps156
          go_wp2
          refine wp_loop_rounds 3 ?_
          rw [rounds_succ]
          go_wp2_with fail
          refine (check_is a len cap l 0 _ (unhide C1) (unhide HO)).mono ?_
          rintro e w1 ⟨rfl, hb1⟩
          have HB1 := hide hb1
          clear hb1
          go_wp2
          rw [rounds_succ]
          go_wp2_with fail
          refine (check_is ak lenk capk k 0 _ (unhide C2) ((unhide HK).later (unhide HB1))).mono ?_
          rintro e w2 ⟨rfl, hb2⟩
          have HB2 := hide (bel_two (unhide HB1) hb2)
          clear hb2
          go_wp2
          rw [rounds_succ]
          go_wp2_with (go_at_call 196; refine (isHeight_is h true _ (unhide C3).symm).mono ?_; rintro e w' ⟨rfl, rfl⟩)
          refine (run_is ak none lenk capk 0 0 k [] h 8 [] _ (unhide R1).1 (unhide R1).2 ((unhide HK).later (unhide HB2)) (RowAt.nil _ _)).mono ?_
          rintro e w3 ⟨a3, cap3, rfl, _, hb3⟩
          have HB3 := hide (bel_two (unhide HB2) hb3)
          clear hb3
          go_wp2
          go_ret2
          exact ⟨rfl, unhide HB3⟩
        | some L =>
          have sL : stackOk L = true := runL_ok (by rfl) r1
          have gL : (stackOk L && hOk h) = true := by rw [sL, c3]; rfl
          have R1 := hide (runE_fine c2 (runE_nil c3) r1)
          cases r2 : runL h l L with
          | none =>
            have eB : opensB l k h = false := by simp [opensB, r1, r2]
            rw [eB]
            have R2 := hide (runE_key c1 gL r2)
            clear c1 c2 c3 eE eB r1 r2 sL gL
            go_enter Tryz.func156, Tryz.ntmps156
            go_wp2
            refine wp_loop_rounds 3 ?_
            rw [rounds_succ]
            go_wp2_with fail
            refine (check_is a len cap l 0 _ (unhide C1) (unhide HO)).mono ?_
            rintro e w1 ⟨rfl, hb1⟩
            have HB1 := hide hb1
            clear hb1
            go_wp2
            rw [rounds_succ]
            go_wp2_with fail
            refine (check_is ak lenk capk k 0 _ (unhide C2) ((unhide HK).later (unhide HB1))).mono ?_
            rintro e w2 ⟨rfl, hb2⟩
            have HB2 := hide (bel_two (unhide HB1) hb2)
            clear hb2
            go_wp2
            rw [rounds_succ]
            go_wp2_with (go_at_call 196; refine (isHeight_is h true _ (unhide C3).symm).mono ?_; rintro e w' ⟨rfl, rfl⟩)
            refine (run_is ak none lenk capk 0 0 k [] h 0 L _ (unhide R1).1 (unhide R1).2 ((unhide HK).later (unhide HB2)) (RowAt.nil _ _)).mono ?_
            rintro e w3 ⟨a3, cap3, rfl, hrow3, hb3⟩
            have HB3 := hide (bel_two (unhide HB2) hb3)
            have HW3 := hide hrow3
            clear hb3 hrow3
            go_wp2_with fail
            refine (run_is a a3 len cap L.length cap3 l L h 8 [] _ (unhide R2).1 (unhide R2).2 ((unhide HO).later (unhide HB3)) (unhide HW3)).mono ?_
            rintro e w4 ⟨a4, cap4, rfl, _, hb4⟩
            have HB4 := hide (bel_two (unhide HB3) hb4)
            clear hb4
            go_wp2
            go_ret2
            exact ⟨rfl, unhide HB4⟩
          | some M =>
            have eB : opensB l k h = one1 M := by simp [opensB, r1, r2, eE]
            rw [eB]
            have R2 := hide (runE_fine c1 gL r2)
            clear c1 c2 c3 eE eB r1 r2 sL gL
            go_enter Tryz.func156, Tryz.ntmps156
            go_wp2
            refine wp_loop_rounds 3 ?_
            rw [rounds_succ]
            go_wp2_with fail
            refine (check_is a len cap l 0 _ (unhide C1) (unhide HO)).mono ?_
            rintro e w1 ⟨rfl, hb1⟩
            have HB1 := hide hb1
            clear hb1
            go_wp2
            rw [rounds_succ]
            go_wp2_with fail
            refine (check_is ak lenk capk k 0 _ (unhide C2) ((unhide HK).later (unhide HB1))).mono ?_
            rintro e w2 ⟨rfl, hb2⟩
            have HB2 := hide (bel_two (unhide HB1) hb2)
            clear hb2
            go_wp2
            rw [rounds_succ]
            go_wp2_with (go_at_call 196; refine (isHeight_is h true _ (unhide C3).symm).mono ?_; rintro e w' ⟨rfl, rfl⟩)
            refine (run_is ak none lenk capk 0 0 k [] h 0 L _ (unhide R1).1 (unhide R1).2 ((unhide HK).later (unhide HB2)) (RowAt.nil _ _)).mono ?_
            rintro e w3 ⟨a3, cap3, rfl, hrow3, hb3⟩
            have HB3 := hide (bel_two (unhide HB2) hb3)
            have HW3 := hide hrow3
            clear hb3 hrow3
            go_wp2_with fail
            refine (run_is a a3 len cap L.length cap3 l L h 0 M _ (unhide R2).1 (unhide R2).2 ((unhide HO).later (unhide HB3)) (unhide HW3)).mono ?_
            rintro e w4 ⟨a4, cap4, rfl, hrow4, hb4⟩
            have HB4 := hide (bel_two (unhide HB3) hb4)
            have HE : Hid (∀ b : Bool, b = one1 M → Ending.returned (.tuple #[.bool b, .int .i64 0]) = .returned (.tuple #[.bool (one1 M), .int .i64 0])) := fun b hb => by rw [hb]
            clear hb4
            by_cases m1 : M.length = 1
            · obtain ⟨y, rfl⟩ := List.length_eq_one_iff.1 m1
              obtain ⟨b4, o4, rfl, hc4⟩ := hrow4.2.2 (by simp)
              have c4 : w4.cell? ⟨b4, o4, none⟩ = some (.int .i64 y) := hc4 0 (by simp)
              have HY : Hid ((y != 0) = one1 [y]) := by simp [one1, topL, Hid]
              clear hc4 hrow4 m1
              go_wp2
              go_ret2
              exact ⟨(unhide HE) _ (unhide HY), unhide HB4⟩
            · have m2 : ((M.length : Int) == 1) = false := by simp; omega
              have HY : Hid (false = one1 M) := by simp [one1, m1, Hid]
              clear hrow4 m1
              go_wp2
              go_ret2
              exact ⟨(unhide HE) _ (unhide HY), unhide HB4⟩
    · have eE : opensE l k h = chk k := by simp [opensE, c1, c2]
      have eB : opensB l k h = false := by simp [opensB, eE, c2]
      rw [eE, eB]
      obtain ⟨x, hx⟩ : ∃ x, chk k = x := ⟨_, rfl⟩
      rw [hx] at c2 ⊢
      have g2 : (x != 0) = true := by simp [c2]
      have C1 := hide c1
      have C2 := hide hx
      clear c1 c2 hx eE eB
      go_enter Tryz.func156, Tryz.ntmps156
      go_wp2
      refine wp_loop_rounds 3 ?_
      rw [rounds_succ]
      go_wp2_with fail
      refine (check_is a len cap l 0 _ (unhide C1) (unhide HO)).mono ?_
      rintro e w1 ⟨rfl, hb1⟩
      have HB1 := hide hb1
      clear hb1
      go_wp2
      rw [rounds_succ]
      go_wp2_with fail
      refine (check_is ak lenk capk k x _ (unhide C2) ((unhide HK).later (unhide HB1))).mono ?_
      rintro e w2 ⟨rfl, hb2⟩
      have HB2 := hide (bel_two (unhide HB1) hb2)
      clear hb2
      go_wp2
      go_ret2
      exact ⟨rfl, unhide HB2⟩
  · have eE : opensE l k h = chk l := by simp [opensE, c1]
    have eB : opensB l k h = false := by simp [opensB, eE, c1]
    rw [eE, eB]
    obtain ⟨x, hx⟩ : ∃ x, chk l = x := ⟨_, rfl⟩
    rw [hx] at c1 ⊢
    have g2 : (x != 0) = true := by simp [c1]
    have C1 := hide hx
    clear c1 hx eE eB
    go_enter Tryz.func156, Tryz.ntmps156
    go_wp2
    refine wp_loop_rounds 3 ?_
    rw [rounds_succ]
    go_wp2_with fail
    refine (check_is a len cap l x _ (unhide C1) (unhide HO)).mono ?_
    rintro e w1 ⟨rfl, hb1⟩
    have HB1 := hide hb1
    clear hb1
    go_wp2
    go_ret2
    exact ⟨rfl, unhide HB1⟩

end Go.Proofs.YtifhlohdidfbgaaGreatDoor

/- The contract of spend: in by in a coin is taken, if it is ripe and its lock opens. -/
namespace Go.Proofs.YtifhlohdidfbgaaGreatDoor
open Go.RowKit

def zeroCV : CV := ((0, 0, 0, [], 0, false), none, 0, 0)
theorem flatC_mid_at (T R : List CV) (z : CV) (j : Nat) (hj : j < 6) : (flatC (T ++ z :: R))[T.length * 6 + j]? = (sixV z)[j]? := by
  rw [flatC_append, List.getElem?_append_right (by rw [flatC_len]; omega), flatC_len, Nat.add_sub_cancel_left, show z :: R = [z] ++ R from rfl, flatC_append, List.getElem?_append_left (by rw [flatC_len]; simpa using hj), flat_six]
theorem flatC_mid_set (T R : List CV) (z y : CV) : ((((((flatC (T ++ z :: R)).set (T.length * 6) (.int .i64 y.1.1)).set (T.length * 6 + 1) (.int .i64 y.1.2.1)).set (T.length * 6 + 2) (.int .i64 (cv y.1))).set (T.length * 6 + 3) (.slice y.2.1 y.2.2.1 y.2.2.2)).set (T.length * 6 + 4) (.int .i64 (ch y.1))).set (T.length * 6 + 5) (.bool (cr y.1)) = flatC (T ++ y :: R) := by
  rw [flatC_append, flatC_append]
  have e := flatC_len T
  rw [← e]
  simp only [flatC, List.set_append_right _ _ (Nat.le_refl _), List.set_append_right _ _ (Nat.le_add_right _ _), Nat.sub_self, Nat.add_sub_cancel_left, List.set_cons_zero, List.set_cons_succ]
theorem made_zero (n : Nat) : (madeCells zeroC.cells (n * 6)).toList = flatC (List.replicate n zeroCV) := by
  apply List.ext_getElem?
  intro j
  by_cases hj : j < n * 6
  · obtain ⟨f0, f1, f2, f3, f4, f5⟩ := flatC_at (List.replicate n zeroCV) (j / 6) (by rw [List.length_replicate]; omega)
    rw [List.getElem_replicate] at f0 f1 f2 f3 f4 f5
    have hz : zeroC.cells = zeroCs.toArray := rfl
    have hL : (madeCells zeroC.cells (n * 6)).toList[j]? = zeroCs[j % 6]? := by
      have hs : zeroCs.length = 6 := rfl
      have h6 : j % 6 < 6 := by omega
      simp [madeCells, hj, hz, hs, h6]
    rw [hL]
    obtain ⟨i, r, rfl, hr⟩ : ∃ i r, j = i * 6 + r ∧ r < 6 := ⟨j / 6, j % 6, by omega, by omega⟩
    rw [show (i * 6 + r) / 6 = i by omega] at f0 f1 f2 f3 f4 f5
    rw [show (i * 6 + r) % 6 = r by omega]
    match r, hr with
    | 0, _ => exact f0.symm
    | 1, _ => exact f1.symm
    | 2, _ => exact f2.symm
    | 3, _ => exact f3.symm
    | 4, _ => exact f4.symm
    | 5, _ => exact f5.symm
  · rw [List.getElem?_eq_none (by simp [madeCells]; omega), List.getElem?_eq_none (by rw [flatC_len, List.length_replicate]; omega)]

theorem stored6 {w : World} {base g n c : Nat} {xs : List Value} (h : w.ownsRow base 89 6 (.slice (some ⟨g, 0, none⟩) n c) n xs) (b : Nat) (a0 a1 a2 a3 a4 a5 : Value) :
    ((((((w.setCell ⟨g, b, none⟩ a0).setCell ⟨g, b + 1, none⟩ a1).setCell ⟨g, b + 2, none⟩ a2).setCell ⟨g, b + 3, none⟩ a3).setCell ⟨g, b + 4, none⟩ a4).setCell ⟨g, b + 5, none⟩ a5).ownsRow base 89 6 (.slice (some ⟨g, 0, none⟩) n c) n ((((((xs.set b a0).set (b + 1) a1).set (b + 2) a2).set (b + 3) a3).set (b + 4) a4).set (b + 5) a5) :=
  ((((((h.stored b a0).1.stored (b + 1) a1).1.stored (b + 2) a2).1.stored (b + 3) a3).1.stored (b + 4) a4).1.stored (b + 5) a5).1
theorem Gr.sixAt {w w1 : World} {S : Nat → Prop} (h : Gr w w1 S) (b i : Nat) (hb : S b ∨ w.heap.size ≤ b) (a0 a1 a2 a3 a4 a5 : Value) : Gr w ((((((w1.setCell ⟨b, i, none⟩ a0).setCell ⟨b, i + 1, none⟩ a1).setCell ⟨b, i + 2, none⟩ a2).setCell ⟨b, i + 3, none⟩ a3).setCell ⟨b, i + 4, none⟩ a4).setCell ⟨b, i + 5, none⟩ a5) S :=
  (((((h.one b i hb a0).one b (i + 1) hb a1).one b (i + 2) hb a2).one b (i + 3) hb a3).one b (i + 4) hb a4).one b (i + 5) hb a5

theorem spendGo_none (h : Int) (I : List InD) (k : Nat) (hk : k < I.length) (S L : List CoinD) (ht : takeD (I[k].1, I[k].2.1) L = none) : spendGo h (I.drop k) S L = (7, [], []) := by
  rw [List.drop_eq_getElem_cons hk, spendGo, ht]
theorem spendGo_late (h : Int) (I : List InD) (k : Nat) (hk : k < I.length) (S L M : List CoinD) (c : CoinD) (ht : takeD (I[k].1, I[k].2.1) L = some (c, M)) (hl : cr c = true ∧ h < ch c + 2) : spendGo h (I.drop k) S L = (10, [], []) := by
  rw [List.drop_eq_getElem_cons hk, spendGo, ht]; simp only; rw [if_pos hl]
theorem spendGo_key (h : Int) (I : List InD) (k : Nat) (hk : k < I.length) (S L M : List CoinD) (c : CoinD) (ht : takeD (I[k].1, I[k].2.1) L = some (c, M)) (hl : ¬ (cr c = true ∧ h < ch c + 2)) (ho : opensB (ck c) I[k].2.2 h = false) : spendGo h (I.drop k) S L = (8, [], []) := by
  rw [List.drop_eq_getElem_cons hk, spendGo, ht]; simp only; rw [if_neg hl, if_pos ho]
theorem spendGo_on (h : Int) (I : List InD) (k : Nat) (hk : k < I.length) (S L M : List CoinD) (c : CoinD) (ht : takeD (I[k].1, I[k].2.1) L = some (c, M)) (hl : ¬ (cr c = true ∧ h < ch c + 2)) (ho : opensB (ck c) I[k].2.2 h = true) : spendGo h (I.drop k) S L = spendGo h (I.drop (k + 1)) (S ++ [c]) M := by
  rw [List.drop_eq_getElem_cons hk, spendGo, ht]; simp only; rw [if_neg hl, if_neg (by rw [ho]; decide)]
theorem spendGo_end (h : Int) (I : List InD) (k : Nat) (hk : I.length ≤ k) (S L : List CoinD) : spendGo h (I.drop k) S L = (0, S, L) := by
  rw [List.drop_of_length_le hk, spendGo]
theorem takeD_srt {q : PtD} {L M : List CoinD} {c : CoinD} (h : takeD q L = some (c, M)) (hs : Srt L) : Srt M := by
  rw [(takeD_some h).2.2]; exact hs.filter _
theorem opensB_E {l k : List (Int × Int)} {h : Int} (q : opensB l k h = true) : opensE l k h = 0 := by
  unfold opensB at q
  rw [Bool.and_eq_true, decide_eq_true_eq] at q
  exact q.1
theorem opens_at (a ak : Option Addr) (len cap lenk capk : Nat) (l k : List (Int × Int)) (h : Int) (b : Bool) (x : Int) (w : World) (hO : OpsAt w a len l) (hK : OpsAt w ak lenk k) (hb : opensB l k h = b) (hx : opensE l k h = x) :
    Calls Tryz.prog 156 #[.slice a len cap, .slice ak lenk capk, .int .i64 h] w fun e w' => e = .returned (.tuple #[.bool b, .int .i64 x]) ∧ Below w.heap.size w w' := by
  subst hb hx; exact opens_any a ak len cap lenk capk l k h w hO hK

end Go.Proofs.YtifhlohdidfbgaaGreatDoor

/- The contract of spend. -/
namespace Go.Proofs.YtifhlohdidfbgaaGreatDoor
open Go.RowKit

theorem three_heap (w : World) (a b c : Value) (t : TypeId) : (w.alloc (.cells #[a, b, c] t)).heap[w.heap.size]? = some (.cells [a, b, c].toArray t (0, 0)) := heap_alloc_new w _

/-- What spend leaves: what was spent, in a row of its own, and what is left. -/
def Spent (w0 w' : World) (p ni : Nat) (K : List CV) (S M : List CoinD) (a' : Option Addr) (n' c' : Nat) : Prop :=
  ∃ (v' : Value) (K' T : List CV), T.map (·.1) = S ∧ K'.map (·.1) = M ∧ Srt M ∧ K'.length ≤ K.length ∧ n' = T.length ∧ T.length = ni ∧ w'.ownsRow w0.heap.size 89 6 (.slice a' n' c') n' (flatC T) ∧ (∀ z ∈ T, LkAt w0 z) ∧ (∀ z ∈ K', z ∈ K) ∧ (∀ z ∈ T, z ∈ K) ∧ Pu w0 w' p v' K' ∧ (∃ s, (Value.slice a' n' c').ownBlock = some s ∧ v'.ownBlock ≠ some s ∧ s ≠ p)

set_option maxRecDepth 10000 in
set_option maxHeartbeats 12800000 in
theorem spend_is (w0 w : World) (p : Nat) (v : Value) (K : List CV) (ai : Option Addr) (ni ci : Nat) (I : List InD) (h : Int) (x : Int) (S M : List CoinD) (hP : Pu w0 w p v K) (hs : Srt (K.map (·.1))) (hn : K.length ≤ 4096) (hr : ∀ z ∈ K, ck1 z.1 = 0) (hI : InsAt w0 ai ni I) (hni : ni ≤ 6) (hx : spendGo h I [] (K.map (·.1)) = (x, S, M)) :
    Calls Tryz.prog 113 #[.pointer (some ⟨p, 0, none⟩), .slice ai ni ci, .int .i64 h] w fun e w' => ∃ a' n' c', e = .returned (.tuple #[.slice a' n' c', .int .i64 x]) ∧ Below w0.heap.size w0 w' ∧
      (x = 0 → Spent w0 w' p ni K S M a' n' c') := by
  obtain ⟨i0, hi0, hz0, hz1, hz2⟩ := info_parts Tryz.infoCoin
  have hB : w0.heap.size ≤ w.heap.size := hP.bel.size
  have hpw : p < w.heap.size := hP.lt
  have HP := hide hP
  have HS := hide hs
  have HR := hide hr
  have HI := hide hI
  have HZ := hide hI.1
  have HX := hide hx
  clear hP hs hr hI hx
  go_enter Tryz.func113, Tryz.ntmps113
  go_wp2_with (at_make; refine wpList_make_full _ rfl _ _ 38 rfl w0.heap.size 89 i0 zeroC 6 Tryz.underlying38 hi0 hz0 hz1 .i64 .i64 _ _ ni rfl rfl rfl rfl (by rw [hz2]; omega) (by unfold maxLen; omega) hB ?_; intro w2 hown2 hgrow2)
  rw [made_zero] at hown2
  have hbw2 : Below w.heap.size w w2 := (Below.refl _ _).grown hgrow2 (Nat.le_refl _) (fun k h => by cases h)
  have hs2 : w.heap.size < w2.heap.size := (hown2.lt w.heap.size rfl).2
  have ST : Hid (Pu w0 w2 p v K ∧ w2.ownsRow w0.heap.size 89 6 (.slice (some ⟨w.heap.size, 0, none⟩) ni ni) ni (flatC ([] ++ List.replicate (ni - 0) zeroCV)) ∧ v.ownBlock ≠ some w.heap.size) :=
    ⟨(unhide HP).kept hbw2, hown2, fun e => by have := ((unhide HP).own.lt _ e).2; omega⟩
  clear hown2 hgrow2 hbw2
  go_loopw [20] (fun i wr => ∃ (k : Nat) (T K' : List CV) (v' : Value), k ≤ ni ∧ i = .int .i64 k ∧ Hid (spendGo h I [] (K.map (·.1)) = spendGo h (I.drop k) (T.map (·.1)) (K'.map (·.1))) ∧ Hid (Srt (K'.map (·.1))) ∧ K'.length ≤ K.length ∧ Hid (T.length = k) ∧ Hid ((∀ z ∈ K', z ∈ K) ∧ (∀ z ∈ T, z ∈ K)) ∧
    Hid (Pu w0 wr p v' K') ∧ Hid (wr.ownsRow w0.heap.size 89 6 (.slice (some ⟨w.heap.size, 0, none⟩) ni ni) ni (flatC (T ++ List.replicate (ni - k) zeroCV))) ∧ Hid (∀ z ∈ T, LkAt w0 z) ∧ Hid (v'.ownBlock ≠ some w.heap.size) ∧ w.heap.size < wr.heap.size) (fun i _ => ni - (intOf i).toNat)
  case atStart => exact ⟨0, [], K, v, Nat.zero_le _, rfl, rfl, HS, Nat.le_refl _, rfl, ⟨fun z hz => hz, fun z hz => (by cases hz)⟩, (unhide ST).1, (unhide ST).2.1, (fun z hz => (by cases hz) : ∀ z ∈ ([] : List CV), LkAt w0 z), (unhide ST).2.2, hs2⟩
  case round =>
    obtain ⟨k, T, K', v', hk, rfl, A, HS', hKl, HT, HSub, HP', HO', HL, HNE, hsr⟩ := hrel
    clear ST HS
    by_cases hlt : k < ni
    · have hlk : k < I.length := by rw [unhide HZ]; exact hlt
      obtain ⟨b, off, rfl, hbl, hcell⟩ := (unhide HI).2 (by omega)
      have hin0 := hcell k hlk
      have E1 := hide (spendGo_none h I k hlk (T.map (·.1)) (K'.map (·.1)))
      have E2 := hide (spendGo_late h I k hlk (T.map (·.1)) (K'.map (·.1)))
      have E3 := hide (spendGo_key h I k hlk (T.map (·.1)) (K'.map (·.1)))
      have E4 := hide (spendGo_on h I k hlk (T.map (·.1)) (K'.map (·.1)))
      obtain ⟨y, hy⟩ : ∃ y, I[k] = y := ⟨_, rfl⟩
      rw [hy] at hin0 E1 E2 E3 E4
      obtain ⟨y1, y2, key⟩ := y
      obtain ⟨g1', g2', ka, kn, kc, g3', g4, _⟩ := hin0
      have g1 := cell_later (unhide HP').bel g1'
      have g2 := cell_later (unhide HP').bel g2'
      have g3 := cell_later (unhide HP').bel g3'
      have HKEY : Hid (OpsAt w0 ka kn key) := g4
      clear g1' g2' g3' g4
      simp only at g1 g2 g3 E1 E2 E3 E4
      obtain ⟨X, hX⟩ : ∃ X, X = wr.alloc (.cells #[.int .i64 y1, .int .i64 y2, .slice ka kn kc] 152) := ⟨_, rfl⟩
      have hbX : Below wr.heap.size wr X := by rw [hX]; exact bel_new _ _
      have hX1 : X.heap[wr.heap.size]? = some (.cells [.int .i64 y1, .int .i64 y2, .slice ka kn kc].toArray 152 (0, 0)) := by rw [hX]; exact three_heap _ _ _ _ _
      have hPX := (unhide HP').kept hbX
      have hOX := (Gr.of (S := fun _ => False) hbX).own (unhide HO') (fun _ _ q => q)
      have x0 := cell_of hX1 0 _ rfl
      have x1 := cell_of hX1 1 _ rfl
      have hxl : wr.heap.size < X.heap.size := lt_of_block hX1
      have HX1 := hide hX1
      have HPX := hide hPX
      have HOX := hide hOX
      have hpr : p < wr.heap.size := (unhide HP').lt
      cases hf : hasP (y1, y2) (K'.map (·.1)) with
      | false =>
        have C := hide (ptake_none w0 X p v' K' (y1, y2) hPX (unhide HS') (by omega) hf)
        have R : Hid (x = 7) := by
          have e := unhide A
          rw [(unhide E1) (takeD_none hf), unhide HX] at e
          injection e
        clear E1 E2 E3 E4 hbX hX1 hPX hOX hf hy A
        go_wp2_with fail
        rw [← hX]
        clear hX
        go_wp2_with fail
        refine (unhide C).mono ?_
        rintro e w3 ⟨rfl, hb3⟩
        have HB3 := hide (((unhide HPX).kept hb3).bel)
        unfold zeroC
        clear hb3
        go_wp2
        go_ret2
        exact ⟨_, _, _, by rw [unhide R]; rfl, bel_on (unhide HB3) (bel_new _ _), fun e => absurd e (by rw [unhide R]; decide)⟩
      | true =>
        have C := hide (ptake_some w0 X p v' K' (y1, y2) hPX (unhide HS') (by omega) hf)
        clear hbX hX1 hPX hOX hf hy
        go_wp2_with fail
        rw [← hX]
        clear hX
        go_wp2_with fail
        refine (unhide C).mono ?_
        rintro e w3 ⟨z, v3, K3, rfl, ht, hzm, hsub, hlen, hP3, hG3, hv3⟩
        have hzK : z ∈ K := (unhide HSub).1 z hzm
        have hzr := ck1_zero ((unhide HR) z hzK)
        have hzl := (unhide HP').lk z hzm
        have hch1 : 1 ≤ ch z.1 := hzr.2.2.2.2.2.2.1
        have hch2 : ch z.1 ≤ 1000 := hzr.2.2.2.2.2.2.2.1
        have hsrt3 := takeD_srt ht (unhide HS')
        have hnS : ¬ PuS p v' wr.heap.size := by
          rintro (e | e)
          · omega
          · have := ((unhide HP').own.lt _ e).2; omega
        have hh3 := hG3.heap (unhide HX1) hnS
        have hnS2 : ¬ PuS p v' w.heap.size := by
          rintro (e | e)
          · omega
          · exact (unhide HNE) e
        have hO3 := hG3.own (unhide HOX) (fun q hq => by cases hq; exact hnS2)
        have E2' := hide ((unhide E2) _ _ ht)
        have E3' := hide ((unhide E3) _ _ ht)
        have E4' := hide ((unhide E4) _ _ ht)
        obtain ⟨Y, hY⟩ : ∃ Y, Y = w3.alloc (.cells #[.int .i64 z.1.1, .int .i64 z.1.2.1, .int .i64 (cv z.1), .slice z.2.1 z.2.2.1 z.2.2.2, .int .i64 (ch z.1), .bool (cr z.1)] 89) := ⟨_, rfl⟩
        have hbY : Below w3.heap.size w3 Y := by rw [hY]; exact bel_new _ _
        have hY1 : Y.heap[w3.heap.size]? = some (.cells (sixV z).toArray 89 (0, 0)) := by rw [hY]; exact six_heap _ _ _ _ _ _ _ _
        have hPY := hP3.kept hbY
        have hOY := (Gr.of (S := fun _ => False) hbY).own hO3 (fun _ _ q => q)
        have hhY := (hbY.block _ (lt_of_block hh3)).trans hh3
        have hw3r : wr.heap.size < w3.heap.size := lt_of_block hh3
        have hyl : w3.heap.size < Y.heap.size := lt_of_block hY1
        have q2 := cell_of hhY 2 _ rfl
        have q3 := cell_of hh3 2 _ rfl
        have r3 := cell_of hY1 3 _ rfl
        have r4 := cell_of hY1 4 _ rfl
        have r5 := cell_of hY1 5 _ rfl
        have OP := hide (fun bb xx hb hx => opens_at z.2.1 ka z.2.2.1 z.2.2.2 kn kc (ck z.1) key h bb xx Y (hzl.1.later hPY.bel) ((unhide HKEY).later hPY.bel) hb hx)
        by_cases hla : cr z.1 = true ∧ h < ch z.1 + 2
        · have R : Hid (x = 10) := by
            have e := unhide A
            rw [(unhide E2') hla, unhide HX] at e
            injection e
          have hc1 : cr z.1 = true := hla.1
          have hc2 : h < ch z.1 + 2 := hla.2
          have HBY := hide hPY.bel
          rw [hc1] at hY r5
          unfold cnV
          rw [hc1]
          clear E1 E2 E3 E4 E2' E3' E4' A hla C hbY hY1 hPY hOY hhY hP3 hG3 hO3 hh3 ht hsub hsrt3 hzl hzr hnS hnS2 q2 r3 g1 g2 g3 x0 x1
          go_wp2_with fail
          rw [← hY]
          clear hY
          go_wp2
          go_ret2
          exact ⟨_, _, _, by rw [unhide R]; rfl, unhide HBY, fun e => absurd e (by rw [unhide R]; decide)⟩
        · have hD : Hid ((cr z.1 && decide (h < ch z.1 + 2)) = false) := by
            show _ = _
            rw [Bool.and_eq_false_iff, decide_eq_false_iff_not]
            cases q : cr z.1 with
            | true => exact .inr fun e => hla ⟨q, e⟩
            | false => exact .inl rfl
          obtain ⟨bb, hbb⟩ : ∃ bb, opensB (ck z.1) key h = bb := ⟨_, rfl⟩
          obtain ⟨xx, hxx⟩ : ∃ xx, opensE (ck z.1) key h = xx := ⟨_, rfl⟩
          have OP2 := hide ((unhide OP) bb xx hbb hxx)
          have HPY := hide hPY
          have HOY := hide hOY
          have HY1 := hide hY1
          have hv3s : v3.ownBlock ≠ some w.heap.size := by rw [hv3]; exact unhide HNE
          have HV3 := hide hv3s
          have HS3 := hide hsrt3
          have HSUB := hide hsub
          have HZL := hide hzl
          have HZK := hide hzK
          have HHY := hide hhY
          obtain ⟨hd, hdd⟩ : ∃ hd, ch z.1 = hd := ⟨_, rfl⟩
          obtain ⟨rr, hrr⟩ : ∃ rr, cr z.1 = rr := ⟨_, rfl⟩
          cases bb with
          | false =>
            have R : Hid (x = 8) := by
              have e := unhide A
              rw [(unhide E3') hla hbb, unhide HX] at e
              injection e
            unfold cnV
            rw [hdd] at hD hY r4 hch1 hch2 ⊢
            rw [hrr] at hD hY r5 ⊢
            clear E1 E2 E3 E4 E2' E3' E4' A hla C hbY hY1 hPY hOY hhY hP3 hG3 hO3 hh3 ht hsub hsrt3 hzl hzr hnS hnS2 g1 g2 g3 x0 x1 OP hbb hxx hv3s hdd hrr
            cases rr with
            | false =>
              clear hD
              go_wp2_with fail
              rw [← hY]
              clear hY
              refine (unhide OP2).mono ?_
              rintro e w5 ⟨rfl, hb5⟩
              have HB5 := hide ((unhide HPY).kept hb5).bel
              clear hb5
              go_wp2
              go_ret2
              exact ⟨_, _, _, by rw [unhide R]; rfl, unhide HB5, fun e => absurd e (by rw [unhide R]; decide)⟩
            | true =>
              have hD2 : ¬ (h < hd + 2) := by have := unhide hD; simpa using this
              clear hD
              go_wp2_with fail
              rw [← hY]
              clear hY
              refine (unhide OP2).mono ?_
              rintro e w5 ⟨rfl, hb5⟩
              have HB5 := hide ((unhide HPY).kept hb5).bel
              clear hb5
              go_wp2
              go_ret2
              exact ⟨_, _, _, by rw [unhide R]; rfl, unhide HB5, fun e => absurd e (by rw [unhide R]; decide)⟩
          | true =>
            have hxx0 : xx = 0 := by rw [← hxx]; exact opensB_E hbb
            subst hxx0
            have A2 : Hid (spendGo h I [] (K.map (·.1)) = spendGo h (I.drop (k + 1)) ((T ++ [z]).map (·.1)) (K3.map (·.1))) := by
              show _ = _
              rw [unhide A, (unhide E4') hla hbb, List.map_append]; rfl
            have HR' : Hid (T ++ List.replicate (ni - k) zeroCV = T ++ zeroCV :: List.replicate (ni - (k + 1)) zeroCV) := by
              show _ = _
              rw [show ni - k = (ni - (k + 1)) + 1 by omega, List.replicate_succ]
            have HLEN : Hid (K3.length ≤ K.length) := by show _ ≤ _; omega
            have hkI : (k : Int) < (ni : Int) := by omega
            unfold cnV
            rw [hdd] at hD hY r4 hch1 hch2 ⊢
            rw [hrr] at hD hY r5 ⊢
            have HDD := hide hdd
            have HRR := hide hrr
            clear E1 E2 E3 E4 E2' E3' E4' A hla C hbY hY1 hPY hOY hhY hP3 hG3 hO3 hh3 ht hsub hsrt3 hzl hzr hnS hnS2 g1 g2 g3 x0 x1 OP hbb hxx hv3s hdd hrr
            have TAIL : Hid (∀ w5, Below Y.heap.size Y w5 → (w5.cell? ⟨w3.heap.size, 0, none⟩ = some (.int .i64 z.1.1) ∧ w5.cell? ⟨w3.heap.size, 1, none⟩ = some (.int .i64 z.1.2.1) ∧ w5.cell? ⟨w3.heap.size, 2, none⟩ = some (.int .i64 (cv z.1)) ∧ w5.cell? ⟨w3.heap.size, 3, none⟩ = some (.slice z.2.1 z.2.2.1 z.2.2.2) ∧ w5.cell? ⟨w3.heap.size, 4, none⟩ = some (.int .i64 hd) ∧ w5.cell? ⟨w3.heap.size, 5, none⟩ = some (.bool rr)) ∧
                (∃ u0 u1 u2 u3 u4 u5, w5.cell? ⟨w.heap.size, k * 6, none⟩ = some u0 ∧ w5.cell? ⟨w.heap.size, k * 6 + 1, none⟩ = some u1 ∧ w5.cell? ⟨w.heap.size, k * 6 + 2, none⟩ = some u2 ∧ w5.cell? ⟨w.heap.size, k * 6 + 3, none⟩ = some u3 ∧ w5.cell? ⟨w.heap.size, k * 6 + 4, none⟩ = some u4 ∧ w5.cell? ⟨w.heap.size, k * 6 + 5, none⟩ = some u5) ∧ (∀ j, w5.frozen? ⟨w.heap.size, j, none⟩ = false) ∧ w.heap.size < w5.heap.size ∧
                Hid (∃ (T' K' : List CV) (v' : Value), Hid (spendGo h I [] (K.map (·.1)) = spendGo h (I.drop (k + 1)) (T'.map (·.1)) (K'.map (·.1))) ∧ Hid (Srt (K'.map (·.1))) ∧ K'.length ≤ K.length ∧ Hid (T'.length = k + 1) ∧ Hid ((∀ z ∈ K', z ∈ K) ∧ (∀ z ∈ T', z ∈ K)) ∧
                  Hid (Pu w0 ((((((w5.setCell ⟨w.heap.size, k * 6, none⟩ (.int .i64 z.1.1)).setCell ⟨w.heap.size, k * 6 + 1, none⟩ (.int .i64 z.1.2.1)).setCell ⟨w.heap.size, k * 6 + 2, none⟩ (.int .i64 (cv z.1))).setCell ⟨w.heap.size, k * 6 + 3, none⟩ (.slice z.2.1 z.2.2.1 z.2.2.2)).setCell ⟨w.heap.size, k * 6 + 4, none⟩ (.int .i64 hd)).setCell ⟨w.heap.size, k * 6 + 5, none⟩ (.bool rr)) p v' K') ∧
                  Hid (((((((w5.setCell ⟨w.heap.size, k * 6, none⟩ (.int .i64 z.1.1)).setCell ⟨w.heap.size, k * 6 + 1, none⟩ (.int .i64 z.1.2.1)).setCell ⟨w.heap.size, k * 6 + 2, none⟩ (.int .i64 (cv z.1))).setCell ⟨w.heap.size, k * 6 + 3, none⟩ (.slice z.2.1 z.2.2.1 z.2.2.2)).setCell ⟨w.heap.size, k * 6 + 4, none⟩ (.int .i64 hd)).setCell ⟨w.heap.size, k * 6 + 5, none⟩ (.bool rr)).ownsRow w0.heap.size 89 6 (.slice (some ⟨w.heap.size, 0, none⟩) ni ni) ni (flatC (T' ++ List.replicate (ni - (k + 1)) zeroCV))) ∧ Hid (∀ z ∈ T', LkAt w0 z) ∧ Hid (v'.ownBlock ≠ some w.heap.size) ∧
                  w.heap.size < ((((((w5.setCell ⟨w.heap.size, k * 6, none⟩ (.int .i64 z.1.1)).setCell ⟨w.heap.size, k * 6 + 1, none⟩ (.int .i64 z.1.2.1)).setCell ⟨w.heap.size, k * 6 + 2, none⟩ (.int .i64 (cv z.1))).setCell ⟨w.heap.size, k * 6 + 3, none⟩ (.slice z.2.1 z.2.2.1 z.2.2.2)).setCell ⟨w.heap.size, k * 6 + 4, none⟩ (.int .i64 hd)).setCell ⟨w.heap.size, k * 6 + 5, none⟩ (.bool rr)).heap.size)) := by
              intro w5 hb5
              have hy5 := (hb5.block _ (lt_of_block (unhide HY1))).trans (unhide HY1)
              have hP5 := (unhide HPY).kept hb5
              have hO5 := (Gr.of (S := fun _ => False) hb5).own (unhide HOY) (fun _ _ q => q)
              rw [unhide HR'] at hO5
              have hTk := unhide HT
              have hat : ∀ j, j < 6 → w5.cell? ⟨w.heap.size, k * 6 + j, none⟩ = (sixV zeroCV)[j]? := fun j hj => by
                rw [World.ownsRow.cellAt hO5 _ (by omega), ← hTk, flatC_mid_at _ _ _ j hj]
              refine ⟨⟨cell_of hy5 0 _ rfl, cell_of hy5 1 _ rfl, cell_of hy5 2 _ rfl, cell_of hy5 3 _ rfl, by rw [← unhide HDD]; exact cell_of hy5 4 _ rfl, by rw [← unhide HRR]; exact cell_of hy5 5 _ rfl⟩,
                ⟨_, _, _, _, _, _, (hat 0 (by decide)).trans rfl, (hat 1 (by decide)).trans rfl, (hat 2 (by decide)).trans rfl, (hat 3 (by decide)).trans rfl, (hat 4 (by decide)).trans rfl, (hat 5 (by decide)).trans rfl⟩, fun j => hO5.frozenAt j, (hO5.lt _ rfl).2, ?_⟩
              have hG := (Gr.refl w5 (fun q => q = w.heap.size)).sixAt w.heap.size (k * 6) (.inl rfl) (.int .i64 z.1.1) (.int .i64 z.1.2.1) (.int .i64 (cv z.1)) (.slice z.2.1 z.2.2.1 z.2.2.2) (.int .i64 hd) (.bool rr)
              have hO6 := stored6 hO5 (k * 6) (.int .i64 z.1.1) (.int .i64 z.1.2.1) (.int .i64 (cv z.1)) (.slice z.2.1 z.2.2.1 z.2.2.2) (.int .i64 hd) (.bool rr)
              rw [← unhide HDD, ← unhide HRR] at hO6 hG ⊢
              have hset := flatC_mid_set T (List.replicate (ni - (k + 1)) zeroCV) zeroCV z
              rw [hTk] at hset
              rw [hset] at hO6
              refine ⟨T ++ [z], K3, v3, A2, HS3, unhide HLEN, ?_, ?_, ?_, ?_, ?_, HV3, Nat.lt_of_lt_of_le (hO5.lt _ rfl).2 hG.size⟩
              · show _ = _; rw [List.length_append, hTk]; rfl
              · refine ⟨fun q hq => (unhide HSub).1 q ((unhide HSUB) q hq), fun q hq => ?_⟩
                rcases List.mem_append.1 hq with hq | hq
                · exact (unhide HSub).2 q hq
                · rw [List.mem_singleton.1 hq]; exact unhide HZK
              · refine ⟨hG.below hP5.bel hP5.bel.size (fun q hq => by rw [hq]; exact hB), hP5.ge, hG.heap hP5.box (by omega), hG.own hP5.own (fun q hq e => (unhide HV3) (by rw [hq, e])), hP5.ne, hP5.lk⟩
              · show World.ownsRow _ _ _ _ _ _ _
                rw [List.append_assoc]
                exact hO6
              · intro q hq
                rcases List.mem_append.1 hq with hq | hq
                · exact (unhide HL) q hq
                · rw [List.mem_singleton.1 hq]; exact unhide HZL
            cases rr with
            | false =>
              clear hD
              go_wp2_with fail
              rw [← hY]
              clear hY
              refine (unhide OP2).mono ?_
              rintro e w5 ⟨rfl, hb5⟩
              obtain ⟨⟨s0, s1, s2, s3, s4, s5⟩, ⟨u0, u1, u2, u3, u4, u5, t0, t1, t2, t3, t4, t5⟩, hfz, hsl5, HEND⟩ := (unhide TAIL) w5 hb5
              have z0 := hfz (k * 6)
              have z1 := hfz (k * 6 + 1)
              have z2 := hfz (k * 6 + 2)
              have z3 := hfz (k * 6 + 3)
              have z4 := hfz (k * 6 + 4)
              have z5 := hfz (k * 6 + 5)
              have hb5s := hb5.size
              have m5 : w3.heap.size < w5.heap.size := World.block_lt_of_cell? _ _ s0
              have n1 : ¬ (w3.heap.size = w.heap.size) := by omega
              have n2 : ¬ (w.heap.size = w3.heap.size) := by omega
              clear hb5 hfz TAIL OP2 q2 q3 r3 r4 r5
              go_wp2
              go_roundw
              case rel =>
                obtain ⟨T', K', v', f1, f2, f3, f4, f5, f6, f7, f8, f9, f10⟩ := unhide HEND
                exact ⟨k + 1, T', K', v', by omega, by go_num, f1, f2, f3, f4, f5, f6, f7, f8, f9, f10⟩
              case measure => simp [intOf]; omega
            | true =>
              have hD2 : ¬ (h < hd + 2) := by have := unhide hD; simpa using this
              clear hD
              go_wp2_with fail
              rw [← hY]
              clear hY
              refine (unhide OP2).mono ?_
              rintro e w5 ⟨rfl, hb5⟩
              obtain ⟨⟨s0, s1, s2, s3, s4, s5⟩, ⟨u0, u1, u2, u3, u4, u5, t0, t1, t2, t3, t4, t5⟩, hfz, hsl5, HEND⟩ := (unhide TAIL) w5 hb5
              have z0 := hfz (k * 6)
              have z1 := hfz (k * 6 + 1)
              have z2 := hfz (k * 6 + 2)
              have z3 := hfz (k * 6 + 3)
              have z4 := hfz (k * 6 + 4)
              have z5 := hfz (k * 6 + 5)
              have hb5s := hb5.size
              have m5 : w3.heap.size < w5.heap.size := World.block_lt_of_cell? _ _ s0
              have n1 : ¬ (w3.heap.size = w.heap.size) := by omega
              have n2 : ¬ (w.heap.size = w3.heap.size) := by omega
              clear hb5 hfz TAIL OP2 q2 q3 r3 r4 r5
              go_wp2
              go_roundw
              case rel =>
                obtain ⟨T', K', v', f1, f2, f3, f4, f5, f6, f7, f8, f9, f10⟩ := unhide HEND
                exact ⟨k + 1, T', K', v', by omega, by go_num, f1, f2, f3, f4, f5, f6, f7, f8, f9, f10⟩
              case measure => simp [intOf]; omega
    · have e : k = ni := by omega
      subst e
      have R := unhide A
      rw [spendGo_end h I k (by rw [unhide HZ]; exact Nat.le_refl _), unhide HX] at R
      have R1 : Hid (x = 0) := by show _ = _; injection R
      have R2 : S = T.map (·.1) := by injection R with _ R; injection R
      have R3 : M = K'.map (·.1) := by injection R with _ R; injection R
      subst R2 R3
      have HO2 : Hid (wr.ownsRow w0.heap.size 89 6 (.slice (some ⟨w.heap.size, 0, none⟩) k k) k (flatC T)) := by
        have := unhide HO'
        rw [Nat.sub_self, List.replicate_zero, List.append_nil] at this
        exact this
      clear R A HO'
      go_wp2
      go_ret2
      exact ⟨some ⟨w.heap.size, 0, none⟩, k, k, by rw [unhide R1]; rfl, (unhide HP').bel, fun _ => ⟨v', K', T, rfl, rfl, unhide HS', hKl, (unhide HT).symm, unhide HT, unhide HO2, unhide HL, (unhide HSub).1, (unhide HSub).2, unhide HP', w.heap.size, rfl, unhide HNE, by omega⟩⟩

end Go.Proofs.YtifhlohdidfbgaaGreatDoor

/- The contract of block.Check. -/
namespace Go.Proofs.YtifhlohdidfbgaaGreatDoor
open Go.RowKit

set_option maxRecDepth 10000 in
set_option maxHeartbeats 6400000 in
theorem blkCheck_any (p h k n : Int) (a : Option Addr) (m c : Nat) (T : List TxD) (x : Int) (w : World) (hT : TxsAt w a m T) (hx : chkB (p, h, k, n, T) = x) :
    Calls Tryz.prog 11 #[.agg #[.int .i64 p, .int .i64 h, .int .i64 k, .int .i64 n, .slice a m c]] w fun e w' => e = .returned (.int .i64 x) ∧ Below w.heap.size w w' := by
  subst hx
  obtain ⟨X, hX⟩ : ∃ X, X = w.alloc (.cells #[.int .i64 p, .int .i64 h, .int .i64 k, .int .i64 n, .slice a m c] 24) := ⟨_, rfl⟩
  have hbX : Below w.heap.size w X := by rw [hX]; exact bel_new _ _
  have hX1 : X.heap[w.heap.size]? = some (.cells [.int .i64 p, .int .i64 h, .int .i64 k, .int .i64 n, .slice a m c].toArray 24 (0, 0)) := by rw [hX]; exact five_heap _ _ _ _ _ _ _
  have HX1 := hide hX1
  have HBX := hide hbX
  have HT := hide (hT.later hbX)
  have hz : T.length = m := hT.1
  unfold chkB
  simp only
  rw [hz]
  clear hbX hX1 hT
  cases q : headOk p h k n with
  | false =>
    have C := hide (headFits_is p h k n a m c false X q)
    rw [if_pos rfl]
    clear q hz
    go_enter Tryz.func11, Tryz.ntmps11
    go_wp2_with fail
    rw [← hX]
    clear hX
    refine (unhide C).mono ?_
    rintro e w1 ⟨rfl, hb1⟩
    have HB1 := hide (bel_on (unhide HBX) hb1)
    clear hb1
    go_wp2
    go_ret
    exact ⟨rfl, unhide HB1⟩
  | true =>
    have C := hide (headFits_is p h k n a m c true X q)
    rw [if_neg (by decide)]
    clear q
    by_cases h4 : 4 < m
    · rw [if_pos h4]
      clear hz
      go_enter Tryz.func11, Tryz.ntmps11
      go_wp2_with fail
      rw [← hX]
      clear hX
      refine (unhide C).mono ?_
      rintro e w1 ⟨rfl, hb1⟩
      have hx1 := (hb1.block _ (lt_of_block (unhide HX1))).trans (unhide HX1)
      have c4 := cell_of hx1 4 _ rfl
      have l1 := lt_of_block hx1
      have HB1 := hide (bel_on (unhide HBX) hb1)
      clear hb1 hx1
      go_wp2
      go_ret
      exact ⟨rfl, unhide HB1⟩
    · rw [if_neg h4]
      by_cases h0 : m = 0
      · subst h0
        rw [if_pos rfl]
        clear hz h4
        go_enter Tryz.func11, Tryz.ntmps11
        go_wp2_with fail
        rw [← hX]
        clear hX
        refine (unhide C).mono ?_
        rintro e w1 ⟨rfl, hb1⟩
        have hx1 := (hb1.block _ (lt_of_block (unhide HX1))).trans (unhide HX1)
        have c4 := cell_of hx1 4 _ rfl
        have l1 := lt_of_block hx1
        have HB1 := hide (bel_on (unhide HBX) hb1)
        clear hb1 hx1
        go_wp2
        go_ret
        exact ⟨rfl, unhide HB1⟩
      · rw [if_neg h0]
        have g0 : ((m : Int) == 0) = false := by simp [h0]
        have HZ := hide hz
        obtain ⟨b, off, rfl, hbl, hcell⟩ := (unhide HT).2 (by omega)
        have HC := hide hcell
        clear hz hcell
        go_enter Tryz.func11, Tryz.ntmps11
        go_wp2_with fail
        rw [← hX]
        clear hX
        refine (unhide C).mono ?_
        rintro e w1 ⟨rfl, hb1⟩
        have hx1 := (hb1.block _ (lt_of_block (unhide HX1))).trans (unhide HX1)
        have c4 := cell_of hx1 4 _ rfl
        have l1 := lt_of_block hx1
        have HX2 := hide hb1
        clear hb1 hx1
        go_wp2
        go_loopw [20] (fun i wr => ∃ k : Nat, k ≤ m ∧ i = .int .i64 k ∧ Hid (chkTs h 0 T = chkTs h k (T.drop k)) ∧ Hid (Below X.heap.size X wr)) (fun i _ => m - (intOf i).toNat)
        case atStart => exact ⟨0, Nat.zero_le _, rfl, rfl, HX2⟩
        case round =>
          obtain ⟨j, hj, rfl, A, HBr⟩ := hrel
          clear c4 l1 HX2
          by_cases hlt : j < m
          · have hlk : j < T.length := by rw [unhide HZ]; exact hlt
            have hin := TxAt.kept _ _ _ _ _ (unhide HBr) ((unhide HC) j hlk)
            have ST := hide (chkTs_at h T j hlk)
            obtain ⟨t, ht⟩ : ∃ t, T[j] = t := ⟨_, rfl⟩
            rw [ht] at hin ST
            obtain ⟨t1, I, O⟩ := t
            obtain ⟨g0', ⟨ai, ni, ci, g1, hI, sI⟩, ao, no, co, g2, hO, _⟩ := hin
            have A2 : Hid (chkTs h 0 T = if chkTx (t1, I, O) ≠ 0 then chkTx (t1, I, O) else if standsD (t1, I, O) j h = false then 4 else chkTs h (j + 1) (T.drop (j + 1))) := by show _ = _; rw [unhide A, unhide ST]
            simp only at g0' g1 g2 hI hO
            obtain ⟨Y, hY⟩ : ∃ Y, Y = wr.alloc (.cells #[.int .i64 t1, .slice ai ni ci, .slice ao no co] 78) := ⟨_, rfl⟩
            have hbY : Below wr.heap.size wr Y := by rw [hY]; exact bel_new _ _
            have hY1 : Y.heap[wr.heap.size]? = some (.cells [.int .i64 t1, .slice ai ni ci, .slice ao no co].toArray 78 (0, 0)) := by rw [hY]; exact three_heap _ _ _ _ _
            have HY1 := hide hY1
            have HBY := hide (bel_on (unhide HBr) hbY)
            have hhY := ((unhide HBY).block _ (lt_of_block (unhide HX1))).trans (unhide HX1)
            have y0 := cell_of hY1 0 _ rfl
            have y1 := cell_of hY1 1 _ rfl
            have y2 := cell_of hY1 2 _ rfl
            have yl := lt_of_block hY1
            obtain ⟨x, hx⟩ : ∃ x, chkTx (t1, I, O) = x := ⟨_, rfl⟩
            obtain ⟨o, ho⟩ : ∃ o, standsD (t1, I, O) j h = o := ⟨_, rfl⟩
            have CT := hide (txCheck_any t1 ai ao ni ci no co I O Y (hI.later hbY) (hO.later hbY) sI)
            have CS := hide (fun W => stands_is t1 ai ao ni ci no co I O j h o W hI.1 ho)
            rw [hx] at A2 CT
            rw [ho] at A2
            clear hbY hY1 hhY A ST ht hI hO sI hx ho
            by_cases hx0 : x = 0
            · subst hx0
              have A3 : Hid (chkTs h 0 T = if o = false then 4 else chkTs h (j + 1) (T.drop (j + 1))) := by
                have q := unhide A2
                rw [if_neg (by decide)] at q
                exact q
              clear A2
              go_wp2_with fail
              rw [← hY]
              clear hY
              go_wp2_with fail
              refine (unhide CT).mono ?_
              rintro e w2 ⟨rfl, hb2⟩
              have hy2 := (hb2.block _ (lt_of_block (unhide HY1))).trans (unhide HY1)
              have HB2 := hide (bel_on (unhide HBY) hb2)
              have hh2 := ((unhide HB2).block _ (lt_of_block (unhide HX1))).trans (unhide HX1)
              have z0 := cell_of hy2 0 _ rfl
              have z1 := cell_of hy2 1 _ rfl
              have z2 := cell_of hy2 2 _ rfl
              have zl := lt_of_block hy2
              have k1 := cell_of hh2 1 _ rfl
              have kl := lt_of_block hh2
              clear hb2 hy2 hh2 y0 y1 y2 yl g0' g1 g2
              go_wp2_with fail
              refine ((unhide CS) _).mono ?_
              rintro e w3 ⟨rfl, hb3⟩
              have HB3 := hide (bel_on (unhide HB2) hb3)
              clear hb3
              cases o with
              | false =>
                have R : Hid (chkTs h 0 T = 4) := by show _ = _; rw [unhide A3]; rfl
                have HBF := hide (bel_on (unhide HBX) (unhide HB3))
                clear A3
                go_wp2
                go_ret
                exact ⟨by rw [unhide R]; rfl, unhide HBF⟩
              | true =>
                have R : Hid (chkTs h 0 T = chkTs h (j + 1) (T.drop (j + 1))) := by show _ = _; rw [unhide A3]; rfl
                clear A3
                go_wp2
                go_roundw
                case rel => exact ⟨j + 1, by omega, by go_num, R, HB3⟩
                case measure => simp [intOf]; omega
            · have R : Hid (chkTs h 0 T = x) := by show _ = _; rw [unhide A2, if_pos hx0]
              have gx : (x != 0) = true := by simp [hx0]
              clear A2 hx0
              go_wp2_with fail
              rw [← hY]
              clear hY
              go_wp2_with fail
              refine (unhide CT).mono ?_
              rintro e w2 ⟨rfl, hb2⟩
              have HBF := hide (bel_on (unhide HBX) (bel_on (unhide HBY) hb2))
              clear hb2
              go_wp2
              go_ret
              exact ⟨by rw [unhide R]; rfl, unhide HBF⟩
          · have R : Hid (chkTs h 0 T = 0) := by show _ = _; rw [unhide A, chkTs_end h T j (by rw [unhide HZ]; omega)]
            have HBF := hide (bel_on (unhide HBX) (unhide HBr))
            clear A
            go_wp2
            go_ret
            exact ⟨by rw [unhide R]; rfl, unhide HBF⟩

end Go.Proofs.YtifhlohdidfbgaaGreatDoor
