/- The contract of Run: its error, and what it leaves. -/
import Derived.Test.YtepmnpapdknocaaGreatDoorLockRunB
import Derived.Test.YtepmnpapdknocaaGreatDoorShelf
namespace Go.Proofs.YtepmnpapdknocaaGreatDoor
open Go.RowKit

/-- What a slice of ints that the call made is to a reader. -/
theorem row_of_own {w : World} {base : Nat} {e : TypeId} {v : Value} {n : Nat} {Z : List Int} (h : w.ownsRow base e 1 v n (Z.map (Value.int .i64))) : ∃ a cap, v = .slice a n cap ∧ RowAt w a n Z := by
  have hl : Z.length = n := by have := h.1; simpa using this
  rcases h.2 with ⟨rfl, rfl⟩ | ⟨g, cap, cur, rfl, _, _, h1, h2, _, _⟩
  · have e : Z = [] := List.length_eq_zero_iff.1 hl
    subst e
    exact ⟨none, 0, rfl, RowAt.nil _ _⟩
  · refine ⟨_, cap, rfl, hl, Nat.le_trans h1 h2, fun _ => ⟨g, 0, rfl, fun i hi => ?_⟩⟩
    rw [Nat.zero_add, World.ownsRow.cellAt h i (by omega)]
    simp [hl, hi]

theorem Tryz.arr246 : Tryz.prog.underlying 246 = some (.array (Tryz.prog.arrayLen 246) (Tryz.prog.elem 246)) := by kernel_rfl
theorem Tryz.len246 : Tryz.prog.arrayLen 246 = 16 := by kernel_rfl
theorem Tryz.el246 : Tryz.prog.elem 246 = 3 := by kernel_rfl

theorem slice_stack (p n : Nat) (h : n ≤ 16) (w : World) : (Instr.sliceAt 246 (.pointer (some ⟨p, 0, none⟩)) none (some (.int .i64 n)) none).run Tryz.prog w = .ok (.slice (some ⟨p, 0, none⟩) n 16) w := by
  rw [run_sliceAt_array_h w 246 ⟨p, 0, none⟩ Tryz.arr246 .i64 n (by omega) (by rw [Tryz.len246]; omega), Tryz.el246, Tryz.len246, Tryz.sizeOf3]
  simp [Result.andThen, slicedAt, Addr.add]

set_option maxRecDepth 100000 in
set_option maxHeartbeats 800000 in
theorem left_any (p : Nat) (s : MS) (W w : World) (hm : Mach p s W w) :
    Calls Tryz.prog 179 #[.pointer (some ⟨p, 0, none⟩)] w fun e w' => ∃ a cap, e = .returned (.slice a s.n cap) ∧ RowAt w' a s.n (s.cs.take s.n) ∧ Below w.heap.size w w' := by
  have c1 := hm.cell_n
  have hn := hm.good.2.1
  have hl := hm.good.1
  have HC : Hid (∀ j, j < s.cs.length → w.cell? ⟨p, 0 + j, none⟩ = some (.int .i64 (s.cs.getD j 0))) := fun j hj => by rw [Nat.zero_add]; exact hm.cell_s j (by omega)
  have hsl := slice_stack p s.n hn
  clear hm
  go_enter Tryz.func179, Tryz.ntmps179
  go_wp2
  go_region_with (go_at_call 225; refine (Tryz.slices_Clone_int p 0 s.n 16 s.cs _ ?_ ?_ ?_).mono ?_; omega; omega; exact (unhide HC); rintro e w' ⟨v, rfl, hown, hnn, hb⟩)
  all_goals
    obtain ⟨a, cap, rfl, hrow⟩ := row_of_own hown
    have HR := hide hrow
    have HB : Hid (Below w.heap.size w w') := ⟨hb.os, hb.tape, hb.output, hb.size, hb.block⟩
    clear hown hnn hb hrow
    go_wp2
    go_ret
    exact ⟨a, cap, rfl, unhide HR, unhide HB⟩

theorem runE_bad {l : List (Int × Int)} {Z : List Int} {h : Int} (e : chk l ≠ 0) : runE l Z h = chk l ∧ runS l Z h = [] := by
  have h1 : runE l Z h = chk l := by unfold runE; rw [if_neg e]
  exact ⟨h1, by unfold runS; rw [h1, if_neg e]⟩
theorem runE_range {l : List (Int × Int)} {Z : List Int} {h : Int} (e : chk l = 0) (g : (stackOk Z && hOk h) = false) : runE l Z h = 3 ∧ runS l Z h = [] := by
  have h1 : runE l Z h = 3 := by unfold runE; rw [if_pos e, g]; rfl
  exact ⟨h1, by unfold runS; rw [h1]; rfl⟩
theorem runE_key {l : List (Int × Int)} {Z : List Int} {h : Int} (e : chk l = 0) (g : (stackOk Z && hOk h) = true) (r : runL h l Z = none) : runE l Z h = 8 ∧ runS l Z h = [] := by
  have h1 : runE l Z h = 8 := by unfold runE; rw [if_pos e, g, r]; rfl
  exact ⟨h1, by unfold runS; rw [h1]; rfl⟩
theorem runE_fine {l : List (Int × Int)} {Z : List Int} {h : Int} {L : List Int} (e : chk l = 0) (g : (stackOk Z && hOk h) = true) (r : runL h l Z = some L) : runE l Z h = 0 ∧ runS l Z h = L := by
  have h1 : runE l Z h = 0 := by unfold runE; rw [if_pos e, g, r]; rfl
  exact ⟨h1, by unfold runS; rw [h1, r]; rfl⟩

set_option maxHeartbeats 400000 in
theorem run_none (p : Nat) (s : MS) (a : Option Addr) (cap : Nat) (W w : World) (hm : Mach p s W w) :
    Calls Tryz.prog 178 #[.pointer (some ⟨p, 0, none⟩), .slice a 0 cap] w fun e w' => e = .returned (.tuple #[]) ∧ ∃ s', Mach p s' W w' ∧ s'.h = s.h ∧ s'.rep = s.rep.bind (runL s.h []) := by
  have HM := hide hm
  have hpw := hm.lt
  clear hm
  go_enter Tryz.func178, Tryz.ntmps178
  go_wp2_with fail
  refine (orders_any p w hpw).mono ?_
  rintro e w1 ⟨rfl, hbx, hbw⟩
  have hs1 := run_storeCells_new (P := Tryz.prog) w1 293 #[.nilFunc, .nilFunc, .nilFunc, .nilFunc, .nilFunc, .nilFunc, .nilFunc, .nilFunc, .nilFunc, .nilFunc, .nilFunc, .nilFunc, .nilFunc, .nilFunc] (ords p (w.heap.size + 1)) Tryz.size293 rfl (by simp [ords, met, clo1, clo2, Value.oneCell'])
  have hs2 : (ords p (w.heap.size + 1)).size = 14 := rfl
  have hm1 : Mach p s W w1 := ⟨(unhide HM).good, (hbw.block p hpw).trans (unhide HM).block, fun k hk hl => (hbw.block k (Nat.lt_of_lt_of_le hl (unhide HM).size)).trans ((unhide HM).old k hk hl), Nat.le_trans (unhide HM).size hbw.size, hbw.os.trans (unhide HM).os, hbw.tape.trans (unhide HM).tape, hbw.output.trans (unhide HM).output⟩
  have HM2 := hide (hm1.alloc (.cells (ords p (w.heap.size + 1)) 293))
  clear hbx hbw hm1
  go_wp2
  refine wp_loop_rounds 1 ?_
  rw [rounds_succ]
  go_wp2
  go_end0
  exact ⟨rfl, s, unhide HM2, rfl, by cases s.rep <;> rfl⟩

theorem mrun_any (p : Nat) (s : MS) (a : Option Addr) (len cap : Nat) (l : List (Int × Int)) (W w : World) (hm : Mach p s W w) (hp : W.heap.size ≤ p) (hO : OpsAt W a len l) (hck : chk l = 0) :
    Calls Tryz.prog 178 #[.pointer (some ⟨p, 0, none⟩), .slice a len cap] w fun e w' => e = .returned (.tuple #[]) ∧ ∃ s', Mach p s' W w' ∧ s'.h = s.h ∧ s'.rep = s.rep.bind (runL s.h l) := by
  obtain ⟨hz, hc⟩ := hO
  have h16 : len ≤ 16 := by
    unfold chk at hck
    split at hck
    · cases hck
    · omega
  have hck' : chkL l = 0 := by
    unfold chk at hck
    split at hck
    · cases hck
    · exact hck
  by_cases h : len = 0
  · subst h
    have e : l = [] := List.length_eq_zero_iff.1 hz
    subst e
    exact run_none p s a cap W w hm
  · obtain ⟨b, off, rfl, hcell⟩ := hc (by omega)
    exact run_some p s b off len cap l W w hm hp hz h16 hck' (World.block_lt_of_cell? _ _ (hcell 0 (by omega)).1) hcell

/-- The machine as it is made. -/
def fresh (h : Int) : MS := ⟨List.replicate 16 0, 0, h, false⟩
theorem fresh_ok (h : Int) : (fresh h).ok := ⟨rfl, Nat.zero_le _, fun x hx => by rw [List.eq_of_mem_replicate hx]; rfl⟩
theorem fresh_mach (h : Int) (w : World) : Mach w.heap.size (fresh h) w (w.alloc (.cells (fresh h).cells 248)) where
  good := fresh_ok h
  block := heap_alloc_new _ _
  old := fun k _ hl => Below.heap_alloc _ _ _ hl
  size := by simp
  os := rfl
  tape := rfl
  output := rfl

theorem rep_left {s : MS} {L : List Int} (h : s.rep = some L) : s.f = false ∧ s.cs.take s.n = L := by
  unfold MS.rep at h
  cases hf : s.f with
  | true => rw [hf] at h; cases h
  | false => rw [hf] at h; exact ⟨rfl, by simpa using h⟩
theorem rep_lost {s : MS} (h : s.rep = none) : s.f = true := by
  unfold MS.rep at h
  cases hf : s.f with
  | true => rfl
  | false => rw [hf] at h; cases h

set_option maxHeartbeats 1600000 in
theorem run_any (a az : Option Addr) (len cap lens caps : Nat) (l : List (Int × Int)) (Z : List Int) (h : Int) (w : World) (hO : OpsAt w a len l) (hR : RowAt w az lens Z) :
    Calls Tryz.prog 143 #[.slice a len cap, .slice az lens caps, .int .i64 h] w fun e w' => ∃ a' cap', e = .returned (.tuple #[.slice a' (runS l Z h).length cap', .int .i64 (runE l Z h)]) ∧ RowAt w' a' (runS l Z h).length (runS l Z h) ∧ Below w.heap.size w w' := by
  have CK := hide (check_any a len cap l w hO)
  have HO := hide hO
  have HR := hide hR
  clear hO hR
  by_cases hck : chk l = 0
  · rw [hck] at CK
    have HK := hide hck
    clear hck
    go_enter Tryz.func143, Tryz.ntmps143
    go_wp2_with fail
    refine (unhide CK).mono ?_
    rintro e w1 ⟨rfl, hb1⟩
    have HB1 := hide hb1
    have HO1 := hide ((unhide HO).later hb1)
    have HR1 := hide ((unhide HR).later hb1)
    clear hb1
    go_wp2_with fail
    refine (putAll_any w1.heap.size (fresh h) az lens caps Z w1 _ (fresh_mach h w1) (Nat.le_refl _) (unhide HR1)).mono ?_
    rintro e w2 ⟨rfl, s', hm2, hh2, hr2⟩
    have hr3 : s'.rep = if stackOk Z then some Z else none := hr2.trans (putsL_nil Z)
    have hh3 : s'.h = h := hh2
    have cf := hm2.cell_f
    have HM2 := hide hm2
    clear hr2 hh2 hm2
    cases hso : stackOk Z with
    | false =>
      rw [hso] at hr3
      have hf := rep_lost hr3
      have e := runE_range (h := h) (unhide HK) (show (stackOk Z && hOk h) = false by rw [hso]; rfl)
      have EE := hide e
      rw [hf] at cf
      clear e hf hr3 hh3 hso
      go_wp2
      go_ret2
      rw [(unhide EE).1, (unhide EE).2]
      exact ⟨none, 0, rfl, RowAt.nil _ _, (unhide HB1).trans (((unhide HM2).below (Nat.le_refl _)).mono (unhide HB1).size)⟩
    | true =>
      rw [hso] at hr3
      have hf := rep_left hr3
      rw [hf.1] at cf
      have HF := hide hf.2
      clear hf
      cases hho : hOk h with
      | false =>
        have e := runE_range (unhide HK) (show (stackOk Z && hOk h) = false by rw [hso, hho]; rfl)
        have EE := hide e
        have HH := hide hho
        clear e hr3 hh3 hso hho
        go_wp2_with (go_at_call 142; refine (isHeight_is h false _ (unhide HH).symm).mono ?_; rintro e w' ⟨rfl, rfl⟩)
        go_ret2
        rw [(unhide EE).1, (unhide EE).2]
        exact ⟨none, 0, rfl, RowAt.nil _ _, (unhide HB1).trans (((unhide HM2).below (Nat.le_refl _)).mono (unhide HB1).size)⟩
      | true =>
        have HH := hide hho
        have HS := hide hso
        have HR3 := hide hr3
        have HH3 := hide hh3
        clear hr3 hh3 hso hho
        go_wp2_with (go_at_call 142; refine (isHeight_is h true _ (unhide HH).symm).mono ?_; rintro e w' ⟨rfl, rfl⟩)
        refine (mrun_any w1.heap.size s' a len cap l w1 _ (unhide HM2) (Nat.le_refl _) (unhide HO1) (unhide HK)).mono ?_
        rintro e w3 ⟨rfl, s3, hm3, hh4, hr4⟩
        rw [unhide HR3, unhide HH3] at hr4
        have hr5 : s3.rep = runL h l Z := hr4
        have cf3 := hm3.cell_f
        have HM3 := hide hm3
        clear hr4 hh4 hm3 cf
        cases hrl : runL h l Z with
        | none =>
          have hf3 := rep_lost (hr5.trans hrl)
          have e := runE_key (unhide HK) (show (stackOk Z && hOk h) = true by rw [unhide HS, unhide HH]; rfl) hrl
          have EE := hide e
          rw [hf3] at cf3
          clear e hr5 hf3 hrl
          go_wp2
          go_ret2
          rw [(unhide EE).1, (unhide EE).2]
          exact ⟨none, 0, rfl, RowAt.nil _ _, (unhide HB1).trans (((unhide HM3).below (Nat.le_refl _)).mono (unhide HB1).size)⟩
        | some L =>
          have hf3 := rep_left (hr5.trans hrl)
          have e := runE_fine (unhide HK) (show (stackOk Z && hOk h) = true by rw [unhide HS, unhide HH]; rfl) hrl
          have EE := hide e
          have hn3 : s3.n = L.length := by
            have h1 := (unhide HM3).good.1
            have h2 := (unhide HM3).good.2.1
            rw [← hf3.2, List.length_take]; omega
          rw [hf3.1] at cf3
          have LF := hide (left_any w1.heap.size s3 w1 w3 (unhide HM3))
          rw [hf3.2, hn3] at LF
          clear e hr5 hf3 hrl hn3
          go_wp2_with fail
          refine (unhide LF).mono ?_
          rintro e w4 ⟨a4, cap4, rfl, hrow, hb4⟩
          have HRW := hide hrow
          have HB4 := hide hb4
          clear hrow hb4
          go_wp2
          go_ret2
          rw [(unhide EE).1, (unhide EE).2]
          have b3 := (unhide HM3).below (Nat.le_refl _)
          exact ⟨a4, cap4, rfl, unhide HRW, (unhide HB1).trans ((b3.trans ((unhide HB4).mono b3.size)).mono (unhide HB1).size)⟩
  · have e := runE_bad (Z := Z) (h := h) hck
    rw [e.1, e.2]
    obtain ⟨x, hx⟩ : ∃ x, x = chk l := ⟨_, rfl⟩
    rw [← hx] at hck CK ⊢
    have hx1 : (x != 0) = true := by simp [hck]
    clear e hck hx
    go_enter Tryz.func143, Tryz.ntmps143
    go_wp2_with fail
    refine (unhide CK).mono ?_
    rintro e w1 ⟨rfl, hb1⟩
    have HB1 := hide hb1
    clear hb1
    go_wp2
    go_ret2
    exact ⟨none, 0, rfl, RowAt.nil _ _, unhide HB1⟩

end Go.Proofs.YtepmnpapdknocaaGreatDoor
