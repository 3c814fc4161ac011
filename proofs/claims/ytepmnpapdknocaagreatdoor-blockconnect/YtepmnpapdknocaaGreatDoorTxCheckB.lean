/- Contracts of what checks a transaction: the ins one by one, the outs one by one, and all of it. -/
import Derived.Test.YtepmnpapdknocaaGreatDoorTxCheck
import Derived.Test.YtepmnpapdknocaaGreatDoorLockFill
namespace Go.Proofs.YtepmnpapdknocaaGreatDoor
open Go.RowKit

theorem three_new (w : World) (x y z : Value) (t : TypeId) : (w.alloc (.cells #[x, y, z] t)).cell? ⟨w.heap.size, 0, none⟩ = some x ∧ (w.alloc (.cells #[x, y, z] t)).cell? ⟨w.heap.size, 1, none⟩ = some y ∧ (w.alloc (.cells #[x, y, z] t)).cell? ⟨w.heap.size, 2, none⟩ = some z :=
  ⟨by rw [World.cell?_alloc_at _ _ _ _ rfl]; rfl, by rw [World.cell?_alloc_at _ _ _ _ rfl]; rfl, by rw [World.cell?_alloc_at _ _ _ _ rfl]; rfl⟩
theorem two_fresh (w : World) (x y : Value) (t : TypeId) : (w.alloc (.cells #[x, y] t)).cell? ⟨w.heap.size, 0, none⟩ = some x ∧ (w.alloc (.cells #[x, y] t)).cell? ⟨w.heap.size, 1, none⟩ = some y :=
  ⟨by rw [World.cell?_alloc_at _ _ _ _ rfl]; rfl, by rw [World.cell?_alloc_at _ _ _ _ rfl]; rfl⟩
theorem chk_at (a : Option Addr) (len cap : Nat) (l : List (Int × Int)) (x : Int) (w : World) (hx : chk l = x) (h : OpsAt w a len l) :
    Calls Tryz.prog 138 #[.slice a len cap] w fun e w' => e = .returned (.int .i64 x) ∧ Below w.heap.size w w' := by
  subst hx; exact check_any a len cap l w h

set_option maxRecDepth 10000 in
set_option maxHeartbeats 3200000 in
theorem checkIns_some (b off n c : Nat) (L : List InD) (w : World) (hn : n ≤ 6) (hcap : n ≤ c) (hz : L.length = n) (hlb : b < w.heap.size) (hc : ∀ i (h : i < L.length), InAt w b (off + i * 3) L[i]) :
    Calls Tryz.prog 127 #[.slice (some ⟨b, off, none⟩) n c] w fun e w' => e = .returned (.int .i64 (chkIns [] L)) ∧ Below w.heap.size w w' := by
  have HC := hide hc
  have HZ := hide hz
  clear hc hz
  go_enter Tryz.func127, Tryz.ntmps127
  go_wp2
  go_loopw [8] (fun i wr => ∃ k : Nat, k ≤ n ∧ i = .int .i64 k ∧ Hid (chkIns [] L = chkIns (L.take k) (L.drop k)) ∧ Below w.heap.size w wr) (fun i _ => n - (intOf i).toNat)
  case atStart => exact ⟨0, Nat.zero_le _, rfl, rfl, Below.refl _ _⟩
  case round =>
    obtain ⟨k, hk, rfl, A, hb⟩ := hrel
    have HB := hide hb
    by_cases hlt : k < n
    · have hlk : k < L.length := by rw [unhide HZ]; exact hlt
      have hin := InAt.kept _ _ _ _ _ hb ((unhide HC) k hlk)
      have IA : Hid (InsAt wr (some ⟨b, off, none⟩) k (L.take k)) := by
        have h0 : InsAt wr (some ⟨b, off, none⟩) n L := ⟨unhide HZ, fun _ => ⟨b, off, rfl, Nat.lt_of_lt_of_le hlb hb.size, fun i hi => InAt.kept _ _ _ _ _ hb ((unhide HC) i hi)⟩⟩
        exact RowsAt.take h0 k hk
      have ST := hide (chkIns_stop L k hlk)
      have SS := hide (chkIns_step L k hlk)
      obtain ⟨x, hx⟩ : ∃ x, L[k] = x := ⟨_, rfl⟩
      rw [hx] at hin ST SS
      obtain ⟨x1, x2, key⟩ := x
      obtain ⟨g1, g2, ka, kn, kc, g3, g4, _⟩ := hin
      simp only at g1 g2 g3 g4
      have hba := bel_new wr (.cells #[.int .i64 x1, .int .i64 x2, .slice ka kn kc] 140)
      obtain ⟨n1, n2, n3⟩ := three_new wr (.int .i64 x1) (.int .i64 x2) (.slice ka kn kc) 140
      have HBA := hide hba
      have KO := hide (g4.later hba)
      have N1 := hide n1
      have N2 := hide n2
      have N3 := hide n3
      clear hb hx g4 hba n1 n2 n3
      cases hp : ptOk (x1, x2, key) with
      | false =>
        have C1 := hide (isPoint_is x1 x2 false _ hp : Calls Tryz.prog 137 _ (wr.alloc (.cells #[.int .i64 x1, .int .i64 x2, .slice ka kn kc] 140)) _)
        have R : Hid (chkIns [] L = 3) := by
          have e := chkIn1_pt (pre := L.take k) hp
          show _ = _
          rw [unhide A, (unhide ST) (by rw [e]; decide), e]
        clear A ST SS hp IA
        go_wp2_with fail
        refine (unhide C1).mono ?_
        rintro e w2 ⟨rfl, hb2⟩
        have HB2 := hide (bel_on (bel_on (unhide HB) (unhide HBA)) hb2)
        clear hb2
        go_wp2
        go_ret
        exact ⟨by rw [unhide R]; rfl, unhide HB2⟩
      | true =>
        have C1 := hide (isPoint_is x1 x2 true _ hp : Calls Tryz.prog 137 _ (wr.alloc (.cells #[.int .i64 x1, .int .i64 x2, .slice ka kn kc] 140)) _)
        have HP := hide hp
        clear hp
        by_cases hk0 : chk key = 0
        · cases ht : (L.take k).any (samePt (x1, x2, key)) with
          | true =>
            have R : Hid (chkIns [] L = 6) := by
              have e := chkIn1_twice (pre := L.take k) (unhide HP) hk0 ht
              show _ = _
              rw [unhide A, (unhide ST) (by rw [e]; decide), e]
            have HT := hide ht
            have HK := hide hk0
            clear A ST SS ht hk0
            go_wp2_with fail
            refine (unhide C1).mono ?_
            rintro e w2 ⟨rfl, hb2⟩
            have m3 := cell_later hb2 (unhide N3)
            have HB2 := hide hb2
            have HB2' := hide (bel_on (unhide HBA) hb2)
            have hs2 : wr.heap.size < w2.heap.size := World.block_lt_of_cell? _ _ m3
            clear hb2
            go_wp2_with fail
            refine (chk_at ka kn kc key 0 _ (unhide HK) ((unhide KO).later (unhide HB2))).mono ?_
            rintro e w3 ⟨rfl, hb3⟩
            have HB3 := hide (bel_on (unhide HB2') hb3)
            have CT := hide (containsIn_is (some ⟨b, off, none⟩) k c (L.take k) (x1, x2, key) wr.heap.size true w3 (by omega) ((unhide IA).later (unhide HB3)) (cell_later hb3 (cell_later (unhide HB2) (unhide N1))) (cell_later hb3 (cell_later (unhide HB2) (unhide N2))) (unhide HT))
            clear hb3 m3
            go_wp2_with fail
            refine (unhide CT).mono ?_
            rintro e w4 ⟨rfl, hb4⟩
            have HB4 := hide (bel_on (bel_on (unhide HB) (unhide HB3)) hb4)
            clear hb4
            go_wp2
            go_ret
            exact ⟨by rw [unhide R]; rfl, unhide HB4⟩
          | false =>
            have R : Hid (chkIns [] L = chkIns (L.take (k + 1)) (L.drop (k + 1))) := by
              have e := chkIn1_ok (pre := L.take k) (unhide HP) hk0 ht
              show _ = _
              rw [unhide A, (unhide SS) e]
            have HT := hide ht
            have HK := hide hk0
            clear A ST SS ht hk0
            go_wp2_with fail
            refine (unhide C1).mono ?_
            rintro e w2 ⟨rfl, hb2⟩
            have m3 := cell_later hb2 (unhide N3)
            have HB2 := hide hb2
            have HB2' := hide (bel_on (unhide HBA) hb2)
            have hs2 : wr.heap.size < w2.heap.size := World.block_lt_of_cell? _ _ m3
            clear hb2
            go_wp2_with fail
            refine (chk_at ka kn kc key 0 _ (unhide HK) ((unhide KO).later (unhide HB2))).mono ?_
            rintro e w3 ⟨rfl, hb3⟩
            have HB3 := hide (bel_on (unhide HB2') hb3)
            have CT := hide (containsIn_is (some ⟨b, off, none⟩) k c (L.take k) (x1, x2, key) wr.heap.size false w3 (by omega) ((unhide IA).later (unhide HB3)) (cell_later hb3 (cell_later (unhide HB2) (unhide N1))) (cell_later hb3 (cell_later (unhide HB2) (unhide N2))) (unhide HT))
            clear hb3 m3
            go_wp2_with fail
            refine (unhide CT).mono ?_
            rintro e w4 ⟨rfl, hb4⟩
            have HB4 := hide (bel_on (bel_on (unhide HB) (unhide HB3)) hb4)
            clear hb4
            go_wp2
            go_roundw
            case rel => exact ⟨k + 1, by omega, by go_num, R, unhide HB4⟩
            case measure => simp [intOf]; omega
        · obtain ⟨z, hz⟩ : ∃ z, chk key = z := ⟨_, rfl⟩
          have R : Hid (chkIns [] L = z) := by
            have e := chkIn1_key (pre := L.take k) (unhide HP) hk0
            show _ = _
            rw [unhide A, (unhide ST) (by rw [e]; exact hk0), e]; exact hz
          have HK := hide hz
          rw [hz] at hk0
          have gz : (z != 0) = true := by simp [hk0]
          clear A ST SS hz hk0 IA
          go_wp2_with fail
          refine (unhide C1).mono ?_
          rintro e w2 ⟨rfl, hb2⟩
          have m3 := cell_later hb2 (unhide N3)
          have HB2 := hide hb2
          have HB2' := hide (bel_on (unhide HBA) hb2)
          have hs2 : wr.heap.size < w2.heap.size := World.block_lt_of_cell? _ _ m3
          clear hb2
          go_wp2_with fail
          refine (chk_at ka kn kc key z _ (unhide HK) ((unhide KO).later (unhide HB2))).mono ?_
          rintro e w3 ⟨rfl, hb3⟩
          have HB3 := hide (bel_on (bel_on (unhide HB) (unhide HB2')) hb3)
          clear hb3 m3
          go_wp2
          go_ret
          exact ⟨by rw [unhide R]; rfl, unhide HB3⟩
    · have R : Hid (chkIns [] L = 0) := by show _ = _; rw [unhide A, chkIns_end L k (by rw [unhide HZ]; omega)]
      clear A hb
      go_wp2
      go_ret
      exact ⟨by rw [unhide R]; rfl, unhide HB⟩

end Go.Proofs.YtepmnpapdknocaaGreatDoor
