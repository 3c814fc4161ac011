/- Contracts of printTxs and of block.Print. -/
import Derived.Test.YtmomfkikogbdeaaGreatDoorBlkHeadToTxParts
import Derived.Test.YtmomfkikogbdeaaGreatDoorLockPrintToTxPrintB
namespace Go.Proofs.YtmomfkikogbdeaaGreatDoor
open Go.RowKit

def blockB : ByteArray := ⟨#[98, 108, 111, 99, 107]⟩
def txsText : List TxD → ByteArray
  | [] => ⟨#[]⟩
  | t :: r => txText t ++ txsText r
def blkText (b : BlkD) : ByteArray := (rowB blockB [b.1, b.2.1, b.2.2.1, b.2.2.2.1] ++ ⟨#[10]⟩) ++ txsText b.2.2.2.2
theorem chkTs_all (h : Int) : ∀ (i : Nat) (T : List TxD), chkTs h i T = 0 → ∀ t ∈ T, chkTx t = 0
  | _, [], _, t, ht => by cases ht
  | i, x :: r, e, t, ht => by
    unfold chkTs at e
    split at e
    · rename_i q; exact absurd e q
    · rename_i q
      split at e
      · cases e
      · rcases List.mem_cons.1 ht with rfl | ht
        · exact Classical.not_not.1 q
        · exact chkTs_all h (i + 1) r e t ht
theorem headOk_of {p h k n : Int} (e : headOk p h k n = true) : 0 ≤ p ∧ p ≤ 120 ∧ 1 ≤ h ∧ h ≤ 1000 ∧ 1 ≤ k ∧ k ≤ 1000 ∧ 0 ≤ n ∧ n ≤ 1000000000 := by
  unfold headOk at e
  rw [Bool.and_eq_true, Bool.and_eq_true, Bool.and_eq_true, Bool.and_eq_true, Bool.and_eq_true, Bool.and_eq_true, Bool.and_eq_true] at e
  obtain ⟨⟨a, b⟩, ⟨c, d⟩, ⟨e, f⟩, g, h⟩ := e
  exact ⟨of_decide_eq_true a, of_decide_eq_true b, of_decide_eq_true c, of_decide_eq_true d, of_decide_eq_true e, of_decide_eq_true f, of_decide_eq_true g, of_decide_eq_true h⟩
theorem chkB_zero {p h k n : Int} {T : List TxD} (e : chkB (p, h, k, n, T) = 0) : headOk p h k n = true ∧ 0 < T.length ∧ T.length ≤ 4 ∧ chkTs h 0 T = 0 ∧ (∀ t ∈ T, chkTx t = 0) := by
  unfold chkB at e
  simp only at e
  split at e
  · cases e
  rename_i q1
  split at e
  · cases e
  rename_i q2
  split at e
  · cases e
  rename_i q3
  exact ⟨by cases q : headOk p h k n with | true => rfl | false => exact absurd q q1, by omega, by omega, e, chkTs_all h 0 T e⟩

theorem intercalate_nil {α : Type} : ∀ (L : List (List α)), ([] : List α).intercalate L = L.flatten
  | [] => rfl
  | [x] => by simp [List.intercalate]
  | x :: y :: r => by
    have := intercalate_nil (y :: r)
    simp [List.intercalate] at this ⊢
    exact this

theorem txText_size (t : TxD) (h : chkTx t = 0) : (txText t).size ≤ 6000 := by
  have ok := TxOk.of h
  have h1 := outsText_size (insText t.1 t.2.1) t.2.2 ok.outs
  have h2 := insText_size t.1 t.2.1 ok.hgt ok.ins
  have h3 := ok.ins6
  have h4 := ok.outs6
  unfold txText
  omega
theorem txsText_size : ∀ (T : List TxD), (∀ t ∈ T, chkTx t = 0) → (txsText T).size ≤ 6000 * T.length
  | [], _ => by simp [txsText]; rfl
  | t :: r, h => by
    have h1 := txText_size t (h t (List.mem_cons_self ..))
    have h2 := txsText_size r (fun x hx => h x (List.mem_cons_of_mem _ hx))
    rw [txsText, ByteArray.size_append, List.length_cons]
    omega
theorem txsText_flat : ∀ (T : List TxD), (txsText T).data.toList = ((T.map txText).map (·.data.toList)).flatten
  | [] => rfl
  | t :: r => by
    rw [txsText, ByteArray.data_append, Array.toList_append, txsText_flat r]
    rfl
theorem join_flat (T : List TxD) : (⟨(Lib.join ((T.map txText).map (·.data.toList)) []).toArray⟩ : ByteArray) = txsText T := by
  refine ba_ext ?_
  rw [txsText_flat]
  show Lib.join _ _ = _
  unfold Lib.join
  exact intercalate_nil _

def txV (T : List TxD) (i : Nat) : Value := .string (txText (T.getD i (0, [], [])))

set_option maxRecDepth 10000 in
set_option maxHeartbeats 3200000 in
theorem printTxs_is (b off m c : Nat) (T : List TxD) (w : World) (hE : Env w) (hz : T.length = m) (hm : m ≤ 4) (hck : ∀ t ∈ T, chkTx t = 0) (hc : ∀ i (h : i < T.length), TxAt w b (off + i * 3) T[i]) :
    Calls Tryz.prog 87 #[.slice (some ⟨b, off, none⟩) m c] w fun e w' => e = .returned (.slice (some ⟨w.heap.size, 0, none⟩) m m) ∧ FillV w.heap.size 9 m (txV T) w w' m := by
  obtain ⟨i0, hi, hz0, hz1, hz2⟩ := info_parts Tryz.info9
  have HE := hide hE
  have HC := hide hc
  have HZ := hide hz
  have HK := hide hck
  clear hE hc hz hck
  go_enter Tryz.func87, Tryz.ntmps87
  go_wp2_with (at_make; refine wpList_make_full _ rfl _ _ 22 rfl w.heap.size 9 i0 (.string ⟨#[]⟩) 1 Tryz.underlying22 hi hz0 hz1 .i64 .i64 _ _ m rfl rfl rfl rfl (by rw [hz2]; omega) (by unfold maxLen; omega) (Nat.le_refl _) ?_; intro w2 hown2 hgrow2)
  have hst : FillV w.heap.size 9 m (txV T) w w2 0 := ⟨⟨_, hown2, fun j hj => absurd hj (by omega)⟩, (Below.refl _ _).grown hgrow2 (Nat.le_refl _) (fun k h => by cases h)⟩
  have HST := hide hst
  clear hst hown2 hgrow2
  go_loopw [11] (fun i wr => ∃ k : Nat, k ≤ m ∧ i = .int .i64 k ∧ FillV w.heap.size 9 m (txV T) w wr k) (fun i _ => m - (intOf i).toNat)
  case atStart => exact ⟨0, Nat.zero_le _, rfl, unhide HST⟩
  case round =>
    obtain ⟨k, hk, rfl, hfl⟩ := hrel
    have HF := hide hfl
    have hbw : Below w.heap.size w wr := hfl.bel
    have HBW := hide hbw
    by_cases hlt : k < m
    · have hlk : k < T.length := by rw [unhide HZ]; exact hlt
      have hin := TxAt.kept _ _ _ _ _ hbw ((unhide HC) k hlk)
      have hx := (unhide HK) T[k] (List.getElem_mem _)
      have HQ : Hid (T.getD k (0, [], []) = T[k]) := by show _ = _; simp [hlk]
      obtain ⟨t, ht⟩ : ∃ t, T[k] = t := ⟨_, rfl⟩
      rw [ht] at hin hx HQ
      obtain ⟨t1, I, O⟩ := t
      obtain ⟨g0, ⟨ai, ni, ci, g1, hI, sI⟩, ao, no, co, g2, hO, _⟩ := hin
      simp only at g0 g1 g2 hI hO
      obtain ⟨Y, hY⟩ : ∃ Y, Y = wr.alloc (.cells #[.int .i64 t1, .slice ai ni ci, .slice ao no co] 59) := ⟨_, rfl⟩
      have hbY : Below wr.heap.size wr Y := by rw [hY]; exact bel_new _ _
      have hY1 : Y.heap[wr.heap.size]? = some (.cells [.int .i64 t1, .slice ai ni ci, .slice ao no co].toArray 59 (0, 0)) := by rw [hY]; exact three_heap _ _ _ _ _
      have y0 := cell_of hY1 0 _ rfl
      have y1 := cell_of hY1 1 _ rfl
      have y2 := cell_of hY1 2 _ rfl
      have yl := lt_of_block hY1
      have PO := hide (txPrint_some t1 ai ao ni ci no co I O Y ((unhide HE).later (bel_on hbw hbY)) (hI.later hbY) (hO.later hbY) sI hx)
      obtain ⟨x, hxt⟩ : ∃ x, x = txText (t1, I, O) := ⟨_, rfl⟩
      rw [← hxt] at PO
      have HX := hide hxt
      have HBY := hide hbY
      clear hfl hbw ht hx hY1 hbY hI hO sI hxt
      go_wp2_with fail
      rw [← hY]
      clear hY
      go_wp2_with fail
      refine (unhide PO).mono ?_
      rintro e w3 ⟨rfl, hb3⟩
      have hf3 := ((unhide HF).keep (unhide HBY)).keep hb3
      obtain ⟨v, hold⟩ := hf3.old hlt
      have hfree := hf3.free k
      have hl3 := hf3.lt
      have HF3 := hide hf3
      clear hb3 hf3 y0 y1 y2 yl g0 g1 g2
      go_wp2
      go_roundw
      case rel =>
        refine ⟨k + 1, by omega, by go_num, (unhide HF3).step hlt ?_⟩
        show Value.string x = txV T k
        unfold txV
        rw [unhide HX, unhide HQ]
      case measure => simp [intOf]; omega
    · clear hfl hbw
      have e : k = m := by omega
      subst e
      clear hk hlt
      go_wp2
      go_ret
      exact ⟨rfl, unhide HF⟩

end Go.Proofs.YtmomfkikogbdeaaGreatDoor
