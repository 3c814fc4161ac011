/- The contract of spend: in by in a coin is taken, if it is ripe and its lock opens. -/
import Derived.Test.YtepmnpapdknocaaGreatDoorCoinPut
import Derived.Test.YtepmnpapdknocaaGreatDoorCoinDo
import Derived.Test.YtepmnpapdknocaaGreatDoorLockOpen
namespace Go.Proofs.YtepmnpapdknocaaGreatDoor
open Go.RowKit

def zeroCV : CV := ((0, 0, 0, [], 0, false), none, 0, 0)
theorem flatC_mid_at (T R : List CV) (z : CV) (j : Nat) (hj : j < 6) : (flatC (T ++ z :: R))[T.length * 6 + j]? = (sixV z)[j]? := by
  rw [flatC_append, List.getElem?_append_right (by rw [flatC_len]; omega), flatC_len, Nat.add_sub_cancel_left, show z :: R = [z] ++ R from rfl, flatC_append, List.getElem?_append_left (by rw [flatC_len]; simpa using hj), flat_six]
theorem flatC_mid_set (T R : List CV) (z y : CV) : ((((((flatC (T ++ z :: R)).set (T.length * 6) (.int .i64 y.1.1)).set (T.length * 6 + 1) (.int .i64 y.1.2.1)).set (T.length * 6 + 2) (.int .i64 (cv y.1))).set (T.length * 6 + 3) (.slice y.2.1 y.2.2.1 y.2.2.2)).set (T.length * 6 + 4) (.int .i64 (ch y.1))).set (T.length * 6 + 5) (.bool (cr y.1)) = flatC (T ++ y :: R) := by
  rw [flatC_append, flatC_append]
  have e := flatC_len T
  rw [← e]
  simp only [flatC, List.set_append_right _ _ (Nat.le_refl _), List.set_append_right _ _ (Nat.le_add_right _ _), Nat.sub_self, Nat.add_sub_cancel_left, List.set_cons_zero, List.set_cons_succ]
theorem made_zero (n : Nat) : (madeCells zeroC.cells (n * 6)).toList = flatC (List.replicate n zeroCV) := by
  apply List.ext_getElem?
  intro j
  by_cases hj : j < n * 6
  · obtain ⟨f0, f1, f2, f3, f4, f5⟩ := flatC_at (List.replicate n zeroCV) (j / 6) (by rw [List.length_replicate]; omega)
    rw [List.getElem_replicate] at f0 f1 f2 f3 f4 f5
    have hz : zeroC.cells = zeroCs.toArray := rfl
    have hL : (madeCells zeroC.cells (n * 6)).toList[j]? = zeroCs[j % 6]? := by
      have hs : zeroCs.length = 6 := rfl
      have h6 : j % 6 < 6 := by omega
      simp [madeCells, hj, hz, hs, h6]
    rw [hL]
    obtain ⟨i, r, rfl, hr⟩ : ∃ i r, j = i * 6 + r ∧ r < 6 := ⟨j / 6, j % 6, by omega, by omega⟩
    rw [show (i * 6 + r) / 6 = i by omega] at f0 f1 f2 f3 f4 f5
    rw [show (i * 6 + r) % 6 = r by omega]
    match r, hr with
    | 0, _ => exact f0.symm
    | 1, _ => exact f1.symm
    | 2, _ => exact f2.symm
    | 3, _ => exact f3.symm
    | 4, _ => exact f4.symm
    | 5, _ => exact f5.symm
  · rw [List.getElem?_eq_none (by simp [madeCells]; omega), List.getElem?_eq_none (by rw [flatC_len, List.length_replicate]; omega)]

theorem stored6 {w : World} {base g n c : Nat} {xs : List Value} (h : w.ownsRow base 88 6 (.slice (some ⟨g, 0, none⟩) n c) n xs) (b : Nat) (a0 a1 a2 a3 a4 a5 : Value) :
    ((((((w.setCell ⟨g, b, none⟩ a0).setCell ⟨g, b + 1, none⟩ a1).setCell ⟨g, b + 2, none⟩ a2).setCell ⟨g, b + 3, none⟩ a3).setCell ⟨g, b + 4, none⟩ a4).setCell ⟨g, b + 5, none⟩ a5).ownsRow base 88 6 (.slice (some ⟨g, 0, none⟩) n c) n ((((((xs.set b a0).set (b + 1) a1).set (b + 2) a2).set (b + 3) a3).set (b + 4) a4).set (b + 5) a5) :=
  ((((((h.stored b a0).1.stored (b + 1) a1).1.stored (b + 2) a2).1.stored (b + 3) a3).1.stored (b + 4) a4).1.stored (b + 5) a5).1
theorem Gr.sixAt {w w1 : World} {S : Nat → Prop} (h : Gr w w1 S) (b i : Nat) (hb : S b ∨ w.heap.size ≤ b) (a0 a1 a2 a3 a4 a5 : Value) : Gr w ((((((w1.setCell ⟨b, i, none⟩ a0).setCell ⟨b, i + 1, none⟩ a1).setCell ⟨b, i + 2, none⟩ a2).setCell ⟨b, i + 3, none⟩ a3).setCell ⟨b, i + 4, none⟩ a4).setCell ⟨b, i + 5, none⟩ a5) S :=
  (((((h.one b i hb a0).one b (i + 1) hb a1).one b (i + 2) hb a2).one b (i + 3) hb a3).one b (i + 4) hb a4).one b (i + 5) hb a5

theorem spendGo_none (h : Int) (I : List InD) (k : Nat) (hk : k < I.length) (S L : List CoinD) (ht : takeD (I[k].1, I[k].2.1) L = none) : spendGo h (I.drop k) S L = (7, [], []) := by
  rw [List.drop_eq_getElem_cons hk, spendGo, ht]
theorem spendGo_late (h : Int) (I : List InD) (k : Nat) (hk : k < I.length) (S L M : List CoinD) (c : CoinD) (ht : takeD (I[k].1, I[k].2.1) L = some (c, M)) (hl : cr c = true ∧ h < ch c + 2) : spendGo h (I.drop k) S L = (10, [], []) := by
  rw [List.drop_eq_getElem_cons hk, spendGo, ht]; simp only; rw [if_pos hl]
theorem spendGo_key (h : Int) (I : List InD) (k : Nat) (hk : k < I.length) (S L M : List CoinD) (c : CoinD) (ht : takeD (I[k].1, I[k].2.1) L = some (c, M)) (hl : ¬ (cr c = true ∧ h < ch c + 2)) (ho : opensB (ck c) I[k].2.2 h = false) : spendGo h (I.drop k) S L = (8, [], []) := by
  rw [List.drop_eq_getElem_cons hk, spendGo, ht]; simp only; rw [if_neg hl, if_pos ho]
theorem spendGo_on (h : Int) (I : List InD) (k : Nat) (hk : k < I.length) (S L M : List CoinD) (c : CoinD) (ht : takeD (I[k].1, I[k].2.1) L = some (c, M)) (hl : ¬ (cr c = true ∧ h < ch c + 2)) (ho : opensB (ck c) I[k].2.2 h = true) : spendGo h (I.drop k) S L = spendGo h (I.drop (k + 1)) (S ++ [c]) M := by
  rw [List.drop_eq_getElem_cons hk, spendGo, ht]; simp only; rw [if_neg hl, if_neg (by rw [ho]; decide)]
theorem spendGo_end (h : Int) (I : List InD) (k : Nat) (hk : I.length ≤ k) (S L : List CoinD) : spendGo h (I.drop k) S L = (0, S, L) := by
  rw [List.drop_of_length_le hk, spendGo]
theorem takeD_srt {q : PtD} {L M : List CoinD} {c : CoinD} (h : takeD q L = some (c, M)) (hs : Srt L) : Srt M := by
  rw [(takeD_some h).2.2]; exact hs.filter _
theorem opensB_E {l k : List (Int × Int)} {h : Int} (q : opensB l k h = true) : opensE l k h = 0 := by
  unfold opensB at q
  rw [Bool.and_eq_true, decide_eq_true_eq] at q
  exact q.1
theorem opens_at (a ak : Option Addr) (len cap lenk capk : Nat) (l k : List (Int × Int)) (h : Int) (b : Bool) (x : Int) (w : World) (hO : OpsAt w a len l) (hK : OpsAt w ak lenk k) (hb : opensB l k h = b) (hx : opensE l k h = x) :
    Calls Tryz.prog 113 #[.slice a len cap, .slice ak lenk capk, .int .i64 h] w fun e w' => e = .returned (.tuple #[.bool b, .int .i64 x]) ∧ Below w.heap.size w w' := by
  subst hb hx; exact opens_any a ak len cap lenk capk l k h w hO hK

end Go.Proofs.YtepmnpapdknocaaGreatDoor
