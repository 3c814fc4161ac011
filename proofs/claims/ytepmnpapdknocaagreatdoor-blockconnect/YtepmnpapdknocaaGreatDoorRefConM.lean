/- Mathematics of the reference's Connected: what it keeps of the fees, and what Connect asks of all together. -/
import Derived.Test.YtepmnpapdknocaaGreatDoorBlkConM
namespace Go.Proofs.YtepmnpapdknocaaGreatDoor
open Go.RowKit

theorem leftD_add (r : Int) (T : List TxD) (S : List (List CoinD)) (k : Nat) : leftD r T S k = r + leftD 0 T S k := by unfold leftD; omega
theorem leftD_set {r : Int} {T : List TxD} {S : List (List CoinD)} {k j : Nat} (s : List CoinD) (h : k ≤ j) : leftD r T (S.set j s) k = leftD r T S k := by
  unfold leftD
  rw [List.take_set_of_le h]
/-- What the reference keeps: the fees of the transactions that are done. -/
def FeesOk (T : List TxD) (S : List (List CoinD)) (m k : Nat) (F : Int) : Prop :=
  k < m → S.getD 0 [] = [] ∧ F = leftD 0 T S (k + 1) + sumO (T.getD 0 zeroT).2.2 ∧ -(6000000000 * (k : Int)) ≤ F ∧ F ≤ 6000000000 * (k : Int)
theorem fees_start {T : List TxD} {m : Nat} (hT : T.length = m) : FeesOk T (List.replicate m []) m 0 0 := by
  intro h
  refine ⟨by simp [List.getD, h], ?_, by omega, by omega⟩
  rw [leftD_succ 0 T _ 0 (by omega) (by simp; omega), leftD_zero]
  simp [sumC, List.getD, hT, h]
  omega
theorem fees_step {T : List TxD} {S : List (List CoinD)} {m k : Nat} {F : Int} {s : List CoinD} (hF : FeesOk T S m k F) (hk : k + 1 < m) (hT : T.length = m) (hS : S.length = m) {t : TxD} (ht : T.getD (k + 1) zeroT = t) (b1 : -6000000000 ≤ sumC s - sumO t.2.2) (b2 : sumC s - sumO t.2.2 ≤ 6000000000) : FeesOk T (S.set (k + 1) s) m (k + 1) (F + (sumC s - sumO t.2.2)) := by
  intro _
  obtain ⟨h0, h1, h2, h3⟩ := hF (by omega)
  refine ⟨?_, ?_, by omega, by omega⟩
  · rw [List.getD_eq_getElem?_getD, List.getElem?_set_ne (by omega), ← List.getD_eq_getElem?_getD]; exact h0
  · rw [leftD_succ 0 T _ (k + 1) (by omega) (by rw [List.length_set]; omega), leftD_set s (Nat.le_refl _)]
    have e1 : (S.set (k + 1) s)[k + 1]'(by rw [List.length_set]; omega) = s := by simp
    have e2 : T[k + 1]'(by omega) = t := by rw [← ht, List.getD_eq_getElem?_getD, List.getElem?_eq_getElem (by omega)]; rfl
    rw [e1, e2]
    omega
theorem fees_end {T : List TxD} {S : List (List CoinD)} {m k : Nat} {F r : Int} (hF : FeesOk T S m k F) (hk : k + 1 = m) : leftD r T S m < 0 ↔ r + F < sumO (T.getD 0 zeroT).2.2 := by
  obtain ⟨_, h1, _, _⟩ := hF (by omega)
  rw [leftD_add, ← hk]
  omega
theorem fees_last {T : List TxD} {S : List (List CoinD)} {m : Nat} {F : Int} : FeesOk T S m m F := fun h => absurd h (Nat.lt_irrefl _)
theorem fees_bd {T : List TxD} {S : List (List CoinD)} {m k : Nat} {F : Int} (hF : FeesOk T S m k F) (hk : k < m) (hm : m ≤ 4) : -24000000000 ≤ F ∧ F ≤ 24000000000 := by
  obtain ⟨_, _, h2, h3⟩ := hF hk
  omega
/-- Sums of few. -/
theorem sumO_few {O : List OutD} (h : O.length ≤ 6) (hb : ∀ x ∈ O, 0 ≤ x.1 ∧ x.1 ≤ 1000000000) : 0 ≤ sumO O ∧ sumO O ≤ 6000000000 := by
  have : ∀ (O : List OutD), (∀ x ∈ O, 0 ≤ x.1 ∧ x.1 ≤ 1000000000) → 0 ≤ sumO O ∧ sumO O ≤ 1000000000 * (O.length : Int) := by
    intro O
    induction O with
    | nil => intro _; simp [sumO]
    | cons a t ih =>
      intro hb
      have h1 := hb a (List.mem_cons_self ..)
      have h2 := ih (fun x hx => hb x (List.mem_cons_of_mem _ hx))
      have e : sumO (a :: t) = a.1 + sumO t := by simp [sumO]
      rw [e, List.length_cons]
      omega
  have := this O hb
  omega
theorem sumC_few {S : List CoinD} (h : S.length ≤ 6) (hb : ∀ x ∈ S, 0 ≤ cv x ∧ cv x ≤ 1000000000) : 0 ≤ sumC S ∧ sumC S ≤ 6000000000 := by
  have : ∀ (O : List CoinD), (∀ x ∈ O, 0 ≤ cv x ∧ cv x ≤ 1000000000) → 0 ≤ sumC O ∧ sumC O ≤ 1000000000 * (O.length : Int) := by
    intro O
    induction O with
    | nil => intro _; simp [sumC]
    | cons a t ih =>
      intro hb
      have h1 := hb a (List.mem_cons_self ..)
      have h2 := ih (fun x hx => hb x (List.mem_cons_of_mem _ hx))
      have e : sumC (a :: t) = cv a + sumC t := by simp [sumC]
      rw [e, List.length_cons]
      omega
  have := this S hb
  omega
/-- Behind Applied: its answers, and the box that holds what was spent. -/
def CoS (g0 : Nat) (W Y : World) (bx : Nat) (am : Option Addr) (nm cm : Nat) (M : List CoinD) (sa : Option Addr) (ns cs : Nat) (s : List CoinD) : Prop :=
  Below W.heap.size W Y ∧ CoinsAt Y am nm M ∧ SlOk am nm cm ∧ CoinsAt Y sa ns s ∧ SlOk sa ns cs ∧ bx ≠ g0 ∧ Y.heap[bx]? = some (.cells [.slice sa ns cs].toArray 68 (0, 0))
theorem cos_make {g0 : Nat} {W w6 : World} {bx : Nat} {am : Option Addr} {nm cm : Nat} {M : List CoinD} {sa : Option Addr} {ns cs : Nat} {s : List CoinD} (hb : Below W.heap.size W w6) (hbx : W.heap.size ≤ bx) (hg0 : g0 < W.heap.size) (hbox : w6.heap[bx]? = some (.cells [.slice none 0 0].toArray 68 (0, 0))) (hM : CoinsAt w6 am nm M) (sM : SlOk am nm cm) (hS : CoinsAt w6 sa ns s) (sS : SlOk sa ns cs) : CoS g0 W (w6.setCell ⟨bx, 0, none⟩ (.slice sa ns cs)) bx am nm cm M sa ns cs s := by
  have ok : UsOk 68 bx 1 w6 := ⟨[.slice none 0 0], hbox, rfl, fun v hv => by rw [List.mem_singleton.1 hv]; exact ⟨_, _, _, rfl⟩⟩
  have g := (Gr.refl w6 (fun q => q = bx)).one bx 0 (.inl rfl) (.slice sa ns cs)
  exact ⟨hb.setCell hbx _, coins_gr hM ok g, sM, coins_gr hS ok g, sS, by omega, us_set hbox 0 _⟩

end Go.Proofs.YtepmnpapdknocaaGreatDoor
