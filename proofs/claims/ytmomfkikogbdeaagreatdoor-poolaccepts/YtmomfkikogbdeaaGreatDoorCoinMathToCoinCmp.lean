/- Coins as plain data: their order, what is wrong with some, one taken, one put. Nothing of the program. -/
import Derived.Test.YtmomfkikogbdeaaGreatDoorLockMathToLockIn
import Derived.Test.YtmomfkikogbdeaaGreatDoorLockCheckToLockFill
import Derived.Deep.RegionHeld3
namespace Go.Proofs.YtmomfkikogbdeaaGreatDoor

/-- A coin: its transaction's name, its place, how much, its lock, its height, whether it is of a reward. -/
abbrev CoinD := Int × Int × Int × List (Int × Int) × Int × Bool
abbrev PtD := Int × Int
def pt (c : CoinD) : PtD := (c.1, c.2.1)
def cv (c : CoinD) : Int := c.2.2.1
def ck (c : CoinD) : List (Int × Int) := c.2.2.2.1
def ch (c : CoinD) : Int := c.2.2.2.2.1
def cr (c : CoinD) : Bool := c.2.2.2.2.2

def lt (p q : PtD) : Bool := decide (p.1 < q.1) || (decide (p.1 = q.1) && decide (p.2 < q.2))
theorem lt_iff (p q : PtD) : lt p q = true ↔ p.1 < q.1 ∨ p.1 = q.1 ∧ p.2 < q.2 := by simp [lt]
theorem lt_irrefl (p : PtD) : lt p p = false := by
  rw [← Bool.not_eq_true, lt_iff]; omega
theorem lt_trans {p q r : PtD} (h1 : lt p q = true) (h2 : lt q r = true) : lt p r = true := by
  rw [lt_iff] at *; omega
theorem lt_asymm {p q : PtD} (h1 : lt p q = true) : lt q p = false := by
  rw [← Bool.not_eq_true, lt_iff]; rw [lt_iff] at h1; omega
theorem lt_tri (p q : PtD) : lt p q = true ∨ p = q ∨ lt q p = true := by
  rw [lt_iff, lt_iff, Prod.ext_iff]; omega
theorem lt_ne {p q : PtD} (h : lt p q = true) : p ≠ q := fun e => by
  subst e; rw [lt_irrefl] at h; exact Bool.noConfusion h

/-- How two points stand: -1, 0, 1. -/
def cmpP (p q : PtD) : Int := if lt p q then -1 else if p = q then 0 else 1
theorem cmpP_lt {p q : PtD} : cmpP p q < 0 ↔ lt p q = true := by
  unfold cmpP; split
  · simp [*]
  · split
    · rename_i h e; subst e; simp [lt_irrefl]
    · simp [*]
theorem cmpP_eq {p q : PtD} : cmpP p q = 0 ↔ p = q := by
  unfold cmpP; split
  · rename_i h; simp [lt_ne h]
  · split <;> simp [*]

def Srt (L : List CoinD) : Prop := L.Pairwise fun a b => lt (pt a) (pt b) = true

theorem Srt.tail {c : CoinD} {L : List CoinD} (h : Srt (c :: L)) : Srt L := (List.pairwise_cons.1 h).2
theorem Srt.head {c : CoinD} {L : List CoinD} (h : Srt (c :: L)) : ∀ x ∈ L, lt (pt c) (pt x) = true := (List.pairwise_cons.1 h).1
theorem Srt.inj {L : List CoinD} (h : Srt L) : ∀ {x y : CoinD}, x ∈ L → y ∈ L → pt x = pt y → x = y := by
  induction L with
  | nil => intro x y hx; cases hx
  | cons c L ih =>
    intro x y hx hy e
    rcases List.mem_cons.1 hx with rfl | hx <;> rcases List.mem_cons.1 hy with rfl | hy
    · rfl
    · exact absurd e (lt_ne (h.head y ‹y ∈ L›))
    · exact absurd e.symm (lt_ne (h.head x ‹x ∈ L›))
    · exact ih h.tail hx hy e
/-- Lists in order that have the same coins are the same. -/
theorem Srt.ext : ∀ {L M : List CoinD}, Srt L → Srt M → (∀ x, x ∈ L ↔ x ∈ M) → L = M
  | [], [], _, _, _ => rfl
  | [], c :: M, _, _, h => absurd ((h c).2 (List.mem_cons_self ..)) (by simp)
  | c :: L, [], _, _, h => absurd ((h c).1 (List.mem_cons_self ..)) (by simp)
  | c :: L, d :: M, h1, h2, h => by
    have e : c = d := by
      rcases List.mem_cons.1 ((h c).1 (List.mem_cons_self ..)) with e | e
      · exact e
      rcases List.mem_cons.1 ((h d).2 (List.mem_cons_self ..)) with f | f
      · exact f.symm
      · have g := lt_asymm (h2.head _ e)
        rw [h1.head _ f] at g
        exact Bool.noConfusion g
    subst e
    rw [Srt.ext h1.tail h2.tail fun x => ⟨fun hx => ?_, fun hx => ?_⟩]
    · rcases List.mem_cons.1 ((h x).1 (List.mem_cons_of_mem _ hx)) with rfl | q
      · exact absurd rfl (lt_ne (h1.head _ hx))
      · exact q
    · rcases List.mem_cons.1 ((h x).2 (List.mem_cons_of_mem _ hx)) with rfl | q
      · exact absurd rfl (lt_ne (h2.head _ hx))
      · exact q

/-! What is wrong with coins. -/
def okPt (p : PtD) : Bool := (decide (1 ≤ p.1) && decide (p.1 ≤ 120)) && (decide (0 ≤ p.2) && decide (p.2 ≤ 5))
def okV (n : Int) : Bool := decide (1 ≤ n) && decide (n ≤ 1000000000)
def okH (n : Int) : Bool := decide (1 ≤ n) && decide (n ≤ 1000)
def okC (c : CoinD) : Bool := okPt (pt c) && (okV (cv c) && okH (ch c))
def ck1 (c : CoinD) : Int := if okC c = false then 3 else chk (ck c)
theorem ck1_zero {c : CoinD} (h : ck1 c = 0) : 1 ≤ c.1 ∧ c.1 ≤ 120 ∧ 0 ≤ c.2.1 ∧ c.2.1 ≤ 5 ∧ 1 ≤ cv c ∧ cv c ≤ 1000000000 ∧ 1 ≤ ch c ∧ ch c ≤ 1000 ∧ chk (ck c) = 0 := by
  unfold ck1 at h
  split at h
  · cases h
  · rename_i q
    simp only [Bool.not_eq_false, okC, okPt, okV, okH, pt, Bool.and_eq_true, decide_eq_true_eq] at q
    exact ⟨of_decide_eq_true q.1.1.1, of_decide_eq_true q.1.1.2, of_decide_eq_true q.1.2.1, of_decide_eq_true q.1.2.2, q.2.1.1, q.2.1.2, q.2.2.1, q.2.2.2, h⟩
def above (p : Option PtD) (c : CoinD) : Bool := match p with | none => true | some p => lt p (pt c)
def ckGo : Option PtD → Int → List CoinD → Int
  | _, _, [] => 0
  | p, s, c :: r => if ck1 c ≠ 0 then ck1 c else if above p c = false then 6 else if 1000000000 < s + cv c then 12 else ckGo (some (pt c)) (s + cv c) r
def ckCoins (L : List CoinD) : Int := if 720 < L.length then 2 else ckGo none 0 L

def prevP (L : List CoinD) (k : Nat) : Option PtD := if k = 0 then none else (L[k - 1]?).map pt
def sumC (L : List CoinD) : Int := (L.map cv).sum
def sumO (L : List OutD) : Int := (L.map (·.1)).sum
theorem sumC_nil : sumC [] = 0 := rfl
theorem sumC_cons (c : CoinD) (L : List CoinD) : sumC (c :: L) = cv c + sumC L := by simp [sumC]
theorem sumC_append (L M : List CoinD) : sumC (L ++ M) = sumC L + sumC M := by simp [sumC]
theorem sumC_take (L : List CoinD) (k : Nat) (h : k < L.length) : sumC (L.take (k + 1)) = sumC (L.take k) + cv L[k] := by
  rw [List.take_succ_eq_append_getElem h, sumC_append, sumC_cons, sumC_nil]; omega
theorem sumO_take (L : List OutD) (k : Nat) (h : k < L.length) : sumO (L.take (k + 1)) = sumO (L.take k) + L[k].1 := by
  rw [List.take_succ_eq_append_getElem h]; unfold sumO; rw [List.map_append, List.sum_append]; simp
theorem prevP_succ (L : List CoinD) (k : Nat) (h : k < L.length) : prevP L (k + 1) = some (pt L[k]) := by
  unfold prevP; rw [if_neg (by omega)]; simp [h]

theorem ckGo_at (L : List CoinD) (k : Nat) (h : k < L.length) (p : Option PtD) (s : Int) : ckGo p s (L.drop k) = if ck1 L[k] ≠ 0 then ck1 L[k] else if above p L[k] = false then 6 else if 1000000000 < s + cv L[k] then 12 else ckGo (some (pt L[k])) (s + cv L[k]) (L.drop (k + 1)) := by
  rw [List.drop_eq_getElem_cons h, ckGo]
theorem ckGo_end (L : List CoinD) (k : Nat) (h : L.length ≤ k) (p : Option PtD) (s : Int) : ckGo p s (L.drop k) = 0 := by
  rw [List.drop_of_length_le h, ckGo]
theorem ckGo_bad {c : CoinD} {r : List CoinD} {p : Option PtD} {s : Int} (h : ck1 c ≠ 0) : ckGo p s (c :: r) = ck1 c := by rw [ckGo, if_pos h]
theorem ckGo_twice {c : CoinD} {r : List CoinD} {p : Option PtD} {s : Int} (h : ck1 c = 0) (h2 : above p c = false) : ckGo p s (c :: r) = 6 := by
  rw [ckGo, if_neg (by rw [h]; decide), if_pos h2]
theorem ckGo_full {c : CoinD} {r : List CoinD} {p : Option PtD} {s : Int} (h : ck1 c = 0) (h2 : above p c = true) (h3 : 1000000000 < s + cv c) : ckGo p s (c :: r) = 12 := by
  rw [ckGo, if_neg (by rw [h]; decide), if_neg (by rw [h2]; decide), if_pos h3]
theorem ckGo_on {c : CoinD} {r : List CoinD} {p : Option PtD} {s : Int} (h : ck1 c = 0) (h2 : above p c = true) (h3 : ¬ 1000000000 < s + cv c) : ckGo p s (c :: r) = ckGo (some (pt c)) (s + cv c) r := by
  rw [ckGo, if_neg (by rw [h]; decide), if_neg (by rw [h2]; decide), if_neg h3]

theorem sumC_nonneg : ∀ (L : List CoinD), (∀ c ∈ L, 0 ≤ cv c) → 0 ≤ sumC L
  | [], _ => Int.le_refl _
  | c :: r, h => by
    rw [sumC_cons]
    have h1 := h c (List.mem_cons_self ..)
    have h2 := sumC_nonneg r fun x hx => h x (List.mem_cons_of_mem _ hx)
    omega
/-- Right coins: each is right, they stand in order, and all are not too much. -/
theorem ckGo_zero : ∀ (L : List CoinD) (p : Option PtD) (s : Int), 0 ≤ s → s ≤ 1000000000 → (ckGo p s L = 0 ↔ (∀ c ∈ L, ck1 c = 0) ∧ Srt L ∧ (∀ c ∈ L, above p c = true) ∧ s + sumC L ≤ 1000000000)
  | [], p, s, _, h => by simp [ckGo, Srt, sumC, h]
  | c :: r, p, s, h0, h => by
    by_cases h1 : ck1 c = 0
    · have hv : 1 ≤ cv c := (ck1_zero h1).2.2.2.2.1
      cases h2 : above p c with
      | false =>
        rw [ckGo_twice h1 h2]
        refine ⟨fun e => (by cases e), fun e => ?_⟩
        have := e.2.2.1 c (List.mem_cons_self ..)
        rw [h2] at this; exact Bool.noConfusion this
      | true =>
        by_cases h3 : 1000000000 < s + cv c
        · rw [ckGo_full h1 h2 h3]
          refine ⟨fun e => (by cases e), fun e => ?_⟩
          have h4 : 0 ≤ sumC r := sumC_nonneg r fun x hx => by
            have := (ck1_zero (e.1 x (List.mem_cons_of_mem _ hx))).2.2.2.2.1
            omega
          have h5 := e.2.2.2
          rw [sumC_cons] at h5
          omega
        · rw [ckGo_on h1 h2 h3, ckGo_zero r (some (pt c)) (s + cv c) (by omega) (by omega), sumC_cons]
          constructor
          · rintro ⟨a1, a2, a3, a4⟩
            refine ⟨fun x hx => ?_, List.pairwise_cons.2 ⟨fun x hx => a3 x hx, a2⟩, fun x hx => ?_, by omega⟩
            · rcases List.mem_cons.1 hx with rfl | hx
              · exact h1
              · exact a1 x hx
            · rcases List.mem_cons.1 hx with rfl | hx
              · exact h2
              · cases p with
                | none => rfl
                | some p => exact lt_trans h2 (a3 x hx)
          · rintro ⟨a1, a2, a3, a4⟩
            exact ⟨fun x hx => a1 x (List.mem_cons_of_mem _ hx), Srt.tail a2, fun x hx => Srt.head a2 x hx, by omega⟩
    · rw [ckGo_bad h1]
      exact ⟨fun e => absurd e h1, fun e => absurd (e.1 c (List.mem_cons_self ..)) h1⟩

structure RightC (L : List CoinD) : Prop where
  len : L.length ≤ 720
  one : ∀ c ∈ L, ck1 c = 0
  srt : Srt L
  sum : sumC L ≤ 1000000000

theorem ckCoins_zero (L : List CoinD) : ckCoins L = 0 ↔ RightC L := by
  unfold ckCoins
  by_cases h : 720 < L.length
  · rw [if_pos h]; exact ⟨fun e => (by cases e), fun e => absurd e.len (by omega)⟩
  · rw [if_neg h, ckGo_zero L none 0 (by omega) (by omega)]
    exact ⟨fun ⟨a, b, _, c⟩ => ⟨by omega, a, b, by omega⟩, fun e => ⟨e.one, e.srt, fun _ _ => rfl, by have := e.sum; omega⟩⟩

/-! One taken, one put. -/
/-- How many stand ahead of a point. -/
def pos (p : PtD) (L : List CoinD) : Nat := L.countP fun c => lt (pt c) p
def hasP (p : PtD) (L : List CoinD) : Bool := L.any fun c => decide (pt c = p)
def takeD (p : PtD) (L : List CoinD) : Option (CoinD × List CoinD) :=
  match L.find? (fun c => decide (pt c = p)) with | none => none | some c => some (c, L.filter fun c => decide (pt c ≠ p))
def putC (c : CoinD) (L : List CoinD) : List CoinD := L.filter (fun x => lt (pt x) (pt c)) ++ c :: L.filter fun x => lt (pt c) (pt x)

theorem Srt.filter {L : List CoinD} (h : Srt L) (f : CoinD → Bool) : Srt (L.filter f) := List.Pairwise.filter f h
theorem hasP_iff (p : PtD) (L : List CoinD) : hasP p L = true ↔ ∃ c ∈ L, pt c = p := by simp [hasP]
theorem putC_srt {c : CoinD} {L : List CoinD} (h : Srt L) : Srt (putC c L) := by
  unfold putC Srt
  rw [List.pairwise_append]
  refine ⟨h.filter _, List.pairwise_cons.2 ⟨fun x hx => (List.mem_filter.1 hx).2, h.filter _⟩, fun a ha b hb => ?_⟩
  have h1 := (List.mem_filter.1 ha).2
  rcases List.mem_cons.1 hb with rfl | hb
  · exact h1
  · exact lt_trans h1 (List.mem_filter.1 hb).2
theorem pos_split {p : PtD} : ∀ {L : List CoinD}, Srt L → L.take (pos p L) = L.filter (fun x => lt (pt x) p) ∧ L.drop (pos p L) = L.filter (fun x => !lt (pt x) p)
  | [], _ => by simp [pos]
  | c :: L, h => by
    obtain ⟨h1, h2⟩ := pos_split (p := p) h.tail
    unfold pos at *
    cases hc : lt (pt c) p with
    | true =>
      rw [List.countP_cons_of_pos (by simpa using hc), List.filter_cons_of_pos (by simpa using hc), List.filter_cons_of_neg (by simp [hc]), List.take_succ_cons, List.drop_succ_cons, h1, h2]
      exact ⟨rfl, rfl⟩
    | false =>
      have h3 : ∀ x ∈ L, lt (pt x) p = false := fun x hx => by
        rw [← Bool.not_eq_true]
        intro q
        rw [lt_trans (h.head x hx) q] at hc
        exact Bool.noConfusion hc
      have e : (c :: L).countP (fun c => lt (pt c) p) = 0 := by
        rw [List.countP_eq_zero]
        intro x hx
        rcases List.mem_cons.1 hx with rfl | hx
        · simp [hc]
        · simp [h3 x hx]
      rw [e, List.take_zero, List.drop_zero]
      constructor
      · symm; rw [List.filter_eq_nil_iff]
        intro x hx
        rcases List.mem_cons.1 hx with rfl | hx
        · simp [hc]
        · simp [h3 x hx]
      · symm; rw [List.filter_eq_self]
        intro x hx
        rcases List.mem_cons.1 hx with rfl | hx
        · simp [hc]
        · simp [h3 x hx]
theorem pos_le (p : PtD) (L : List CoinD) : pos p L ≤ L.length := List.countP_le_length ..

/-- What is found at its place is the coin of the point; there is one just if it stands there. -/
theorem hasP_pos {p : PtD} {L : List CoinD} (h : Srt L) : hasP p L = (decide (pos p L < L.length) && decide ((L[pos p L]?).map pt = some p)) := by
  obtain ⟨h1, h2⟩ := pos_split (p := p) h
  rw [Bool.eq_iff_iff, hasP_iff, Bool.and_eq_true, decide_eq_true_eq, decide_eq_true_eq]
  constructor
  · rintro ⟨c, hc, e⟩
    have hd : c ∈ L.drop (pos p L) := by rw [h2, List.mem_filter]; exact ⟨hc, by rw [e, lt_irrefl]; rfl⟩
    have hl : pos p L < L.length := by
      rcases Nat.lt_or_ge (pos p L) L.length with q | q
      · exact q
      · rw [List.drop_of_length_le q] at hd; cases hd
    refine ⟨hl, ?_⟩
    have hs : Srt (L.drop (pos p L)) := by rw [h2]; exact h.filter _
    rw [List.drop_eq_getElem_cons hl] at hd hs
    rw [List.getElem?_eq_getElem hl, Option.map_some]
    rcases List.mem_cons.1 hd with rfl | q
    · rw [e]
    · have g := hs.head c q
      have h3 : L[pos p L] ∈ L.drop (pos p L) := by rw [List.drop_eq_getElem_cons hl]; exact List.mem_cons_self ..
      rw [h2, List.mem_filter] at h3
      rw [e] at g
      rw [g] at h3
      exact absurd h3.2 (by decide)
  · rintro ⟨hl, e⟩
    rw [List.getElem?_eq_getElem hl, Option.map_some, Option.some.injEq] at e
    exact ⟨L[pos p L], List.getElem_mem hl, e⟩

theorem takeD_none {p : PtD} {L : List CoinD} (h : hasP p L = false) : takeD p L = none := by
  unfold takeD
  have : L.find? (fun c => decide (pt c = p)) = none := by
    rw [List.find?_eq_none]
    intro x hx
    rw [← Bool.not_eq_true, hasP_iff] at h
    simp only [decide_eq_true_eq]
    exact fun e => h ⟨x, hx, e⟩
  rw [this]
theorem takeD_mem {p : PtD} {L : List CoinD} (h : Srt L) {c : CoinD} (hc : c ∈ L) (e : pt c = p) : takeD p L = some (c, L.filter fun c => decide (pt c ≠ p)) := by
  unfold takeD
  have : L.find? (fun c => decide (pt c = p)) = some c := by
    cases q : L.find? (fun c => decide (pt c = p)) with
    | none => rw [List.find?_eq_none] at q; exact absurd (decide_eq_true e) (q c hc)
    | some d =>
      have h1 := List.find?_some q
      have h2 := List.mem_of_find?_eq_some q
      simp only [decide_eq_true_eq] at h1
      rw [h.inj h2 hc (by rw [h1, e])]
  rw [this]
theorem takeD_some {p : PtD} {L M : List CoinD} {c : CoinD} (h : takeD p L = some (c, M)) : c ∈ L ∧ pt c = p ∧ M = L.filter fun c => decide (pt c ≠ p) := by
  unfold takeD at h
  split at h
  · cases h
  · rename_i d q
    simp only [Option.some.injEq, Prod.mk.injEq] at h
    obtain ⟨rfl, rfl⟩ := h
    have h1 := List.find?_some q
    simp only [decide_eq_true_eq] at h1
    exact ⟨List.mem_of_find?_eq_some q, h1, rfl⟩
/-- As the program takes it: at its place. -/
theorem takeD_at {p : PtD} {L : List CoinD} (h : Srt L) (hl : pos p L < L.length) (e : pt L[pos p L] = p) : takeD p L = some (L[pos p L], L.take (pos p L) ++ L.drop (pos p L + 1)) := by
  rw [takeD_mem h (List.getElem_mem hl) e]
  obtain ⟨h1, h2⟩ := pos_split (p := p) h
  have h3 := List.drop_eq_getElem_cons hl
  rw [h2] at h3
  have hs : Srt (L[pos p L] :: L.drop (pos p L + 1)) := by rw [← h3]; exact h.filter _
  have e1 : L.filter (fun c => decide (pt c ≠ p)) = L.take (pos p L) ++ L.drop (pos p L + 1) := by
    have e2 : L = L.take (pos p L) ++ (L[pos p L] :: L.drop (pos p L + 1)) := by rw [← List.drop_eq_getElem_cons hl, List.take_append_drop]
    have e3 : L.filter (fun c => decide (pt c ≠ p)) = (L.take (pos p L) ++ (L[pos p L] :: L.drop (pos p L + 1))).filter (fun c => decide (pt c ≠ p)) := congrArg _ e2
    rw [e3, List.filter_append, List.filter_cons_of_neg (by simp [e])]
    congr 1
    · rw [List.filter_eq_self]
      intro x hx
      rw [h1, List.mem_filter] at hx
      exact decide_eq_true (lt_ne hx.2)
    · rw [List.filter_eq_self]
      intro x hx
      have := hs.head x hx
      rw [e] at this
      exact decide_eq_true (Ne.symm (lt_ne this))
  rw [e1]
theorem putC_at {c : CoinD} {L : List CoinD} (h : Srt L) (hn : hasP (pt c) L = false) : putC c L = L.take (pos (pt c) L) ++ c :: L.drop (pos (pt c) L) := by
  obtain ⟨h1, h2⟩ := pos_split (p := pt c) h
  unfold putC
  rw [h1, h2]
  congr 2
  refine List.filter_congr fun x hx => ?_
  rw [Bool.eq_iff_iff]
  rcases lt_tri (pt x) (pt c) with q | q | q
  · simp [q, lt_asymm q]
  · rw [← Bool.not_eq_true, hasP_iff] at hn
    exact absurd ⟨x, hx, q⟩ hn
  · simp [q, lt_asymm q]

end Go.Proofs.YtmomfkikogbdeaaGreatDoor

/- Coins in memory: rows of records of six cells, whose slices lead on to orders. -/
namespace Go.Proofs.YtmomfkikogbdeaaGreatDoor
open Go.RowKit

/-- A coin's cells, its lock's slice given. -/
def cnV (x : CoinD) (a : Option Addr) (n c : Nat) : Value := .agg #[.int .i64 x.1, .int .i64 x.2.1, .int .i64 (cv x), .slice a n c, .int .i64 (ch x), .bool (cr x)]
def CoinAt (w : World) (b o : Nat) (x : CoinD) : Prop :=
  w.cell? ⟨b, o, none⟩ = some (.int .i64 x.1) ∧ w.cell? ⟨b, o + 1, none⟩ = some (.int .i64 x.2.1) ∧ w.cell? ⟨b, o + 2, none⟩ = some (.int .i64 (cv x)) ∧
  (∃ a n c, w.cell? ⟨b, o + 3, none⟩ = some (.slice a n c) ∧ OpsAt w a n (ck x) ∧ SlOk a n c) ∧
  w.cell? ⟨b, o + 4, none⟩ = some (.int .i64 (ch x)) ∧ w.cell? ⟨b, o + 5, none⟩ = some (.bool (cr x))
theorem CoinAt.kept : KeptR CoinAt := fun _ _ _ _ _ hb h => by
  obtain ⟨h1, h2, h3, ⟨a, n, c, h4, h5, h6⟩, h7, h8⟩ := h
  exact ⟨cell_later hb h1, cell_later hb h2, cell_later hb h3, ⟨a, n, c, cell_later hb h4, h5.later hb, h6⟩, cell_later hb h7, cell_later hb h8⟩
def CoinsAt (w : World) (a : Option Addr) (len : Nat) (l : List CoinD) : Prop := RowsAt CoinAt 6 w a len l
theorem CoinsAt.later {w w' : World} {a : Option Addr} {len : Nat} {l : List CoinD} (h : CoinsAt w a len l) (hb : Below w.heap.size w w') : CoinsAt w' a len l := RowsAt.later CoinAt.kept h hb

theorem six_new (w : World) (a b c d e f : Value) (t : TypeId) : (w.alloc (.cells #[a, b, c, d, e, f] t)).cell? ⟨w.heap.size, 0, none⟩ = some a ∧ (w.alloc (.cells #[a, b, c, d, e, f] t)).cell? ⟨w.heap.size, 1, none⟩ = some b ∧ (w.alloc (.cells #[a, b, c, d, e, f] t)).cell? ⟨w.heap.size, 2, none⟩ = some c ∧
    (w.alloc (.cells #[a, b, c, d, e, f] t)).cell? ⟨w.heap.size, 3, none⟩ = some d ∧ (w.alloc (.cells #[a, b, c, d, e, f] t)).cell? ⟨w.heap.size, 4, none⟩ = some e ∧ (w.alloc (.cells #[a, b, c, d, e, f] t)).cell? ⟨w.heap.size, 5, none⟩ = some f := by
  refine ⟨?_, ?_, ?_, ?_, ?_, ?_⟩ <;> (rw [World.cell?_alloc_at _ _ _ _ rfl]; rfl)

end Go.Proofs.YtmomfkikogbdeaaGreatDoor

/- Contracts of what puts points in order. -/
namespace Go.Proofs.YtmomfkikogbdeaaGreatDoor
open Go.RowKit

def cmpI (x y : Int) : Int := if x < y then -1 else if y < x then 1 else 0

set_option maxHeartbeats 400000 in
theorem isNaN_is (x : Int) (w : World) : Calls Tryz.prog 223 #[.int .i64 x] w fun e w' => e = .returned (.bool false) ∧ w = w' := by
  go_enter Tryz.func223, Tryz.ntmps223
  go_wp2
  go_ret
  exact ⟨rfl, rfl⟩

set_option maxHeartbeats 800000 in
theorem cmpCompare_is (x y : Int) (w : World) : Calls Tryz.prog 231 #[.int .i64 x, .int .i64 y] w fun e w' => e = .returned (.int .i64 (cmpI x y)) ∧ w = w' := by
  have C1 := hide (isNaN_is x)
  have C2 := hide (isNaN_is y)
  by_cases h1 : x < y
  · have e : cmpI x y = -1 := by simp [cmpI, h1]
    rw [e]
    clear e
    go_enter Tryz.func231, Tryz.ntmps231
    go_wp2_with fail
    refine ((unhide C1) _).mono ?_
    rintro e w' ⟨rfl, rfl⟩
    go_wp2_with fail
    refine ((unhide C2) _).mono ?_
    rintro e w' ⟨rfl, rfl⟩
    go_wp2
    go_ret
    exact ⟨rfl, rfl⟩
  · by_cases h2 : y < x
    · have e : cmpI x y = 1 := by simp [cmpI, h1, h2]
      rw [e]
      clear e
      go_enter Tryz.func231, Tryz.ntmps231
      go_wp2_with fail
      refine ((unhide C1) _).mono ?_
      rintro e w' ⟨rfl, rfl⟩
      go_wp2_with fail
      refine ((unhide C2) _).mono ?_
      rintro e w' ⟨rfl, rfl⟩
      go_wp2
      go_ret
      exact ⟨rfl, rfl⟩
    · have e : cmpI x y = 0 := by simp [cmpI, h1, h2]
      rw [e]
      clear e
      go_enter Tryz.func231, Tryz.ntmps231
      go_wp2_with fail
      refine ((unhide C1) _).mono ?_
      rintro e w' ⟨rfl, rfl⟩
      go_wp2_with fail
      refine ((unhide C2) _).mono ?_
      rintro e w' ⟨rfl, rfl⟩
      go_wp2
      go_ret
      exact ⟨rfl, rfl⟩

def orI (x y : Int) : Int := if x = 0 then y else x

set_option maxHeartbeats 800000 in
theorem cmpOr_is (x y : Int) (b c : Nat) (w : World) (h1 : w.cell? ⟨b, 0, none⟩ = some (.int .i64 x)) (h2 : w.cell? ⟨b, 1, none⟩ = some (.int .i64 y)) :
    Calls Tryz.prog 230 #[.slice (some ⟨b, 0, none⟩) 2 c] w fun e w' => e = .returned (.int .i64 (orI x y)) ∧ w = w' := by
  by_cases hx : x = 0
  · subst hx
    by_cases hy : y = 0
    · subst hy
      have e : orI 0 0 = 0 := rfl
      rw [e]
      clear e
      go_enter Tryz.func230, Tryz.ntmps230
      go_wp2
      refine wp_loop_rounds 3 ?_
      rw [rounds_succ]
      go_wp2
      rw [rounds_succ]
      go_wp2
      rw [rounds_succ]
      go_wp2
      go_ret
      exact ⟨rfl, rfl⟩
    · have e : orI 0 y = y := rfl
      rw [e]
      have gy : (y != 0) = true := by simp [hy]
      clear e hy
      go_enter Tryz.func230, Tryz.ntmps230
      go_wp2
      refine wp_loop_rounds 2 ?_
      rw [rounds_succ]
      go_wp2
      rw [rounds_succ]
      go_wp2
      go_ret
      exact ⟨rfl, rfl⟩
  · have e : orI x y = x := by simp [orI, hx]
    rw [e]
    have gx : (x != 0) = true := by simp [hx]
    clear e hx
    go_enter Tryz.func230, Tryz.ntmps230
    go_wp2
    refine wp_loop_rounds 1 ?_
    rw [rounds_succ]
    go_wp2
    go_ret
    exact ⟨rfl, rfl⟩

theorem cmpP_or (p q : PtD) : orI (cmpI p.1 q.1) (cmpI p.2 q.2) = cmpP p q := by
  obtain ⟨a, b⟩ := p
  obtain ⟨c, d⟩ := q
  unfold orI cmpI cmpP lt
  simp only [Bool.or_eq_true, Bool.and_eq_true, decide_eq_true_eq, Prod.mk.injEq]
  repeat' split
  all_goals omega

theorem two_cells (w : World) (x y : Value) (t : TypeId) : (w.alloc (.cells #[x, y] t)).cell? ⟨w.heap.size, 0, none⟩ = some x ∧ (w.alloc (.cells #[x, y] t)).cell? ⟨w.heap.size, 1, none⟩ = some y :=
  ⟨by rw [World.cell?_alloc_at _ _ _ _ rfl]; rfl, by rw [World.cell?_alloc_at _ _ _ _ rfl]; rfl⟩
theorem bel_draw1 (w : World) : Below w.heap.size w w.drew := ⟨rfl, rfl, rfl, Nat.le_refl _, fun _ _ => rfl⟩

set_option maxRecDepth 10000 in
set_option maxHeartbeats 1600000 in
theorem compare_is (p q : PtD) (z : Int) (w : World) (hz : cmpP p q = z) :
    Calls Tryz.prog 201 #[.agg #[.int .i64 p.1, .int .i64 p.2], .agg #[.int .i64 q.1, .int .i64 q.2]] w fun e w' => e = .returned (.int .i64 z) ∧ Below w.heap.size w w' := by
  obtain ⟨a, b⟩ := p
  obtain ⟨c, d⟩ := q
  have e := cmpP_or (a, b) (c, d)
  rw [hz] at e
  simp only at e ⊢
  have E := hide e
  obtain ⟨X, hX⟩ : ∃ X, X = (w.alloc (.cells #[.int .i64 a, .int .i64 b] 117)).alloc (.cells #[.int .i64 c, .int .i64 d] 117) := ⟨_, rfl⟩
  have HB : Hid (Below w.heap.size w X) := by rw [hX]; exact (bel_on (bel_new w (.cells #[.int .i64 a, .int .i64 b] 117)) (bel_new _ (.cells #[.int .i64 c, .int .i64 d] 117)))
  have x0 : X.cell? ⟨w.heap.size, 0, none⟩ = some (.int .i64 a) := by rw [hX]; exact cell_later (bel_new _ _) (two_cells w _ _ _).1
  have x1 : X.cell? ⟨w.heap.size, 1, none⟩ = some (.int .i64 b) := by rw [hX]; exact cell_later (bel_new _ _) (two_cells w _ _ _).2
  have x2 : X.cell? ⟨w.heap.size + 1, 0, none⟩ = some (.int .i64 c) := by rw [hX]; have := (two_cells (w.alloc (.cells #[.int .i64 a, .int .i64 b] 117)) (.int .i64 c) (.int .i64 d) 117).1; simp at this ⊢
  have x3 : X.cell? ⟨w.heap.size + 1, 1, none⟩ = some (.int .i64 d) := by rw [hX]; have := (two_cells (w.alloc (.cells #[.int .i64 a, .int .i64 b] 117)) (.int .i64 c) (.int .i64 d) 117).2; simp at this ⊢
  clear hz e
  go_enter Tryz.func201, Tryz.ntmps201
  go_wp2_with fail
  rw [← hX]
  clear hX
  go_region_held3 (fun w' => Below X.heap.size X w' ∧ w'.cell? ⟨w.heap.size, 0, none⟩ = some (.int .i64 a) ∧ w'.cell? ⟨w.heap.size, 1, none⟩ = some (.int .i64 b) ∧ w'.cell? ⟨w.heap.size + 1, 0, none⟩ = some (.int .i64 c) ∧ w'.cell? ⟨w.heap.size + 1, 1, none⟩ = some (.int .i64 d))
    (first
    | exact ⟨bel_draw1 _, x0, x1, x2, x3⟩
    | (go_split_ands
       exact ⟨by assumption, by assumption, by assumption, by assumption, by assumption⟩)
    | (go_split_ands
       exact ⟨bel_on (by assumption) (bel_new _ _), cell_later (bel_new _ _) (by assumption), cell_later (bel_new _ _) (by assumption), cell_later (bel_new _ _) (by assumption), cell_later (bel_new _ _) (by assumption)⟩))
    (first
    | (go_at_call 231; refine (cmpCompare_is _ _ _).mono ?_; rintro e w' ⟨rfl, rfl⟩)
    | (go_at_call 230; refine (cmpOr_is (cmpI a c) (cmpI b d) _ 2 _ ?_ ?_).mono ?_; exact (two_cells _ _ _ _).1; exact (two_cells _ _ _ _).2; rintro e w' ⟨rfl, rfl⟩))
  rename_i hH
  have HH := hide (bel_on (unhide HB) hH.1)
  clear hH
  go_wp2
  go_ret
  exact ⟨by rw [← unhide E]; rfl, unhide HH⟩

end Go.Proofs.YtmomfkikogbdeaaGreatDoor
