/- Contracts of block.Names, whatever comes in, of namesFor and of turns. -/
import Derived.Test.YtepmnpapdknocaaGreatDoorBlkNames
import Derived.Test.YtepmnpapdknocaaGreatDoorCoinCheckB
namespace Go.Proofs.YtepmnpapdknocaaGreatDoor
open Go.RowKit

theorem nmGo_len : ∀ (l : List ByteArray) (L : List ByteArray) (N : List Int) (M : List ByteArray) (N' : List Int), Bk.nmGo L N l = (M, N', 0) → N'.length = N.length + l.length
  | [], L, N, M, N', h => by
    unfold Bk.nmGo at h
    injection h with _ h
    injection h with h _
    subst h
    rfl
  | s :: r, L, N, M, N', h => by
    unfold Bk.nmGo at h
    split at h
    · have := nmGo_len r _ _ M N' h
      rw [this, List.length_append, List.length_cons, List.length_cons, List.length_nil]
      omega
    · rename_i q
      injection h with _ h
      injection h with _ h
      exact absurd h q
theorem allR_len {L l M : List ByteArray} {N : List Int} (h : Bk.allR L l = (M, N, 0)) : N.length = l.length := by
  unfold Bk.allR at h
  split at h
  · have := nmGo_len l L [] M N h
    rw [this]
    simp
  · rename_i q
    injection h with _ h
    injection h with _ h
    exact absurd h q

theorem names_any (ka : Option Addr) (kn kc : Nat) (L : List ByteArray) (p h k n : Int) (a : Option Addr) (m c : Nat) (T : List TxD) (M : List ByteArray) (nm : Int) (N : List Int) (x : Int) (w : World) (hE : Env w) (hL : Bk.TextsAt w ka kn L) (hT : TxsAt w a m T) (hx : nmsB L (p, h, k, n, T) = (M, nm, N, x)) :
    Calls Tryz.prog 5 #[.agg #[.slice ka kn kc], .agg #[.int .i64 p, .int .i64 h, .int .i64 k, .int .i64 n, .slice a m c]] w fun e w' => NmR w w' M nm N x e := by
  have hz : T.length = m := hT.1
  unfold nmsB at hx
  by_cases h0 : chkB (p, h, k, n, T) = 0
  · rw [if_neg (by rw [h0]; decide)] at hx
    obtain ⟨⟨M', N', x'⟩, hr⟩ : ∃ r, Bk.allR L (txtsOf (p, h, k, n, T)) = r := ⟨_, rfl⟩
    rw [hr] at hx
    simp only [hz] at hx
    have hlen : x' = 0 → N'.length = m + 1 := fun e => by
      subst e
      rw [allR_len hr]
      unfold txtsOf
      simp [hz]
    by_cases hx0 : x' = 0
    · subst hx0
      rw [if_neg (by decide)] at hx
      injection hx with e1 e2
      injection e2 with e2 e3
      injection e3 with e3 e4
      subst e1 e2 e3 e4
      exact names_some ka kn kc L p h k n a m c T M' N' 0 w hE hL hT h0 hr hlen _ _ _ (if_pos rfl)
    · rw [if_pos hx0] at hx
      injection hx with e1 e2
      injection e2 with e2 e3
      injection e3 with e3 e4
      subst e1 e2 e3 e4
      exact names_some ka kn kc L p h k n a m c T M' N' x' w hE hL hT h0 hr hlen _ _ _ (if_neg hx0)
  · rw [if_pos h0] at hx
    injection hx with e1 e2
    injection e2 with e2 e3
    injection e3 with e3 e4
    subst e1 e2 e3
    exact names_bad ka kn kc p h k n a m c T x w hT e4 (by rw [← e4]; exact h0)

/-- What namesFor answers. -/
def nfD (K : List ByteArray) (C : List CoinD) (b : BlkD) : List Int × Int := if ckCoins C ≠ 0 then ([], ckCoins C) else ((nmsB K b).2.2.1, (nmsB K b).2.2.2)
def NfR (w w' : World) (N : List Int) (x : Int) (e : Ending) : Prop := ∃ a n c, e = .returned (.tuple #[.slice a n c, .int .i64 x]) ∧ Bk.IntsAt w' a n N ∧ n ≤ c ∧ Below w.heap.size w w'

set_option maxRecDepth 10000 in
set_option maxHeartbeats 1600000 in
theorem namesFor_is (ka : Option Addr) (kn kc : Nat) (L : List ByteArray) (la : Option Addr) (ln lc : Nat) (C : List CoinD) (p h k n : Int) (a : Option Addr) (m c : Nat) (T : List TxD) (N : List Int) (x : Int) (w : World) (hE : Env w) (hL : Bk.TextsAt w ka kn L) (hC : CoinsAt w la ln C) (hT : TxsAt w a m T) (hx : nfD L C (p, h, k, n, T) = (N, x)) :
    Calls Tryz.prog 27 #[.agg #[.slice ka kn kc], .slice la ln lc, .agg #[.int .i64 p, .int .i64 h, .int .i64 k, .int .i64 n, .slice a m c]] w fun e w' => NfR w w' N x e := by
  obtain ⟨X, hX⟩ : ∃ X, X = (w.alloc (.cells #[.slice ka kn kc] 24)).alloc (.cells #[.int .i64 p, .int .i64 h, .int .i64 k, .int .i64 n, .slice a m c] 28) := ⟨_, rfl⟩
  have hbX : Below w.heap.size w X := by rw [hX]; exact bel_on (bel_new _ _) (bel_new _ _)
  have hX1 : X.heap[w.heap.size]? = some (.cells [.slice ka kn kc].toArray 24 (0, 0)) := by
    rw [hX, Below.heap_alloc _ _ _ (by simp)]; exact one_heap _ _ _
  have hX2 : X.heap[w.heap.size + 1]? = some (.cells [.int .i64 p, .int .i64 h, .int .i64 k, .int .i64 n, .slice a m c].toArray 28 (0, 0)) := by
    rw [hX]
    have := five_heap (w.alloc (.cells #[.slice ka kn kc] 24)) (.int .i64 p) (.int .i64 h) (.int .i64 k) (.int .i64 n) (.slice a m c) 28
    rw [show (w.alloc (.cells #[.slice ka kn kc] 24)).heap.size = w.heap.size + 1 by simp] at this
    exact this
  obtain ⟨y, hy⟩ : ∃ y, ckCoins C = y := ⟨_, rfl⟩
  have CK := hide (uCheck_any la ln lc C y X (hC.later hbX) hy)
  have HX1 := hide hX1
  have HX2 := hide hX2
  have HBX := hide hbX
  unfold nfD at hx
  rw [hy] at hx
  by_cases hy0 : y = 0
  · subst hy0
    rw [if_neg (by decide)] at hx
    obtain ⟨⟨M, nm, N', x'⟩, hr⟩ : ∃ r, nmsB L (p, h, k, n, T) = r := ⟨_, rfl⟩
    rw [hr] at hx
    injection hx with e1 e2
    simp only at e1 e2
    subst e1 e2
    have NA := hide (fun W (hb : Below X.heap.size X W) => names_any ka kn kc L p h k n a m c T M nm N' x' W ((hE.later hbX).later hb) ((hL.later hbX).later hb) ((hT.later hbX).later hb) hr)
    clear hE hL hC hT hy hr hX1 hX2 hbX
    go_enter Tryz.func27, Tryz.ntmps27
    go_wp2_with fail
    rw [← hX]
    clear hX
    refine (unhide CK).mono ?_
    rintro e w1 ⟨rfl, hb1⟩
    have h1 := (hb1.block _ (lt_of_block (unhide HX1))).trans (unhide HX1)
    have h2 := (hb1.block _ (lt_of_block (unhide HX2))).trans (unhide HX2)
    have k0 := cell_of h1 0 _ rfl
    have b0 := cell_of h2 0 _ rfl
    have b1 := cell_of h2 1 _ rfl
    have b2 := cell_of h2 2 _ rfl
    have b3 := cell_of h2 3 _ rfl
    have b4 := cell_of h2 4 _ rfl
    have l1 := lt_of_block h1
    have l2 := lt_of_block h2
    have N1 := hide ((unhide NA) w1 hb1)
    have HB1 := hide (bel_on (unhide HBX) hb1)
    clear hb1 h1 h2 CK NA
    go_wp2_with fail
    refine (unhide N1).mono ?_
    rintro e w2 ⟨a', n', c', a2, n2, c2, rfl, _, _, hI, hc, hb2⟩
    have HF : Hid (NfR w (w2.alloc (.cells #[.slice a' n' c'] 24)) N' x' (.returned (.tuple #[.slice a2 n2 c2, .int .i64 x']))) := ⟨a2, n2, c2, rfl, hI.later (bel_new _ _), hc, bel_on (bel_on (unhide HB1) hb2) (bel_new _ _)⟩
    clear hI hc hb2
    go_wp2
    go_ret2
    exact unhide HF
  · rw [if_pos hy0] at hx
    injection hx with e1 e2
    subst e1 e2
    have gy : (y != 0) = true := by simp [hy0]
    clear hE hL hC hT hy hX1 hX2 hbX hy0
    go_enter Tryz.func27, Tryz.ntmps27
    go_wp2_with fail
    rw [← hX]
    clear hX
    refine (unhide CK).mono ?_
    rintro e w1 ⟨rfl, hb1⟩
    have HF : Hid (NfR w w1 [] y (.returned (.tuple #[.slice none 0 0, .int .i64 y]))) := ⟨none, 0, 0, rfl, Bk.IntsAt.nil _ _, Nat.le_refl _, bel_on (unhide HBX) hb1⟩
    clear hb1
    go_wp2
    go_ret2
    exact unhide HF

end Go.Proofs.YtepmnpapdknocaaGreatDoor
