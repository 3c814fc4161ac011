/- The contract of the reference's Disconnected, all ways. -/
import Derived.Test.YtepmnpapdknocaaGreatDoorRefDis
namespace Go.Proofs.YtepmnpapdknocaaGreatDoor
open Go.RowKit

set_option maxRecDepth 10000 in
set_option maxHeartbeats 6400000 in
theorem rdis_any (ka : Option Addr) (kn kc : Nat) (K : List ByteArray) (la : Option Addr) (ln lc : Nat) (C0 : List CoinD) (p h k0 n : Int) (a : Option Addr) (m c : Nat) (T : List TxD) (ua : Option Addr) (un uc : Nat) (S : List (List CoinD)) (x : Int) (C' : List CoinD) (w : World) (hE : EnvF w) (hK : Bk.TextsAt w ka kn K) (sK : Bk.SlOk ka kn kc) (hR : Bk.Right K) (hC : CoinsAt w la ln C0) (sC : SlOk la ln lc) (hRC : RightC C0) (hT : TxsAt w a m T) (hU : UndosAt w ua un S) (hx : disD K C0 (p, h, k0, n, T) S = (x, C')) :
    Calls Tryz.prog 16 #[.slice ka kn kc, .slice la ln lc, .agg #[.int .i64 p, .int .i64 h, .int .i64 k0, .int .i64 n, .slice a m c], .slice ua un uc] w fun e w' => RvR w w' x C' e := by
  obtain ⟨⟨X1, nm1, N, z⟩, hnm⟩ : ∃ r, nmsB K (p, h, k0, n, T) = r := ⟨_, rfl⟩
  have hck : ckCoins C0 = 0 := (ckCoins_zero _).2 hRC
  have hnf : nfD K C0 (p, h, k0, n, T) = (N, z) := by unfold nfD; rw [if_neg (fun q => q hck), hnm]
  unfold disD at hx
  rw [hnf] at hx
  have zT : T.length = m := hT.1
  have zS : S.length = un := hU.1
  by_cases hz : z = 0
  · subst hz
    rw [if_neg (fun q => q rfl)] at hx
    by_cases hum : un = m
    · subst hum
      rw [if_neg (fun q => q (zS.trans zT.symm))] at hx
      refine rdis_main ka kn kc K la ln lc C0 p h k0 n a un c T ua uc S X1 nm1 N x C' w hE hK sK hR hC sC hRC hT hU hnm ?_
      rw [← zT]
      exact hx
    · rw [if_pos (fun q => hum (zS.symm.trans (q.trans zT)))] at hx
      have HE : Hid ((x, C') = ((4 : Int), ([] : List CoinD))) := hx.symm
      obtain ⟨X, hX⟩ : ∃ X, X = w.alloc (.cells #[.int .i64 p, .int .i64 h, .int .i64 k0, .int .i64 n, .slice a m c] 28) := ⟨_, rfl⟩
      have hbX : Below w.heap.size w X := by rw [hX]; exact bel_new _ _
      have hXb : X.heap[w.heap.size]? = some (.cells [.int .i64 p, .int .i64 h, .int .i64 k0, .int .i64 n, .slice a m c].toArray 28 (0, 0)) := by rw [hX]; exact five_heap _ _ _ _ _ _ _
      have NF := hide (rnames_is ka kn kc K p h k0 n a m c T X1 nm1 N 0 X (hE.later hbX) (hK.later hbX) sK hR (hT.later hbX) hnm)
      have x0 := cell_of hXb 0 _ rfl
      have x1 := cell_of hXb 1 _ rfl
      have x2 := cell_of hXb 2 _ rfl
      have x3 := cell_of hXb 3 _ rfl
      have x4 := cell_of hXb 4 _ rfl
      have xl := lt_of_block hXb
      have HBX := hide hbX
      have gm : ((un : Int) != (m : Int)) = true := by simp; omega
      clear hE hK sK hR hC hRC hT hU hnm hx hbX hXb hnf hck zT zS
      go_enter Tryz.func16, Tryz.ntmps16
      go_wp2_with fail
      rw [← hX]
      clear hX
      (try go_wp2_with fail)
      refine (unhide NF).mono ?_
      rintro e w1 ⟨a', n', c', na, nn, nc, rfl, _, _, hN, hb1⟩
      have y4 := cell_later hb1 x4
      have yl := World.block_lt_of_cell? _ _ y4
      have HB1 := hide (bel_on (unhide HBX) hb1)
      clear hN hb1 NF x0 x1 x2 x3 x4 xl
      go_wp2
      go_ret2
      exact rv_err (unhide HE) (unhide HB1)
  · rw [if_pos hz] at hx
    have HE : Hid ((x, C') = (z, ([] : List CoinD))) := hx.symm
    obtain ⟨X, hX⟩ : ∃ X, X = w.alloc (.cells #[.int .i64 p, .int .i64 h, .int .i64 k0, .int .i64 n, .slice a m c] 28) := ⟨_, rfl⟩
    have hbX : Below w.heap.size w X := by rw [hX]; exact bel_new _ _
    have hXb : X.heap[w.heap.size]? = some (.cells [.int .i64 p, .int .i64 h, .int .i64 k0, .int .i64 n, .slice a m c].toArray 28 (0, 0)) := by rw [hX]; exact five_heap _ _ _ _ _ _ _
    have NF := hide (rnames_is ka kn kc K p h k0 n a m c T X1 nm1 N z X (hE.later hbX) (hK.later hbX) sK hR (hT.later hbX) hnm)
    have x0 := cell_of hXb 0 _ rfl
    have x1 := cell_of hXb 1 _ rfl
    have x2 := cell_of hXb 2 _ rfl
    have x3 := cell_of hXb 3 _ rfl
    have x4 := cell_of hXb 4 _ rfl
    have xl := lt_of_block hXb
    have HBX := hide hbX
    have gm : (z != 0) = true := by simp [hz]
    clear hE hK sK hR hC hRC hT hU hnm hx hbX hXb hnf hck zT zS
    go_enter Tryz.func16, Tryz.ntmps16
    go_wp2_with fail
    rw [← hX]
    clear hX
    (try go_wp2_with fail)
    refine (unhide NF).mono ?_
    rintro e w1 ⟨a', n', c', na, nn, nc, rfl, _, _, hN, hb1⟩
    have HB1 := hide (bel_on (unhide HBX) hb1)
    clear hN hb1 NF x0 x1 x2 x3 x4 xl
    go_wp2
    go_ret2
    exact rv_err (unhide HE) (unhide HB1)

end Go.Proofs.YtepmnpapdknocaaGreatDoor
