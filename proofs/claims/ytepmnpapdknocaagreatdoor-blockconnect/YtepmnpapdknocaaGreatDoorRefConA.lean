/- The contract of the reference's Connected, all ways. -/
import Derived.Test.YtepmnpapdknocaaGreatDoorRefCon
namespace Go.Proofs.YtepmnpapdknocaaGreatDoor
open Go.RowKit

set_option maxRecDepth 10000 in
set_option maxHeartbeats 6400000 in
theorem rcon_any (ka : Option Addr) (kn kc : Nat) (K : List ByteArray) (la : Option Addr) (ln lc : Nat) (C0 : List CoinD) (p ht k0 n : Int) (a : Option Addr) (m c : Nat) (T : List TxD) (x : Int) (C' : List CoinD) (S' : List (List CoinD)) (w : World) (hE : EnvF w) (hK : Bk.TextsAt w ka kn K) (sK : Bk.SlOk ka kn kc) (hR : Bk.Right K) (hC : CoinsAt w la ln C0) (sC : SlOk la ln lc) (hRC : RightC C0) (hT : TxsAt w a m T) (sT : SlOk a m c) (hx : conD K C0 (p, ht, k0, n, T) = (x, C', S')) :
    Calls Tryz.prog 15 #[.slice ka kn kc, .slice la ln lc, .agg #[.int .i64 p, .int .i64 ht, .int .i64 k0, .int .i64 n, .slice a m c]] w fun e w' => ConR w w' x C' S' e := by
  obtain ⟨⟨X1, nm1, N, z⟩, hnm⟩ : ∃ r, nmsB K (p, ht, k0, n, T) = r := ⟨_, rfl⟩
  have hck : ckCoins C0 = 0 := (ckCoins_zero _).2 hRC
  have hnf : nfD K C0 (p, ht, k0, n, T) = (N, z) := by unfold nfD; rw [if_neg (fun q => q hck), hnm]
  unfold conD at hx
  rw [hnf] at hx
  have zT : T.length = m := hT.1
  by_cases hz : z = 0
  · subst hz
    rw [if_neg (fun q => q rfl)] at hx
    obtain ⟨_, _, h1, h2⟩ := chkB_few (nms_zero hnm).1
    simp only at h1 h2
    have hr : rwD ht = ((rwD ht).1, 0) := by
      have e : (rwD ht).2 = 0 := by
        unfold rwD
        rw [if_pos (by simp only [Bool.and_eq_true, decide_eq_true_eq]; omega)]
      rw [← e]
    refine rcon_main ka kn kc K la ln lc C0 p ht k0 n a m c T X1 nm1 N (rwD ht).1 x C' S' w hE hK sK hR hC sC hRC hT sT hnm hr ?_
    rw [← zT]
    exact hx
  · rw [if_pos hz] at hx
    have HE : Hid ((z, ([] : List CoinD), ([] : List (List CoinD))) = (x, C', S')) := hx
    obtain ⟨X, hX⟩ : ∃ X, X = w.alloc (.cells #[.int .i64 p, .int .i64 ht, .int .i64 k0, .int .i64 n, .slice a m c] 28) := ⟨_, rfl⟩
    have hbX : Below w.heap.size w X := by rw [hX]; exact bel_new _ _
    have hXb : X.heap[w.heap.size]? = some (.cells [.int .i64 p, .int .i64 ht, .int .i64 k0, .int .i64 n, .slice a m c].toArray 28 (0, 0)) := by rw [hX]; exact five_heap _ _ _ _ _ _ _
    have NF := hide (rnames_is ka kn kc K p ht k0 n a m c T X1 nm1 N z X (hE.later hbX) (hK.later hbX) sK hR (hT.later hbX) hnm)
    have x0 := cell_of hXb 0 _ rfl
    have x1 := cell_of hXb 1 _ rfl
    have x2 := cell_of hXb 2 _ rfl
    have x3 := cell_of hXb 3 _ rfl
    have x4 := cell_of hXb 4 _ rfl
    have xl := lt_of_block hXb
    have HBX := hide hbX
    have gm : (z != 0) = true := by simp [hz]
    clear hE hK sK hR hC hRC hT hnm hx hbX hXb hnf hck zT sT
    go_enter Tryz.func15, Tryz.ntmps15
    go_wp2_with fail
    rw [← hX]
    clear hX
    (try go_wp2_with fail)
    refine (unhide NF).mono ?_
    rintro e w1 ⟨a', n', c', na, nn, nc, rfl, _, _, hN, hb1⟩
    have HB1 := hide (bel_on (unhide HBX) hb1)
    clear hN hb1 NF x0 x1 x2 x3 x4 xl
    go_wp2
    (try simp only [Exit.inBlock, Exit.then])
    refine bodyPost_ret (v := .tuple #[.slice none 0 0, .slice none 0 0, .int .i64 z]) ?_ rfl (con_err (unhide HE) (unhide HB1))
    simp [results, Tryz.f15, go_sem]

end Go.Proofs.YtepmnpapdknocaaGreatDoor
