/- A world that has grown, and in which some blocks have turned. Nothing of the program. -/
import Derived.Test.YtepmnpapdknocaaGreatDoorCoinInsertC
namespace Go.Proofs.YtepmnpapdknocaaGreatDoor
open Go.RowKit

structure Gr (w w' : World) (S : Nat → Prop) : Prop where
  os : w'.os = w.os
  tape : w'.tape = w.tape
  output : w'.output = w.output
  size : w.heap.size ≤ w'.heap.size
  block : ∀ k, k < w.heap.size → ¬ S k → w'.heap[k]? = w.heap[k]?

theorem Gr.refl (w : World) (S : Nat → Prop) : Gr w w S := ⟨rfl, rfl, rfl, Nat.le_refl _, fun _ _ _ => rfl⟩
theorem Gr.of {w w' : World} {S : Nat → Prop} (h : Below w.heap.size w w') : Gr w w' S := ⟨h.os, h.tape, h.output, h.size, fun k hk _ => h.block k hk⟩
theorem Gr.on {w w1 w2 : World} {S : Nat → Prop} (h : Gr w w1 S) (k : Below w1.heap.size w1 w2) : Gr w w2 S :=
  ⟨k.os.trans h.os, k.tape.trans h.tape, k.output.trans h.output, Nat.le_trans h.size k.size, fun i hi hn => (k.block i (Nat.lt_of_lt_of_le hi h.size)).trans (h.block i hi hn)⟩
theorem Gr.trans {w w1 w2 : World} {S : Nat → Prop} (h : Gr w w1 S) (k : Gr w1 w2 S) : Gr w w2 S :=
  ⟨k.os.trans h.os, k.tape.trans h.tape, k.output.trans h.output, Nat.le_trans h.size k.size, fun i hi hn => (k.block i (Nat.lt_of_lt_of_le hi h.size) hn).trans (h.block i hi hn)⟩
theorem Gr.mono {w w1 : World} {S T : Nat → Prop} (h : Gr w w1 S) (hs : ∀ k, k < w.heap.size → S k → T k) : Gr w w1 T :=
  ⟨h.os, h.tape, h.output, h.size, fun i hi hn => h.block i hi (fun q => hn (hs i hi q))⟩
theorem Gr.grown {w w1 w2 : World} {S : Nat → Prop} {row : Option Nat} (h : Gr w w1 S) (g : w1.grownBy w2 row) (hr : ∀ k, row = some k → S k ∨ w.heap.size ≤ k) : Gr w w2 S :=
  ⟨g.os.trans h.os, g.tape.trans h.tape, g.output.trans h.output, Nat.le_trans h.size g.size, fun i hi hn => (g.block i (Nat.lt_of_lt_of_le hi h.size) (fun e => by
    rcases hr i e.symm with q | q
    · exact hn q
    · omega)).trans (h.block i hi hn)⟩
theorem Gr.set {w w1 : World} {S : Nat → Prop} (h : Gr w w1 S) {p : Addr} (hp : S p.block ∨ w.heap.size ≤ p.block) (u : Value) : Gr w (w1.setCell p u) S :=
  ⟨h.os, h.tape, h.output, by simpa [World.setCell] using h.size, fun i hi hn => (Below.heap_setCell w1 p u i (fun e => by
    subst e
    rcases hp with q | q
    · exact hn q
    · omega)).trans (h.block i hi hn)⟩
theorem Gr.one {w w1 : World} {S : Nat → Prop} (h : Gr w w1 S) (b i : Nat) (hb : S b ∨ w.heap.size ≤ b) (u : Value) : Gr w (w1.setCell ⟨b, i, none⟩ u) S := h.set (p := ⟨b, i, none⟩) hb u
theorem Gr.six {w w1 : World} {S : Nat → Prop} (h : Gr w w1 S) (b : Nat) (hb : S b ∨ w.heap.size ≤ b) (a0 a1 a2 a3 a4 a5 : Value) : Gr w ((((((w1.setCell ⟨b, 0, none⟩ a0).setCell ⟨b, 1, none⟩ a1).setCell ⟨b, 2, none⟩ a2).setCell ⟨b, 3, none⟩ a3).setCell ⟨b, 4, none⟩ a4).setCell ⟨b, 5, none⟩ a5) S :=
  (((((h.one b 0 hb a0).one b 1 hb a1).one b 2 hb a2).one b 3 hb a3).one b 4 hb a4).one b 5 hb a5
theorem Gr.new {w w1 : World} {S : Nat → Prop} (h : Gr w w1 S) (o : Obj) : Gr w (w1.alloc o) S := h.on (bel_new _ _)
theorem Gr.draw {w w1 : World} {S : Nat → Prop} (h : Gr w w1 S) : Gr w w1.drew S := ⟨h.os, h.tape, h.output, h.size, h.block⟩
theorem Gr.below {w0 w w' : World} {S : Nat → Prop} {B : Nat} (h : Gr w w' S) (hb : Below B w0 w) (hB : B ≤ w.heap.size) (hs : ∀ k, S k → B ≤ k) : Below B w0 w' :=
  ⟨h.os.trans hb.os, h.tape.trans hb.tape, h.output.trans hb.output, Nat.le_trans hb.size h.size, fun k hk => (h.block k (by omega) (fun q => by have := hs k q; omega)).trans (hb.block k hk)⟩
theorem Gr.own {w w' : World} {S : Nat → Prop} (h : Gr w w' S) {base : Nat} {e : TypeId} {size : Nat} {v : Value} {n : Nat} {xs : List Value} (ho : w.ownsRow base e size v n xs) (hn : ∀ k, v.ownBlock = some k → ¬ S k) : w'.ownsRow base e size v n xs := by
  obtain ⟨hl, h0 | ⟨g, cap, cur, hv, hg, hh, r⟩⟩ := ho
  · exact ⟨hl, .inl h0⟩
  · exact ⟨hl, .inr ⟨g, cap, cur, hv, hg, (h.block g (lt_of_block hh) (hn g (by rw [hv]; rfl))).trans hh, r⟩⟩
theorem Gr.heap {w w' : World} {S : Nat → Prop} (h : Gr w w' S) {b : Nat} {o : Obj} (ho : w.heap[b]? = some o) (hn : ¬ S b) : w'.heap[b]? = some o := (h.block b (lt_of_block ho) hn).trans ho
theorem cell_of {w : World} {b : Nat} {X : List Value} {t : TypeId} (h : w.heap[b]? = some (.cells X.toArray t (0, 0))) (j : Nat) (u : Value) (hj : X[j]? = some u) : w.cell? ⟨b, j, none⟩ = some u := insert_cell h j u hj
theorem frozen_of {w : World} {b : Nat} {X : Array Value} {t : TypeId} (h : w.heap[b]? = some (.cells X t (0, 0))) (j : Nat) : w.frozen? ⟨b, j, none⟩ = false := by simp [World.frozen?, h]

/-- Coins that are taken and put: a box with the head of a row that the call has made; their locks lie in the world ahead. -/
structure Pu (w0 w : World) (p : Nat) (v : Value) (K : List CV) : Prop where
  bel : Below w0.heap.size w0 w
  ge : w0.heap.size ≤ p
  box : w.heap[p]? = some (.cells #[v] 133 (0, 0))
  own : w.ownsRow w0.heap.size 88 6 v K.length (flatC K)
  ne : v.ownBlock ≠ some p
  lk : ∀ x ∈ K, LkAt w0 x

def PuS (p : Nat) (v : Value) : Nat → Prop := fun k => k = p ∨ v.ownBlock = some k
theorem Pu.coins {w0 w : World} {p : Nat} {v : Value} {K : List CV} (h : Pu w0 w p v K) : ∃ a c, v = .slice a K.length c ∧ CoinsAt w a K.length (K.map (·.1)) ∧ SlOk a K.length c :=
  coins_of_own h.own (fun x hx => (h.lk x hx).later h.bel)
theorem Pu.lt {w0 w : World} {p : Nat} {v : Value} {K : List CV} (h : Pu w0 w p v K) : p < w.heap.size := lt_of_block h.box
theorem Pu.kept {w0 w w' : World} {p : Nat} {v : Value} {K : List CV} (h : Pu w0 w p v K) (hb : Below w.heap.size w w') : Pu w0 w' p v K :=
  ⟨bel_on h.bel (hb.mono h.bel.size |> fun q => ⟨q.os, q.tape, q.output, q.size, hb.block⟩), h.ge, (hb.block p h.lt).trans h.box, (Gr.of (S := fun _ => False) hb).own h.own (fun _ _ q => q), h.ne, h.lk⟩

set_option maxRecDepth 10000 in
set_option maxHeartbeats 800000 in
theorem uopen_is (a : Option Addr) (n c : Nat) (L : List CoinD) (w : World) (hn : n ≤ 4096) (h : CoinsAt w a n L) (hs : SlOk a n c) :
    Calls Tryz.prog 69 #[.slice a n c] w fun e w' => ∃ p v, ∃ K : List CV, e = .returned (.pointer (some ⟨p, 0, none⟩)) ∧ K.map (·.1) = L ∧ Pu w w' p v K := by
  have C := hide (cloneCoin_any a n c L w hn h hs)
  clear h hs
  go_enter Tryz.func69, Tryz.ntmps69
  go_wp2_with fail
  refine (unhide C).mono ?_
  rintro e w2 ⟨v, K, rfl, hK, hl, ho, hb⟩
  obtain ⟨a', c', rfl, _, _⟩ := coins_of_own ho (fun x hx => (hl x hx).later hb)
  obtain ⟨n', hn'⟩ : ∃ n', K.length = n' := ⟨_, rfl⟩
  rw [hn'] at ho ⊢
  have P : Hid (Pu w (w2.alloc (.cells #[.slice a' n' c'] 133)) w2.heap.size (.slice a' n' c') K) := by
    refine ⟨hb.alloc hb.size _, hb.size, heap_alloc_new w2 _, by rw [hn']; exact ho.alloc _, fun e => ?_, hl⟩
    have := (ho.lt _ e).2
    omega
  have HK := hide hK
  clear hK hl ho hb hn'
  go_wp2
  go_ret
  exact ⟨w2.heap.size, _, K, rfl, unhide HK, unhide P⟩

end Go.Proofs.YtepmnpapdknocaaGreatDoor
