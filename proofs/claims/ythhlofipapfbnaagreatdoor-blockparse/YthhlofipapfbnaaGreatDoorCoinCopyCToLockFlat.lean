/- The contract of clone.Coins. -/
import Derived.Test.YthhlofipapfbnaaGreatDoorBlkNamesToCoinCopyB
import Derived.Test.YthhlofipapfbnaaGreatDoorCoinCheckBToCoinDelete
import Derived.Test.YthhlofipapfbnaaGreatDoorProg
import Derived.Shelf.Strings.Shaped
import Derived.Shelf.LaysM
import Derived.Test.YthhlofipapfbnaaGreatDoorLockPrintToTxPrint
import Derived.Lib.IndexMore
import Derived.Deep.AppendLies
import Derived.Test.YthhlofipapfbnaaGreatDoorLockMathToTxMem
namespace Go.Proofs.YthhlofipapfbnaaGreatDoor
open Go.RowKit

/-- A coin whose lock lies in memory from s on. -/
def LkIn (w : World) (s : Nat) (x : CV) : Prop := LkAt w x ∧ ∀ ad, x.2.1 = some ad → s ≤ ad.block
theorem LkIn.later {w w' : World} {s : Nat} {x : CV} (h : LkIn w s x) (hb : Below w.heap.size w w') : LkIn w' s x := ⟨h.1.later hb, h.2⟩

/-- It holds in each world that is the same from B on. -/
def Fresh (B : Nat) (w : World) (Q : World → Prop) : Prop := ∀ w2, Gr w w2 (fun k => k < B) → Q w2

theorem own_head {w : World} {base : Nat} {e : TypeId} {size : Nat} {v : Value} {n : Nat} {xs : List Value} (h : w.ownsRow base e size v n xs) : ∃ a c, v = .slice a n c ∧ SlOk a n c ∧ (0 < n → ∃ g, a = some ⟨g, 0, none⟩ ∧ base ≤ g ∧ g < w.heap.size) := by
  rcases h.2 with ⟨rfl, rfl⟩ | ⟨g, cap, cur, rfl, hg, hh, h1, h2, h3, h4⟩
  · exact ⟨none, 0, rfl, ⟨Nat.le_refl _, Nat.zero_le _, fun _ => ⟨rfl, rfl⟩⟩, fun h => absurd h (by omega)⟩
  · exact ⟨_, cap, rfl, ⟨h1, h2, fun e => by cases e⟩, fun _ => ⟨g, rfl, hg, lt_of_block hh⟩⟩

set_option maxRecDepth 10000 in
set_option maxHeartbeats 6400000 in
theorem copyCoins_is (a : Option Addr) (n c : Nat) (L : List CoinD) (w : World) (hn : n ≤ 4096) (h : CoinsAt w a n L) (hsl : SlOk a n c) (hk : ∀ x ∈ L, (ck x).length ≤ 4096) :
    Calls Tryz.prog 116 #[.slice a n c] w fun e w' => ∃ a' c', e = .returned (.slice a' n c') ∧ Fresh w.heap.size w' (fun w2 => CoinsAt w2 a' n L) ∧ SlOk a' n c' ∧ Below w.heap.size w w' := by
  have C1 := hide (cloneCoin_any a n c L w hn h hsl)
  have HZ := hide h.1
  have HK := hide hk
  clear h hk hsl
  go_enter Tryz.func116, Tryz.ntmps116
  go_wp2_with fail
  refine (unhide C1).mono ?_
  rintro e w2 ⟨v, K, rfl, hK, hlk, hown, hb2⟩
  have hKn : K.length = n := by rw [← unhide HZ, ← hK, List.length_map]
  rw [hKn] at hown
  obtain ⟨a1, c1, rfl, hs1, hg1⟩ := own_head hown
  obtain ⟨G, hG⟩ : ∃ G, w2.heap.size = G := ⟨_, rfl⟩
  rw [hG] at hg1
  have HG1 := hide hg1
  have HS1 := hide hs1
  have HKK := hide hK
  have HKL := hide hKn
  have HLK := hide hlk
  have ST : Hid (w2.ownsRow w.heap.size 89 6 (.slice a1 n c1) n (flatC ([] ++ K.drop 0))) := hown
  have HB2 := hide hb2
  have HGl : Hid (G ≤ w2.heap.size) := Nat.le_of_eq hG.symm
  have HwG : Hid (w.heap.size ≤ G) := by rw [← hG]; exact hb2.size
  clear hown hb2 hK hlk hs1 hg1 C1 hG hKn
  go_wp2_with fail
  go_loopw [9] (fun i wr => ∃ (k : Nat) (T : List CV), k ≤ n ∧ i = .int .i64 k ∧ Hid (T.map (·.1) = L.take k) ∧ Hid (T.length = k) ∧ Hid (wr.ownsRow w.heap.size 89 6 (.slice a1 n c1) n (flatC (T ++ K.drop k))) ∧ Hid (∀ z ∈ T, LkIn wr G z) ∧ Hid (Below w.heap.size w wr) ∧ Hid (G ≤ wr.heap.size)) (fun i _ => n - (intOf i).toNat)
  case atStart => exact ⟨0, [], Nat.zero_le _, rfl, rfl, rfl, ST, (fun z hz => (by cases hz) : ∀ z ∈ ([] : List CV), LkIn w2 G z), HB2, HGl⟩
  case round =>
    obtain ⟨k, T, hk, rfl, HT, HTl, HO, HLk, HB, HGr⟩ := hrel
    clear ST HB2 HGl
    by_cases hlt : k < n
    · have hlk : k < L.length := by rw [unhide HZ]; exact hlt
      have hkK : k < K.length := by rw [unhide HKL]; exact hlt
      obtain ⟨g, rfl, hgw, hgG⟩ := (unhide HG1) (by omega)
      have hKx : (K[k]).1 = L[k] := by
        have := unhide HKK
        subst this
        rw [List.getElem_map]
      have hkl := (unhide HK) _ (List.getElem_mem hlk)
      have hLK := ((unhide HLK) _ (List.getElem_mem hkK)).later (unhide HB)
      have HTK : Hid (L.take (k + 1) = L.take k ++ [L[k]]) := List.take_succ_eq_append_getElem hlk
      have HR' : Hid (T ++ K.drop k = T ++ K[k] :: K.drop (k + 1)) := by
        show _ = _
        rw [List.drop_eq_getElem_cons hkK]
      obtain ⟨z, hz⟩ : ∃ z, K[k] = z := ⟨_, rfl⟩
      rw [hz] at hKx HR' hLK
      rw [← hKx] at HTK hkl
      obtain ⟨x, la, ln, lc⟩ := z
      simp only at HTK hkl
      obtain ⟨hO4, hs4⟩ := hLK
      simp only at hO4 hs4
      have hln : ln ≤ 4096 := by rw [← hO4.1]; exact hkl
      have hTk := unhide HTl
      have hOr := unhide HO
      rw [unhide HR'] at hOr
      have har : ∀ j, j < 6 → wr.cell? ⟨g, k * 6 + j, none⟩ = (sixV (x, la, ln, lc))[j]? := fun j hj => by
        rw [World.ownsRow.cellAt hOr _ (by omega), ← hTk, flatC_mid_at _ _ _ j hj]
      have g0 : wr.cell? ⟨g, k * 6, none⟩ = some (.int .i64 x.1) := (har 0 (by decide)).trans rfl
      have g1 : wr.cell? ⟨g, k * 6 + 1, none⟩ = some (.int .i64 x.2.1) := (har 1 (by decide)).trans rfl
      have g2 : wr.cell? ⟨g, k * 6 + 2, none⟩ = some (.int .i64 (cv x)) := (har 2 (by decide)).trans rfl
      have g3 : wr.cell? ⟨g, k * 6 + 3, none⟩ = some (.slice la ln lc) := (har 3 (by decide)).trans rfl
      have g4 : wr.cell? ⟨g, k * 6 + 4, none⟩ = some (.int .i64 (ch x)) := (har 4 (by decide)).trans rfl
      have g5 : wr.cell? ⟨g, k * 6 + 5, none⟩ = some (.bool (cr x)) := (har 5 (by decide)).trans rfl
      obtain ⟨X, hX⟩ : ∃ X, X = wr.alloc (.cells #[.int .i64 x.1, .int .i64 x.2.1, .int .i64 (cv x), .slice la ln lc, .int .i64 (ch x), .bool (cr x)] 89) := ⟨_, rfl⟩
      have hbX : Below wr.heap.size wr X := by rw [hX]; exact bel_new _ _
      have C := copyCoin_is x la ln lc X hln (hO4.later hbX) hs4
      unfold cnV at C
      have HC := hide C
      have HBX := hide hbX
      have hkI : (k : Int) < (n : Int) := by omega
      have HOr := hide hOr
      clear C hbX hO4 hs4 hkl hOr har hKx hz
      go_wp2_with fail
      rw [← hX]
      clear hX g0 g1 g2 g3 g4 g5
      refine (unhide HC).mono ?_
      rintro e w5 ⟨a5, c5, rfl, ho5, hs5, hba5, hb5⟩
      have hbw5 := bel_on (unhide HBX) hb5
      have hO5 := (Gr.of (S := fun _ => False) hbw5).own (unhide HOr) (fun _ _ q => q)
      have hat : ∀ j, j < 6 → w5.cell? ⟨g, k * 6 + j, none⟩ = (sixV (x, la, ln, lc))[j]? := fun j hj => by
        rw [World.ownsRow.cellAt hO5 _ (by omega), ← hTk, flatC_mid_at _ _ _ j hj]
      have t0 : w5.cell? ⟨g, k * 6, none⟩ = some (.int .i64 x.1) := (hat 0 (by decide)).trans rfl
      have t1 : w5.cell? ⟨g, k * 6 + 1, none⟩ = some (.int .i64 x.2.1) := (hat 1 (by decide)).trans rfl
      have t2 : w5.cell? ⟨g, k * 6 + 2, none⟩ = some (.int .i64 (cv x)) := (hat 2 (by decide)).trans rfl
      have t3 : w5.cell? ⟨g, k * 6 + 3, none⟩ = some (.slice la ln lc) := (hat 3 (by decide)).trans rfl
      have t4 : w5.cell? ⟨g, k * 6 + 4, none⟩ = some (.int .i64 (ch x)) := (hat 4 (by decide)).trans rfl
      have t5 : w5.cell? ⟨g, k * 6 + 5, none⟩ = some (.bool (cr x)) := (hat 5 (by decide)).trans rfl
      have z0 := hO5.frozenAt (k * 6)
      have z1 := hO5.frozenAt (k * 6 + 1)
      have z2 := hO5.frozenAt (k * 6 + 2)
      have z3 := hO5.frozenAt (k * 6 + 3)
      have z4 := hO5.frozenAt (k * 6 + 4)
      have z5 := hO5.frozenAt (k * 6 + 5)
      have hsl5 : g < w5.heap.size := (hO5.lt _ rfl).2
      have TAIL : Hid (∃ T' : List CV, Hid (T'.map (·.1) = L.take (k + 1)) ∧ Hid (T'.length = k + 1) ∧ Hid (((((((w5.setCell ⟨g, k * 6, none⟩ (.int .i64 x.1)).setCell ⟨g, k * 6 + 1, none⟩ (.int .i64 x.2.1)).setCell ⟨g, k * 6 + 2, none⟩ (.int .i64 (cv x))).setCell ⟨g, k * 6 + 3, none⟩ (.slice a5 ln c5)).setCell ⟨g, k * 6 + 4, none⟩ (.int .i64 (ch x))).setCell ⟨g, k * 6 + 5, none⟩ (.bool (cr x))).ownsRow w.heap.size 89 6 (.slice (some ⟨g, 0, none⟩) n c1) n (flatC (T' ++ K.drop (k + 1)))) ∧
          Hid (∀ z ∈ T', LkIn ((((((w5.setCell ⟨g, k * 6, none⟩ (.int .i64 x.1)).setCell ⟨g, k * 6 + 1, none⟩ (.int .i64 x.2.1)).setCell ⟨g, k * 6 + 2, none⟩ (.int .i64 (cv x))).setCell ⟨g, k * 6 + 3, none⟩ (.slice a5 ln c5)).setCell ⟨g, k * 6 + 4, none⟩ (.int .i64 (ch x))).setCell ⟨g, k * 6 + 5, none⟩ (.bool (cr x))) G z) ∧
          Hid (Below w.heap.size w ((((((w5.setCell ⟨g, k * 6, none⟩ (.int .i64 x.1)).setCell ⟨g, k * 6 + 1, none⟩ (.int .i64 x.2.1)).setCell ⟨g, k * 6 + 2, none⟩ (.int .i64 (cv x))).setCell ⟨g, k * 6 + 3, none⟩ (.slice a5 ln c5)).setCell ⟨g, k * 6 + 4, none⟩ (.int .i64 (ch x))).setCell ⟨g, k * 6 + 5, none⟩ (.bool (cr x)))) ∧
          Hid (G ≤ ((((((w5.setCell ⟨g, k * 6, none⟩ (.int .i64 x.1)).setCell ⟨g, k * 6 + 1, none⟩ (.int .i64 x.2.1)).setCell ⟨g, k * 6 + 2, none⟩ (.int .i64 (cv x))).setCell ⟨g, k * 6 + 3, none⟩ (.slice a5 ln c5)).setCell ⟨g, k * 6 + 4, none⟩ (.int .i64 (ch x))).setCell ⟨g, k * 6 + 5, none⟩ (.bool (cr x))).heap.size)) := by
        have hG := (Gr.refl w5 (fun q => q = g)).sixAt g (k * 6) (.inl rfl) (.int .i64 x.1) (.int .i64 x.2.1) (.int .i64 (cv x)) (.slice a5 ln c5) (.int .i64 (ch x)) (.bool (cr x))
        have hO6 := stored6 hO5 (k * 6) (.int .i64 x.1) (.int .i64 x.2.1) (.int .i64 (cv x)) (.slice a5 ln c5) (.int .i64 (ch x)) (.bool (cr x))
        have hset := flatC_mid_set T (K.drop (k + 1)) (x, la, ln, lc) (x, a5, ln, c5)
        rw [hTk] at hset
        simp only at hset
        rw [hset] at hO6
        have hXs : wr.heap.size ≤ X.heap.size := (unhide HBX).size
        have hGr := unhide HGr
        have hs5' := hbw5.size
        have hs6 := hG.size
        refine ⟨T ++ [(x, a5, ln, c5)], ?_, ?_, ?_, ?_, ?_, ?_⟩
        · show _ = _; rw [List.map_append, unhide HT, unhide HTK]; rfl
        · show _ = _; rw [List.length_append, hTk]; rfl
        · show World.ownsRow _ _ _ _ _ _ _
          rw [List.append_assoc]
          exact hO6
        · intro z hz
          rcases List.mem_append.1 hz with hz | hz
          · have h1 := ((unhide HLk) z hz).later hbw5
            exact ⟨⟨h1.1.1.gr hG (fun ad e q => by have := h1.2 ad e; omega), h1.1.2⟩, h1.2⟩
          · rw [List.mem_singleton.1 hz]
            have h3 : ∀ ad, a5 = some ad → G ≤ ad.block := fun ad e => by have := hba5 ad e; omega
            exact ⟨⟨ho5.gr hG (fun ad e q => by have := h3 ad e; omega), hs5⟩, h3⟩
        · exact hG.below (bel_on (unhide HB) hbw5) (by have := unhide HwG; omega) (fun q hq => by omega)
        · show _ ≤ _; omega
      clear ho5 hs5 hba5 hb5 hbw5 hO5 hat HC HOr
      go_wp2
      go_roundw
      case rel =>
        obtain ⟨T', f1, f2, f3, f4, f5, f6⟩ := unhide TAIL
        exact ⟨k + 1, T', by omega, by go_num, f1, f2, f3, f4, f5, f6⟩
      case measure => simp [intOf]; omega
    · have e : k = n := by omega
      subst e
      have HR : Hid (Fresh w.heap.size wr (fun w2 => CoinsAt w2 a1 k L) ∧ SlOk a1 k c1) := by
        have h1 := unhide HO
        have hKL := unhide HKL
        rw [List.drop_of_length_le (by omega), List.append_nil, ← unhide HTl] at h1
        have hF : Fresh w.heap.size wr (fun w2 => CoinsAt w2 a1 k L) := fun w2 hG => by
          have h2 := hG.own h1 (fun q hq => by have := (h1.lt q hq).1; omega)
          obtain ⟨a', c', e, h3, _⟩ := coins_of_own h2 (fun z hz => ⟨((unhide HLk) z hz).1.1.gr hG (fun ad e q => by have := ((unhide HLk) z hz).2 ad e; have := unhide HwG; omega), ((unhide HLk) z hz).1.2⟩)
          cases e
          rw [unhide HT, List.take_of_length_le (by rw [unhide HZ]; exact Nat.le_refl _)] at h3
          rw [unhide HTl] at h3
          exact h3
        exact ⟨hF, unhide HS1⟩
      clear HO HT HTl HLk HG1
      go_wp2
      go_ret
      obtain ⟨h1, h2⟩ := unhide HR
      exact ⟨_, _, rfl, h1, h2, unhide HB⟩

end Go.Proofs.YthhlofipapfbnaaGreatDoor

/- A contract of a function of the library at this program: laid by the guide's own command, in its plain words. -/
namespace Go.Proofs
open Go.Shelf
def Tryz.laysM143_ren : Go.Shelf.Ren := ⟨fun | 143 => 88 | 219 => 133 | 217 => 150 | 225 => 169 | 224 => 170 | 267 => 171 | 266 => 192 | 314 => 209 | n => n, fun | 9 => 9 | 3 => 3 | 4 => 4 | 5 => 5 | 46 => 223 | 146 => 268 | 51 => 267 | n => n, fun | 1 => 0 | n => n⟩
theorem Tryz.laysM143 : Go.Proofs.LaysM.n143 Tryz.prog Tryz.laysM143_ren := {
  mixed := by kernel_rfl
  f143 := Tryz.func88.trans (congrArg some (by kernel_rfl))
  f217 := Tryz.func150.trans (congrArg some (by kernel_rfl))
  f219 := Tryz.func133.trans (congrArg some (by kernel_rfl))
  f224 := Tryz.func170.trans (congrArg some (by kernel_rfl))
  f225 := Tryz.func169.trans (congrArg some (by kernel_rfl))
  f266 := Tryz.func192.trans (congrArg some (by kernel_rfl))
  f267 := Tryz.func171.trans (congrArg some (by kernel_rfl))
  f314 := Tryz.func209.trans (congrArg some (by kernel_rfl))
  t3 := Tryz.underlying3
  a3 := Tryz.isAgg3
  z3 := Tryz.sizeOf3
  v3 := Tryz.zeroValue3
  t4 := Tryz.underlying4
  a4 := Tryz.isAgg4
  z4 := Tryz.sizeOf4
  v4 := Tryz.zeroValue4
  t5 := Tryz.underlying5
  a5 := Tryz.isAgg5
  z5 := Tryz.sizeOf5
  v5 := Tryz.zeroValue5
  t9 := Tryz.underlying9
  a9 := Tryz.isAgg9
  z9 := Tryz.sizeOf9
  v9 := Tryz.zeroValue9
  t46 := Tryz.underlying223
  a46 := Tryz.isAgg223
  z46 := Tryz.sizeOf223
  v46 := Tryz.zeroValue223
  t51 := Tryz.underlying267
  a51 := Tryz.isAgg267
  z51 := Tryz.sizeOf267
  v51 := Tryz.zeroValue267
  t146 := Tryz.underlying268
  a146 := Tryz.isAgg268
  z146 := Tryz.sizeOf268
  v146 := Tryz.zeroValue268
  g1 := by kernel_rfl
  i3 := by kernel_rfl
  i4 := by kernel_rfl
  i5 := by kernel_rfl
  i9 := by kernel_rfl
  i46 := by kernel_rfl
  i51 := by kernel_rfl
  i146 := by kernel_rfl
  m1 := by kernel_rfl
  s1_3 := fun w h => Go.Proofs.cell_of_shapedOpen_int (zero := #[.int .i64 0]) (t := 3) h (of_decide_eq_true (by kernel_rfl)) (by kernel_rfl) rfl (by kernel_rfl) (by kernel_rfl) Tryz.underlying3 }
open Go.RowKit Go.Lib in
theorem Tryz.strings_Index_shaped (s sub : ByteArray) (w : World) (h : w.ShapedOpen Tryz.prog) (hs : s.size < 4294967281) :
    Calls Tryz.prog 88 #[.string s, .string sub] w fun e w' => e = .returned (.int .i64 (Lib.index s.data.toList sub.data.toList)) ∧ w' = w := Any.strings_Index_shaped Tryz.laysM143 s sub w h hs
end Go.Proofs

/- The contract of pieces: a text cut ahead of each line at which a transaction begins. -/
namespace Go.Proofs.YthhlofipapfbnaaGreatDoor
open Go.RowKit

def cutB : ByteArray := ⟨#[10, 116, 120, 32]⟩
/-- Where the first piece of a text ends. -/
def endP (s : ByteArray) : Nat := if Lib.index s.data.toList cutB.data.toList = -1 then s.size else (Lib.index s.data.toList cutB.data.toList + 1).toNat
theorem endP_ok (s : ByteArray) (h : 0 < s.size) : 0 < endP s ∧ endP s ≤ s.size := by
  unfold endP
  split
  · exact ⟨h, Nat.le_refl _⟩
  · next q =>
    have h1 := Lib.index_ge s.data.toList cutB.data.toList
    have h2 := Lib.index_room s.data.toList cutB.data.toList (by omega)
    have h3 : cutB.data.toList.length = 4 := rfl
    have h4 : s.data.toList.length = s.size := by rw [Array.length_toList]; rfl
    omega
def pcsF : Nat → ByteArray → List ByteArray
  | 0, _ => []
  | f + 1, s => if s.size = 0 then [] else s.extract 0 (endP s) :: pcsF f (s.extract (endP s) s.size)
theorem rest_size (s : ByteArray) : (s.extract (endP s) s.size).size = s.size - endP s := by simp
theorem pcsF_none (f : Nat) (s : ByteArray) (h : s.size = 0) : pcsF f s = [] := by cases f <;> simp [pcsF, h]
theorem pcsF_step (f : Nat) (s : ByteArray) (h : 0 < s.size) : pcsF (f + 1) s = s.extract 0 (endP s) :: pcsF f (s.extract (endP s) s.size) := by rw [pcsF, if_neg (by omega)]
theorem pcsF_len : ∀ (f : Nat) (s : ByteArray), (pcsF f s).length ≤ s.size
  | 0, _ => by simp [pcsF]
  | f + 1, s => by
    by_cases h : s.size = 0
    · rw [pcsF_none _ _ h]; simp
    · have he := endP_ok s (by omega)
      have := pcsF_len f (s.extract (endP s) s.size)
      rw [rest_size] at this
      rw [pcsF_step f s (by omega), List.length_cons]
      omega
def pcs (s : ByteArray) : List ByteArray := pcsF s.size s
def szV : Value → Nat
  | .string r => r.size
  | _ => 0
theorem empty_size {r : ByteArray} (h : r.size = 0) : r = ⟨#[]⟩ := by
  obtain ⟨d⟩ := r
  have : d.size = 0 := h
  simp at this
  rw [this]
theorem str_none {r : ByteArray} (h : r.size ≠ 0) : (r.toList == (⟨#[]⟩ : ByteArray).toList) = false := by
  rw [ByteArray.toList_eq, ByteArray.toList_eq]
  obtain ⟨d⟩ := r
  have : d.size ≠ 0 := h
  simpa using this

set_option maxRecDepth 10000 in
set_option maxHeartbeats 3200000 in
theorem pieces_is (s : ByteArray) (hs : s.size ≤ 4000) (w : World) (hE : EnvP w) :
    Calls Tryz.prog 38 #[.string s] w fun e w' => ∃ v, e = .returned v ∧ w'.ownsRow w.heap.size 9 1 v (pcs s).length ((pcs s).map Value.string) ∧ Below w.heap.size w w' := by
  obtain ⟨i0, hi, hz0, hz1, hz2⟩ := info_parts Tryz.info9
  have IX := hide (fun (r : ByteArray) W (hr : r.size ≤ 4000) (hb : Below w.heap.size w W) => Tryz.strings_Index_shaped r cutB W (hE.later hb).shp (by omega))
  have ST : Hid (([] : List ByteArray) ++ pcsF s.size s = pcs s) := rfl
  have OW : Hid (w.ownsRow w.heap.size 9 1 (.slice none 0 0) ([] : List ByteArray).length (([] : List ByteArray).map Value.string)) := ⟨rfl, .inl ⟨rfl, rfl⟩⟩
  have HL := hide (pcsF_len s.size s)
  clear hE
  go_enter Tryz.func38, Tryz.ntmps38
  go_wp2_with fail
  go_loopw [0, 3] (fun sv lv wr => ∃ (r : ByteArray) (f : Nat) (L : List ByteArray), sv = .string r ∧ r.size ≤ 4000 ∧ Hid (r.size ≤ f) ∧ Hid (wr.ownsRow w.heap.size 9 1 lv L.length (L.map Value.string)) ∧ Hid (L ++ pcsF f r = pcs s) ∧ Hid (Below w.heap.size w wr)) (fun sv _ _ => szV sv)
  case atStart => exact ⟨s, s.size, [], rfl, hs, (Nat.le_refl _ : s.size ≤ s.size), OW, ST, (Below.refl _ _ : Below w.heap.size w w)⟩
  case round =>
    obtain ⟨r, f, L, rfl, hr, HF, HO, HA, HB⟩ := hrel
    clear ST OW
    obtain ⟨av, cw, rfl, sv, -⟩ := own_head (unhide HO)
    by_cases h0 : r.size = 0
    · have hre := empty_size h0
      subst hre
      have R : Hid (L = pcs s) := by have := unhide HA; rw [pcsF_none _ _ h0, List.append_nil] at this; exact this
      clear h0
      go_wp2
      go_ret
      exact ⟨.slice av L.length cw, rfl, by rw [← unhide R]; exact unhide HO, unhide HB⟩
    · have gne := str_none h0
      have gn3 : ¬ r.toList = [] := fun e => by rw [e] at gne; simp at gne
      have gn4 : r.toList.isEmpty = false := List.isEmpty_eq_false_iff.2 gn3
      obtain ⟨ix, hix⟩ : ∃ ix, Lib.index r.data.toList cutB.data.toList = ix := ⟨_, rfl⟩
      have C := (unhide IX) r wr hr (unhide HB)
      rw [hix] at C
      have HC := hide C
      have he := endP_ok r (by omega)
      have hge := Lib.index_ge r.data.toList cutB.data.toList
      have hle := Lib.index_le r.data.toList cutB.data.toList
      rw [hix] at hge hle
      have hsz : r.data.toList.length = r.size := by rw [Array.length_toList]; rfl
      obtain ⟨en, hen⟩ : ∃ en, endP r = en := ⟨_, rfl⟩
      have hrs := rest_size r
      obtain ⟨g, rfl⟩ : ∃ g, f = g + 1 := ⟨f - 1, by have := unhide HF; omega⟩
      have HST := hide (pcsF_step g r (by omega))
      have HEN : endP r = if ix = -1 then r.size else (ix + 1).toNat := by unfold endP; rw [hix]
      rw [hen] at HEN he hrs HST
      have LL : Hid (L.length ≤ 4000) := by
        have h1 := congrArg List.length (unhide HA)
        have h2 := unhide HL
        rw [List.length_append] at h1
        unfold pcs at h1
        show L.length ≤ 4000
        omega
      have hw1 : IntKind.i64.wrap (ix + 1) = ix + 1 := by rw [IntKind.wrap_i64]; omega
      clear C hix
      by_cases hno : ix = -1
      · subst hno
        rw [if_pos rfl] at HEN
        have hpe : r.extract 0 r.size = r := by simp
        have hpr : (r.extract r.size r.size).size = 0 := by simp
        rw [HEN] at HST
        clear HEN hen hrs hge hle hsz
        have hbn := bel_new wr (.cells #[.string r] 9)
        have OWN5 := hide ((Gr.of (S := fun _ => False) hbn).own (unhide HO) (fun _ _ q => q))
        have NEWS := hide (World.news_of_block (heap_alloc_new wr (.cells #[.string r] 9)))
        have HB6 := hide (bel_on (unhide HB) hbn)
        clear hbn
        go_wp2_with fail
        refine (unhide HC).mono ?_
        rintro e w5 ⟨rfl, rfl⟩
        go_wp2_with (at_builtin; refine wpList_append_lies _ rfl _ _ 35 rfl w.heap.size 9 i0 (.string ⟨#[]⟩) 1 16 Tryz.underlying35 hi hz0 hz1 hz2 rfl (by decide) _ _ _ rfl (unhide OWN5) ⟨w5.heap.size, 0, none⟩ 1 1 [.string r] rfl rfl (unhide NEWS) (fun u hu => by simp at hu; subst hu; rfl) (by decide) (by have := unhide LL; unfold maxLen; omega) (by have := unhide LL; omega) (unhide HB6).size _ rfl ?_; intro g7 cap7 w7 hown7 hgrow7 hor7 _)
        have OWN7 := hide hown7
        have HB7 := hide ((unhide HB6).grown hgrow7 (unhide HB6).size (fun k hk => ((unhide OWN5).lt k hk).1))
        clear hown7 hgrow7 hor7
        go_wp2
        go_roundw
        case rel =>
          refine ⟨_, g, L ++ [r], rfl, by simp, (by show _ ≤ _; simp : Hid (_ ≤ g)), ?_, ?_, HB7⟩
          · have := unhide OWN7
            show World.ownsRow _ _ _ _ _ _ _
            simpa using this
          · show _ = _
            have h1 := unhide HA
            rw [unhide HST, hpe] at h1
            rw [← h1]
            simp
        case measure => simp [szV]; omega
      · obtain ⟨j, rfl⟩ : ∃ j : Nat, ix = j := ⟨ix.toNat, by omega⟩
        rw [if_neg (by omega)] at HEN
        obtain rfl : en = j + 1 := by rw [HEN]; omega
        have hjr : j + 1 ≤ r.size := he.2
        have hjI : ((j : Int) + 1) ≤ (r.size : Int) := by omega
        have gj0 : ((j : Int) + 1 == 0) = false := by simp; omega
        clear HEN hen hge hle hsz
        have hbn := bel_new wr (.cells #[.string (r.extract 0 (j + 1))] 9)
        have OWN5 := hide ((Gr.of (S := fun _ => False) hbn).own (unhide HO) (fun _ _ q => q))
        have NEWS := hide (World.news_of_block (heap_alloc_new wr (.cells #[.string (r.extract 0 (j + 1))] 9)))
        have HB6 := hide (bel_on (unhide HB) hbn)
        clear hbn
        go_wp2_with fail
        refine (unhide HC).mono ?_
        rintro e w5 ⟨rfl, rfl⟩
        go_wp2_with (at_builtin; refine wpList_append_lies _ rfl _ _ 35 rfl w.heap.size 9 i0 (.string ⟨#[]⟩) 1 16 Tryz.underlying35 hi hz0 hz1 hz2 rfl (by decide) _ _ _ rfl (unhide OWN5) ⟨w5.heap.size, 0, none⟩ 1 1 [.string (r.extract 0 (j + 1))] rfl rfl (unhide NEWS) (fun u hu => by simp at hu; subst hu; rfl) (by decide) (by have := unhide LL; unfold maxLen; omega) (by have := unhide LL; omega) (unhide HB6).size _ rfl ?_; intro g7 cap7 w7 hown7 hgrow7 hor7 _)
        have OWN7 := hide hown7
        have HB7 := hide ((unhide HB6).grown hgrow7 (unhide HB6).size (fun k hk => ((unhide OWN5).lt k hk).1))
        clear hown7 hgrow7 hor7
        go_wp2
        go_roundw
        case rel =>
          refine ⟨_, g, L ++ [r.extract 0 (j + 1)], rfl, by simp; omega, (by show _ ≤ _; have := unhide HF; simp; omega : Hid (_ ≤ g)), ?_, ?_, HB7⟩
          · have := unhide OWN7
            show World.ownsRow _ _ _ _ _ _ _
            simpa using this
          · show _ = _
            have h1 := unhide HA
            rw [unhide HST] at h1
            rw [← h1]
            simp
        case measure => simp [szV]; omega

end Go.Proofs.YthhlofipapfbnaaGreatDoor

/- The contract of what reads one order. -/
namespace Go.Proofs.YthhlofipapfbnaaGreatDoor
open Go.RowKit

def kindOf (s : ByteArray) : Option Nat := [2, 3, 4, 5, 6, 7, 8, 9, 10, 11, 12, 13].find? (fun k => (nameB k).toList == s.toList)

/-- The order of a word. -/
def parseW (s : ByteArray) : Option (Int × Int) :=
  match numOf s with
  | some n => some (1, n)
  | none => (kindOf s).map fun k => ((k : Int), 0)

theorem kindOf_hit (s : ByteArray) (j : Nat) (h2 : 2 ≤ j) (hj : j ≤ 13) (hno : ∀ i, 2 ≤ i → i < j → ((nameB i).toList == s.toList) = false) (hy : ((nameB j).toList == s.toList) = true) : kindOf s = some j := by
  unfold kindOf
  rw [List.find?_eq_some_iff_getElem]
  refine ⟨hy, j - 2, by simp; omega, ?_, fun i hi => ?_⟩
  · have : ∀ m : Fin 12, [2, 3, 4, 5, 6, 7, 8, 9, 10, 11, 12, 13][m.val] = m.val + 2 := by decide
    have e := this ⟨j - 2, by omega⟩
    simp only at e
    rw [e]; omega
  · have : ∀ m : Fin 12, [2, 3, 4, 5, 6, 7, 8, 9, 10, 11, 12, 13][m.val] = m.val + 2 := by decide
    have e := this ⟨i, by omega⟩
    simp only at e
    rw [e, hno (i + 2) (by omega) (by omega)]; rfl
theorem kindOf_miss (s : ByteArray) (hno : ∀ i, 2 ≤ i → i < 14 → ((nameB i).toList == s.toList) = false) : kindOf s = none := by
  unfold kindOf
  rw [List.find?_eq_none]
  intro k hk
  have : 2 ≤ k ∧ k < 14 := by
    simp only [List.mem_cons, List.mem_nil_iff, or_false] at hk
    omega
  rw [hno k this.1 this.2]
  decide

set_option maxHeartbeats 1600000 in
theorem parseOrder_num (s : ByteArray) (n : Int) (hs : s.size ≤ 4000) (hn : numOf s = some n) (w : World) (hE : EnvP w) :
    Calls Tryz.prog 211 #[.string s] w fun e w' => e = .returned (.tuple #[.agg #[.int .i64 1, .int .i64 n], .bool true]) ∧ Below w.heap.size w w' := by
  have hba : Below w.heap.size w (w.alloc (.cells #[.int .i64 0, .int .i64 0] 160)) := (Below.refl _ _).alloc (Nat.le_refl _) _
  have NP := hide (numParse_any s hs _ (hE.later hba))
  rw [hn] at NP
  have HBA := hide hba
  clear hE hn hba
  go_enter Tryz.func211, Tryz.ntmps211
  go_wp2_with fail
  refine (unhide NP).mono ?_
  rintro e w1 ⟨rfl, hb1⟩
  have hblk : w1.heap[w.heap.size]? = some (.cells #[.int .i64 0, .int .i64 0] 160 (0, 0)) := (hb1.block _ (by simp)).trans (heap_alloc_new _ _)
  have c0 : w1.cell? ⟨w.heap.size, 0, none⟩ = some (.int .i64 0) := cell_of_row _ _ 0 _ _ _ hblk
  have c1 : w1.cell? ⟨w.heap.size, 1, none⟩ = some (.int .i64 0) := cell_of_row _ _ 1 _ _ _ hblk
  have f0 : w1.frozen? ⟨w.heap.size, 0, none⟩ = false := frozen_of_row _ _ 0 _ _ hblk
  have f1 : w1.frozen? ⟨w.heap.size, 1, none⟩ = false := frozen_of_row _ _ 1 _ _ hblk
  have HB1 := hide (bel_tw (unhide HBA) hb1)
  clear hb1 hblk
  go_wp2
  (try simp only [Exit.inBlock, Exit.then])
  refine bodyPost_ret (v := .tuple #[.agg #[.int .i64 1, .int .i64 n], .bool true]) ?_ rfl ⟨rfl, ?_⟩
  · rw [results_cell_tmp rfl]
    go_simp
  · exact ((unhide HB1).setCell (Nat.le_refl _) _).setCell (Nat.le_refl _) _

set_option maxHeartbeats 3200000 in
theorem parseOrder_word (s : ByteArray) (hs : s.size ≤ 4000) (hn : numOf s = none) (w : World) (hE : EnvP w) :
    Calls Tryz.prog 211 #[.string s] w fun e w' => e = .returned (.tuple #[.agg #[.int .i64 ((parseW s).getD (0, 0)).1, .int .i64 ((parseW s).getD (0, 0)).2], .bool (parseW s).isSome]) ∧ Below w.heap.size w w' := by
  have hba : Below w.heap.size w (w.alloc (.cells #[.int .i64 0, .int .i64 0] 160)) := (Below.refl _ _).alloc (Nat.le_refl _) _
  have NP := hide (numParse_any s hs _ (hE.later hba))
  rw [hn] at NP
  have HN := hide hn
  have HE := hide hE
  have HBA := hide hba
  clear hE hn hba
  go_enter Tryz.func211, Tryz.ntmps211
  go_wp2_with fail
  refine (unhide NP).mono ?_
  rintro e w1 ⟨rfl, hb1⟩
  have hblk : w1.heap[w.heap.size]? = some (.cells #[.int .i64 0, .int .i64 0] 160 (0, 0)) := (hb1.block _ (by simp)).trans (heap_alloc_new _ _)
  have c0 : w1.cell? ⟨w.heap.size, 0, none⟩ = some (.int .i64 0) := cell_of_row _ _ 0 _ _ _ hblk
  have c1 : w1.cell? ⟨w.heap.size, 1, none⟩ = some (.int .i64 0) := cell_of_row _ _ 1 _ _ _ hblk
  have f0 : w1.frozen? ⟨w.heap.size, 0, none⟩ = false := frozen_of_row _ _ 0 _ _ hblk
  have f1 : w1.frozen? ⟨w.heap.size, 1, none⟩ = false := frozen_of_row _ _ 1 _ _ hblk
  have HB1 := hide (bel_tw (unhide HBA) hb1)
  clear hb1 hblk
  have HNM := hide ((unhide HE).later (unhide HB1)).env
  have hgl := (unhide HNM).lt
  go_wp2
  go_loop [6] (fun i => ∃ j : Nat, 2 ≤ j ∧ j ≤ 14 ∧ i = .int .i64 j ∧ ∀ m, 2 ≤ m → m < j → ((nameB m).toList == s.toList) = false) (fun i => 14 - (intOf i).toNat)
  case atStart => exact ⟨2, Nat.le_refl _, by decide, rfl, fun m h1 h2 => absurd h1 (by omega)⟩
  case round =>
    obtain ⟨j, hj2, hj14, rfl, hno⟩ := hrel
    have HNO := hide hno
    clear hno
    by_cases hlt : j ≤ 13
    · have cn := (unhide HNM).name j (by omega)
      have g14 : (j : Int) < 14 := by omega
      obtain ⟨x, hx⟩ : ∃ x, x = nameB j := ⟨_, rfl⟩
      rw [← hx] at cn
      have HX := hide hx
      clear hx
      by_cases hq : (x.toList == s.toList) = true
      · go_wp2
        (try simp only [Exit.inBlock, Exit.then])
        have e : parseW s = some ((j : Int), 0) := by
          have hk := kindOf_hit s j hj2 hlt (unhide HNO) (by rw [← unhide HX]; exact hq)
          unfold parseW; rw [unhide HN, hk]; rfl
        refine bodyPost_ret (v := .tuple #[.agg #[.int .i64 j, .int .i64 0], .bool true]) ?_ rfl ⟨?_, ?_⟩
        · rw [results_cell_tmp rfl]
          go_simp
        · rw [e]; rfl
        · exact ((unhide HB1).setCell (Nat.le_refl _) _).setCell (Nat.le_refl _) _
      · have hq' : (x.toList == s.toList) = false := by simpa using hq
        clear hq
        go_wp2
        go_round
        case rel =>
          refine ⟨j + 1, by omega, by omega, by go_num, fun m h1 h2 => ?_⟩
          by_cases hm : m = j
          · subst hm; rw [← unhide HX]; exact hq'
          · exact (unhide HNO) m h1 (by omega)
        case measure => simp [intOf]; omega
    · have e14 : j = 14 := by omega
      subst e14
      clear hlt
      go_wp2
      (try simp only [Exit.inBlock, Exit.then])
      have e : parseW s = none := by
        have hk := kindOf_miss s (unhide HNO)
        unfold parseW; rw [unhide HN, hk]; rfl
      refine bodyPost_ret (v := .tuple #[.agg #[.int .i64 0, .int .i64 0], .bool false]) ?_ rfl ⟨?_, ?_⟩
      · rw [results_cell_tmp rfl]
        go_simp
      · rw [e]; rfl
      · exact ((unhide HB1).setCell (Nat.le_refl _) _).setCell (Nat.le_refl _) _

theorem parseOrder_any (s : ByteArray) (hs : s.size ≤ 4000) (w : World) (hE : EnvP w) :
    Calls Tryz.prog 211 #[.string s] w fun e w' => e = .returned (.tuple #[.agg #[.int .i64 ((parseW s).getD (0, 0)).1, .int .i64 ((parseW s).getD (0, 0)).2], .bool (parseW s).isSome]) ∧ Below w.heap.size w w' := by
  cases hn : numOf s with
  | none => exact parseOrder_word s hs hn w hE
  | some n =>
    have e : parseW s = some (1, n) := by unfold parseW; rw [hn]
    rw [e]
    exact parseOrder_num s n hs hn w hE

end Go.Proofs.YthhlofipapfbnaaGreatDoor

/- The cells of orders in memory, and slices of orders that the call owns. -/
namespace Go.Proofs.YthhlofipapfbnaaGreatDoor
open Go.RowKit

theorem ops_nil (w : World) (a : Option Addr) : OpsAt w a 0 [] := ⟨rfl, fun h => absurd h (by omega)⟩

/-- The cells of orders. -/
def flat : List (Int × Int) → List Value
  | [] => []
  | o :: r => .int .i64 o.1 :: .int .i64 o.2 :: flat r

theorem flat_len : ∀ l : List (Int × Int), (flat l).length = l.length * 2
  | [] => rfl
  | _ :: r => by simp only [flat, List.length_cons, flat_len r]; omega
theorem flat_append : ∀ l m : List (Int × Int), flat (l ++ m) = flat l ++ flat m
  | [], _ => rfl
  | _ :: r, m => by simp only [List.cons_append, flat, flat_append r m]
theorem flat_at : ∀ (l : List (Int × Int)) (i : Nat), i < l.length → (flat l)[i * 2]? = some (.int .i64 (l.getD i (0, 0)).1) ∧ (flat l)[i * 2 + 1]? = some (.int .i64 (l.getD i (0, 0)).2)
  | [], i, h => absurd h (by simp)
  | o :: r, 0, _ => ⟨rfl, rfl⟩
  | o :: r, i + 1, h => by
    have := flat_at r i (by simpa using h)
    have e : (i + 1) * 2 = i * 2 + 2 := by omega
    rw [e]
    exact this
/-- The cells of orders in memory, one by one. -/
theorem OpsAt.flat {w : World} {x : Addr} {len : Nat} {l : List (Int × Int)} (h : OpsAt w (some x) len l) (j : Nat) (u : Value) (hj : (flat l)[j]? = some u) : w.cell? (x.add j) = some u := by
  have hjl : j < (YthhlofipapfbnaaGreatDoor.flat l).length := by
    rcases Nat.lt_or_ge j (YthhlofipapfbnaaGreatDoor.flat l).length with h | h
    · exact h
    · rw [List.getElem?_eq_none h] at hj; cases hj
  rw [flat_len] at hjl
  have hz := h.1
  obtain ⟨b, off, hx, hc⟩ := h.2 (by omega)
  cases hx
  have hadd : (⟨b, off, none⟩ : Addr).add j = ⟨b, off + j, none⟩ := by unfold Addr.add; split <;> simp_all
  rw [hadd]
  obtain ⟨i, hi | hi⟩ : ∃ i, j = i * 2 ∨ j = i * 2 + 1 := ⟨j / 2, by omega⟩
  · subst hi
    have f := (flat_at l i (by omega)).1
    rw [f] at hj
    rw [(hc i (by omega)).1]; exact hj
  · subst hi
    have f := (flat_at l i (by omega)).2
    rw [f] at hj
    rw [← Nat.add_assoc, (hc i (by omega)).2]; exact hj

theorem ops_of_own {w : World} {base : Nat} {e : TypeId} {v : Value} {n : Nat} {l : List (Int × Int)} (h : w.ownsRow base e 2 v n (flat l)) : ∃ a cap, v = .slice a n cap ∧ OpsAt w a n l := by
  have hl : l.length = n := by have := h.1; rw [flat_len] at this; omega
  rcases h.2 with ⟨rfl, rfl⟩ | ⟨g, cap, cur, rfl, _, _, _, _, _, _⟩
  · have e : l = [] := List.length_eq_zero_iff.1 hl
    subst e
    exact ⟨none, 0, rfl, ops_nil _ _⟩
  · refine ⟨_, cap, rfl, hl, fun _ => ⟨g, 0, rfl, fun i hi => ?_⟩⟩
    have f := flat_at l i (by omega)
    rw [Nat.zero_add, World.ownsRow.cellAt h (i * 2) (by omega), World.ownsRow.cellAt h (i * 2 + 1) (by omega)]
    exact f

theorem Tryz.infoOp : (Tryz.prog.info? 160).map (fun i => (i.zero, i.size, i.bytes)) = some (some (.agg #[.int .i64 0, .int .i64 0]), 2, 16) := by kernel_rfl

theorem own_ge {w : World} {base : Nat} {e : TypeId} {size : Nat} {v : Value} {n : Nat} {xs : List Value} (h : w.ownsRow base e size v n xs) (k : Nat) (hk : v.ownBlock = some k) : base ≤ k := by
  rcases h.2 with ⟨rfl, _⟩ | ⟨g, cap, cur, rfl, hg, _⟩
  · cases hk
  · cases hk; exact hg

end Go.Proofs.YthhlofipapfbnaaGreatDoor
