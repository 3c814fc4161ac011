/- The contract of Print of transactions: its error, and the text of a right one. -/
import Derived.Test.YtepmnpapdknocaaGreatDoorTxRow
import Derived.Test.YtepmnpapdknocaaGreatDoorTxCheckD
namespace Go.Proofs.YtepmnpapdknocaaGreatDoor
open Go.RowKit

def txB : ByteArray := ⟨#[116, 120]⟩
def inB : ByteArray := ⟨#[105, 110]⟩
def outB : ByteArray := ⟨#[111, 117, 116]⟩

def headText (h : Int) : ByteArray := rowB txB [h] ++ ⟨#[10]⟩
def inText (x : InD) : ByteArray := lineB inB [x.1, x.2.1] x.2.2
def outText (x : OutD) : ByteArray := lineB outB [x.1] x.2
def insText (h : Int) (I : List InD) : ByteArray := I.foldl (fun t x => t ++ inText x) (headText h)
def outsText (t : ByteArray) (O : List OutD) : ByteArray := O.foldl (fun t x => t ++ outText x) t
/-- The text of a transaction. -/
def txText (t : TxD) : ByteArray := outsText (insText t.1 t.2.1) t.2.2

theorem insText_snoc (h : Int) (I : List InD) (x : InD) : insText h (I ++ [x]) = insText h I ++ inText x := by unfold insText; rw [List.foldl_append]; rfl
theorem outsText_snoc (t : ByteArray) (O : List OutD) (x : OutD) : outsText t (O ++ [x]) = outsText t O ++ outText x := by unfold outsText; rw [List.foldl_append]; rfl

theorem headText_size (h : Int) (hh : 0 ≤ h ∧ h ≤ 1000) : (headText h).size ≤ 30 := by
  unfold headText
  have := rowB_size txB [h] (fun z hz => by simp at hz; omega)
  rw [size_one]
  have e : txB.size = 2 := rfl
  simp only [List.length_cons, List.length_nil] at this
  omega
theorem inText_size (x : InD) (h : ptOk x = true ∧ chk x.2.2 = 0) : (inText x).size ≤ 460 := by
  have hp := (ptOk_iff x).1 h.1
  exact lineB_size inB [x.1, x.2.1] x.2.2 (by decide) (by simp) (fun z hz => by simp at hz; omega) h.2
theorem outText_size (x : OutD) (h : (1 ≤ x.1 ∧ x.1 ≤ 1000000000) ∧ chk x.2 = 0) : (outText x).size ≤ 460 :=
  lineB_size outB [x.1] x.2 (by decide) (by simp) (fun z hz => by simp at hz; omega) h.2
theorem insText_size (h : Int) (I : List InD) (hh : 0 ≤ h ∧ h ≤ 1000) (hI : ∀ x ∈ I, ptOk x = true ∧ chk x.2.2 = 0) : (insText h I).size ≤ 30 + 460 * I.length := by
  have h1 := foldl_size inText 460 I (headText h) (fun x hx => inText_size x (hI x hx))
  have h2 := headText_size h hh
  have h3 : (insText h I).size ≤ (headText h).size + 460 * I.length := h1
  omega
theorem outsText_size (t : ByteArray) (O : List OutD) (hO : ∀ x ∈ O, (1 ≤ x.1 ∧ x.1 ≤ 1000000000) ∧ chk x.2 = 0) : (outsText t O).size ≤ t.size + 460 * O.length :=
  foldl_size outText 460 O t (fun x hx => outText_size x (hO x hx))

theorem one_new (w : World) (x : Value) (t : TypeId) : (w.alloc (.cells #[x] t)).cell? ⟨w.heap.size, 0, none⟩ = some x := by rw [World.cell?_alloc_at _ _ _ _ rfl]; rfl

end Go.Proofs.YtepmnpapdknocaaGreatDoor
