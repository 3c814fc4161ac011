import Derived.Test.YtmomfkikogbdeaaGreatDoorG41
namespace Go.Proofs.YtmomfkikogbdeaaGreatDoor
open Go.RowKit
theorem Vw{K:List ByteArray}{N:List Int}{T:List Zk}{P:List TxD}{tip:Int}(h:opE K N T P tip=0):P.length≤8∧∀ t∈P,Tr.TxSmall t:=by
 have po:=(Yf h).2.2.2
 unfold poE at po
 split at po
 ·rename_i q
  have e:P=[]:=List.eq_nil_of_length_eq_zero q
  subst e
  exact⟨by simp,fun t ht=>by cases ht⟩
 split at po
 ·cases po
 rename_i q1
 split at po
 ·rename_i q;exact absurd po q
 rename_i q2
 refine⟨(Uw (Decidable.not_not.1 q2)).2,fun t ht=>?_⟩
 have hk:P.all (knT K)=true:=by simpa using q1
 have:=List.all_eq_true.1 hk t ht
 unfold knT at this
 simp only[Bool.and_eq_true,decide_eq_true_eq] at this
 exact Tr.tx_small this.1
theorem mvd{V W:World}{b:Nat}{o:Obj}(hb:Below V.heap.size V W)(h:Hid (V.heap[b]? = some o)):Hid (W.heap[b]? = some o):=(hb.block _ (lt_of_block (Za h))).trans (Za h)
theorem onb{U V W:World}(h:Hid (Below U.heap.size U V))(hb:Below V.heap.size V W):Hid (Below U.heap.size U W):=Zf (Za h) hb
section
variable {V : World} {b : Nat} {t : TypeId} {v0 v1 v2 v3 v4 : Value}
theorem cl1(h:Hid (V.heap[b]? = some (.cells [v0].toArray t (0,0)))):V.cell? ⟨b,0,none⟩=some v0∧b<V.heap.size:=⟨Zd (Za h) 0 _ rfl,lt_of_block (Za h)⟩
theorem cl3(h:Hid (V.heap[b]? = some (.cells [v0,v1,v2].toArray t (0,0)))):V.cell? ⟨b,0,none⟩=some v0∧V.cell? ⟨b,1,none⟩=some v1∧V.cell? ⟨b,2,none⟩=some v2∧b<V.heap.size:=⟨Zd (Za h) 0 _ rfl,Zd (Za h) 1 _ rfl,Zd (Za h) 2 _ rfl,lt_of_block (Za h)⟩
theorem cl4(h:Hid (V.heap[b]? = some (.cells [v0,v1,v2,v3].toArray t (0,0)))):V.cell? ⟨b,0,none⟩=some v0∧V.cell? ⟨b,1,none⟩=some v1∧V.cell? ⟨b,2,none⟩=some v2∧V.cell? ⟨b,3,none⟩=some v3∧b<V.heap.size:=⟨Zd (Za h) 0 _ rfl,Zd (Za h) 1 _ rfl,Zd (Za h) 2 _ rfl,Zd (Za h) 3 _ rfl,lt_of_block (Za h)⟩
theorem cl5(h:Hid (V.heap[b]? = some (.cells [v0,v1,v2,v3,v4].toArray t (0,0)))):V.cell? ⟨b,0,none⟩=some v0∧V.cell? ⟨b,1,none⟩=some v1∧V.cell? ⟨b,2,none⟩=some v2∧V.cell? ⟨b,3,none⟩=some v3∧V.cell? ⟨b,4,none⟩=some v4∧b<V.heap.size:=⟨Zd (Za h) 0 _ rfl,Zd (Za h) 1 _ rfl,Zd (Za h) 2 _ rfl,Zd (Za h) 3 _ rfl,Zd (Za h) 4 _ rfl,lt_of_block (Za h)⟩
end
end Go.Proofs.YtmomfkikogbdeaaGreatDoor
