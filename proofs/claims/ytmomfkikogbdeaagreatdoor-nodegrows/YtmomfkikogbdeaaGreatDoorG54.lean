import Derived.Test.YtmomfkikogbdeaaGreatDoorG46
import Derived.Test.YtmomfkikogbdeaaGreatDoorG53
set_option maxHeartbeats 1600000
namespace Go.Proofs.YtmomfkikogbdeaaGreatDoor.Bk
open Go.RowKit Go.Maps
theorem Y4(a:Option Addr)(n c:Nat)(L:List ByteArray)(w:World)(h:TextsAt w a n L)(x:Int)(hx:bkChk L=x) :
  Calls Tryz.prog 59 #[.agg #[.slice a n c]] w fun e w'=>e = .returned (.int .i64 x)∧Below w.heap.size w w':=by
 have hb:=Zi w (.cells #[.slice a n c] 24)
 have O:=Zb (Md a n c L _ (h.later hb) x hx)
 have HB:=Zb hb
 clear h hx hb
 go_enter Tryz.func59,Tryz.ntmps59
 go_wp2_with fail
 refine (Za O).mono ?_
 rintro e w2 ⟨v,rfl,-,hb2⟩
 have HB2:=Zb (Zf (Za HB) hb2)
 clear hb2
 go_wp2
 go_ret
 exact⟨rfl,Za HB2⟩
theorem look_is(a:Option Addr)(n c:Nat)(L:List ByteArray)(m:Int)(w:World)(h:TextsAt w a n L)(hx:bkChk L=0) :
  Calls Tryz.prog 35 #[.agg #[.slice a n c],.int .i64 m] w fun e w'=>e = .returned (.tuple #[.string (lookT L m),.int .i64 (lookE L m)])∧Below w.heap.size w w':=by
 have hb:=Zi w (.cells #[.slice a n c] 24)
 have c0:=Qi w (.slice a n c) 24
 have hx1:=h.later hb
 have O:=Zb (Y4 a n c L _ hx1 0 hx)
 have HB:=Zb hb
 have hz:=h.1
 have h120:=((right_iff L).1 hx).1
 have HT:=Zb hx1
 have C0:=Zb c0
 clear h hx hb hx1 c0
 by_cases h1:1≤m∧m≤L.length
 ·obtain⟨k,hk⟩:∃ k:Nat,m=(k:Int)+1:=⟨(m - 1).toNat,by omega⟩
  subst hk
  have hkl:k<L.length:=by omega
  have e1:lookT L ((k:Int)+1)=L[k]:=by
   unfold lookT;rw[if_pos h1]
   have:((k:Int)+1).toNat - 1=k:=by omega
   rw[this];simp[hkl]
  have e2:lookE L ((k:Int)+1)=0:=by unfold lookE;rw[if_pos h1]
  rw[e1,e2]
  obtain⟨s,hs⟩:∃ s,L[k]=s:=⟨_,rfl⟩
  rw[hs]
  have Wt:=Zb (fun w=>Yi ((k:Int)+1) 1 (n:Int) true w (by simp;omega))
  have HL:=Zb hkl
  have HS:=Zb hs
  have g1:(k:Int)<(n:Int):=by omega
  have g3:(k:Int)<120:=by omega
  clear h120
  have g2:(0:Int)≤(k:Int):=by omega
  clear e1 e2 h1 hs
  go_enter Tryz.func35,Tryz.ntmps35
  go_wp2_with fail
  refine (Za O).mono ?_
  rintro e w2 ⟨rfl,hb2⟩
  have HB2:=Zb (Zf (Za HB) hb2)
  have c0:=Ze hb2 (Za C0)
  have hl2:w.heap.size<w2.heap.size:=World.block_lt_of_cell? _ _ c0
  obtain⟨b,off,rfl,hc⟩:=((Za HT).later hb2).2 (by omega)
  have f:=hc k (Za HL)
  rw[Za HS] at f
  clear hb2 hc
  go_wp2_with fail
  refine ((Za Wt) _).mono ?_
  rintro e w3 ⟨rfl,rfl⟩
  go_wp2
  go_ret2
  exact⟨rfl,Za HB2⟩
 ·have e1:lookT L m=⟨#[]⟩:=by unfold lookT;rw[if_neg h1]
  have e2:lookE L m=5:=by unfold lookE;rw[if_neg h1]
  rw[e1,e2]
  have Wt:=Zb (fun w=>Yi m 1 (n:Int) false w (by rw[←hz];simp;omega))
  clear e1 e2 h1 hz
  go_enter Tryz.func35,Tryz.ntmps35
  go_wp2_with fail
  refine (Za O).mono ?_
  rintro e w2 ⟨rfl,hb2⟩
  have HB2:=Zb (Zf (Za HB) hb2)
  have c0:=Ze hb2 (Za C0)
  have hl2:w.heap.size<w2.heap.size:=World.block_lt_of_cell? _ _ c0
  clear hb2
  go_wp2_with fail
  refine ((Za Wt) _).mono ?_
  rintro e w3 ⟨rfl,rfl⟩
  go_wp2
  go_ret2
  exact⟨rfl,Za HB2⟩
end Go.Proofs.YtmomfkikogbdeaaGreatDoor.Bk
namespace Go.Proofs.YtmomfkikogbdeaaGreatDoor
open Go.RowKit
theorem Av{K:List ByteArray}{s:Int}{b:Zk}(h0:s≠0)(h:kbD K s b=true):Bk.lookT K s=Pr b∧Bk.lookE K s=0:=by
 obtain⟨_,h2,_⟩:=Wb h
 obtain⟨n,hn⟩:∃ n:Nat,Bk.place (Pr b) K=n+1:=⟨Bk.place (Pr b) K - 1,by omega⟩
 have hg:=Bk.place_get hn
 have hl:n<K.length:=(List.getElem?_eq_some_iff.1 hg).1
 have hs:s=(n:Int)+1:=by omega
 subst hs
 unfold Bk.lookT Bk.lookE
 have hc:1≤(n:Int)+1∧(n:Int)+1≤K.length:=by omega
 rw[if_pos hc,if_pos hc]
 refine⟨?_,rfl⟩
 have e:((n:Int)+1).toNat - 1=n:=by omega
 rw[e,List.getD_eq_getElem?_getD,hg]
 rfl
theorem Du{K:List ByteArray}{N:List Int}{T:List Zk}{P:List TxD}{tip:Int}{b:Zk}{nm:Int}{D:Dsk}(h:ntR K N T P tip b=(0,nm,D)) :
  opE K N T P tip=0∧opE D.k D.n D.t D.p D.tip=0∧Tr.blockE D.n D.t nm=(b,0)∧(∃ v u,Tr.workE N T tip=(v,0)∧Tr.workE D.n D.t D.tip=(u,0)∧v≤u)∧kbD D.k nm b=true∧nm≠0∧D.n.length=N.length+1∧D.n.take N.length=N:=by
 unfold ntR at h
 split at h
 ·rename_i q;exact absurd (congrArg Prod.fst h) q
 rename_i q1;have q1:=Decidable.not_not.1 q1
 split at h
 ·rename_i q;exact absurd (congrArg Prod.fst h) q
 rename_i q2;have q2:=Decidable.not_not.1 q2
 simp only[Prod.mk.injEq,true_and] at h
 have e:tkR ⟨K,N,T,P,tip,(Zq K N T noB).2⟩ b=(0,nm,D):=Prod.ext q2 (Prod.ext h.1 h.2)
 obtain⟨t1,_,t3,t4,t5,_,t7⟩:=Uv q1 e
 obtain⟨_,o2,_,_⟩:=Yf q1
 obtain⟨_,p2,_,_⟩:=Yf t1
 obtain⟨m,n,v,u,own,up,Q,g1,g2,g3,g4,_,_,_,_,g9,_,_,_,_,_,_,_,_,g18,g19⟩:=Tr.grow_facts t7
 rw[o2] at g1
 rw[p2] at g2
 simp only[Prod.mk.injEq,and_true] at g1 g2
 subst g1 g2
 have hc:=(Yh p2).1
 have ok:=Tr.TrOk.of hc
 have okN:=Tr.TrOk.of (Yh o2).1
 have hm:nm∈D.n:=by rw[t3];simp
 have hnm:=(ok.nm nm hm).1
 have hnd:=ok.nd
 have hno:nm∉N:=by
  rw[t3] at hnd
  intro q
  exact (List.nodup_append.1 hnd).2.2 nm q nm (by simp) rfl
 refine⟨q1,t1,?_,⟨v,u,g3,g4,g9⟩,t5,by omega,g19,g18⟩
 unfold Tr.blockE
 rw[if_neg (fun q=>q hc),if_pos (by simpa using hm),t3,t4,Tr.fnd_app_r okN.len hno]
 simp[Tr.fnd]
end Go.Proofs.YtmomfkikogbdeaaGreatDoor
