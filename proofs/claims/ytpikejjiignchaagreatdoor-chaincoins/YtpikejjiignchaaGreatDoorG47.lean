import Derived.Test.YtpikejjiignchaaGreatDoorG46
import Derived.Deep.SlicePairs
import Derived.HandedShaped
namespace Go.Proofs.YtpikejjiignchaaGreatDoor
open Go.RowKit
structure PSt(b p:Nat)(w:World)(v:Value)(K:List (List Value))(L:List TxD):Prop where
 box:w.heap[b]? = some (.cells #[v] 48 (0,0))
 own:w.ownsRow (p+1) 52 3 v L.length K.flatten
 kept:∀ w2,Gr w w2 (fun q=>q≤p∨v.ownBlock=some q)→Tr.AllC Tr.txR w2 K L
 bp:b<p
 pl:p<w.heap.size
theorem PSt.start{b p:Nat}{w:World}(h:w.heap[b]? = some (.cells #[.slice none 0 0] 48 (0,0)))(bp:b<p)(pl:p<w.heap.size):PSt b p w (.slice none 0 0) [] []:=
 ⟨h,⟨rfl,.inl ⟨rfl,rfl⟩⟩,fun _ _=>⟨rfl,fun i h1 _=>absurd h1 (by simp)⟩,bp,pl⟩
theorem PSt.on{b p:Nat}{w w':World}{v:Value}{K:List (List Value)}{L:List TxD}{S:Nat→Prop}(h:PSt b p w v K L)(g:Gr w w' S)(hS:∀ q,S q→q≤p∧q≠b):PSt b p w' v K L:=
 ⟨g.heap h.box (fun e=>(hS b e).2 rfl),g.own h.own (fun k hk e=>by have:=(h.own.lt k hk).1;have:=(hS k e).1;omega),
  fun w2 g2=>h.kept w2 ((g.mono (fun q _ e=>.inl (hS q e).1)).trans g2),h.bp,Nat.lt_of_lt_of_le h.pl g.size⟩
def D0(lo hi:Nat):Nat→Prop:=fun q=>(lo≤q∧q<hi)∨(Value.slice none 0 0).ownBlock=some q
theorem D0.ge{lo hi q:Nat}(h:D0 lo hi q):lo≤q∧q<hi:=by
 rcases h with h|h
 ·exact h
 ·cases h
def DV(lo hi:Nat)(v:Value):Nat→Prop:=fun q=>(lo≤q∧q<hi)∨v.ownBlock=some q
theorem DV.dirty{lo hi b p:Nat}{w:World}{v:Value}{K:List (List Value)}{L:List TxD}{N0:Nat}(h:PSt b p w v K L)(hh:hi≤N0)(hp:N0≤p)(q:Nat)(hq:DV lo hi v q):q≠p∧q<w.heap.size∧(D0 lo hi q∨N0≤q):=by
 have:=h.pl
 rcases hq with e|e
 ·exact⟨by omega,by omega,.inl (.inl e)⟩
 ·have:=h.own.lt q e
  exact⟨by omega,this.2,.inr (by omega)⟩
theorem PSt.reads{b p:Nat}{w w2:World}{va:Option Addr}{vc:Nat}{K:List (List Value)}{L:List TxD}{S:Nat→Prop}(h:PSt b p w (.slice va L.length vc) K L)(g:Gr w w2 S)(hS:∀ q,S q→q≤p):TxsAt w2 va L.length L∧SlOk va L.length vc:=by
 have o:=g.own h.own (fun k hk e=>by have:=(h.own.lt k hk).1;have:=hS k e;omega)
 obtain⟨a,c,e,h1,h2⟩:=Tr.rows_of_own Tr.txR o (h.kept w2 (g.mono (fun q _ e=>.inl (hS q e)))) rfl
 injection e with e1 _ e3
 subst e1 e3
 exact⟨h1,h2⟩
def F6(w:World):List Obj→World
 | []=>w
 | o :: r=>F6 (w.alloc o) r
theorem Tt:∀ (os:List Obj) (w:World),Below w.heap.size w (F6 w os)
 | [],_=>Below.refl _ _
 | o :: r,w=>Ze (Zg w o) (Tt r (w.alloc o))
theorem P8:∀ (os:List Obj) (w:World) (i:Nat) (o:Obj),os[i]? = some o→(F6 w os).heap[w.heap.size+i]? = some o
 | [],_,_,_,h=>by simp at h
 | o :: r,w,0,x,h=>by
  simp at h;subst h
  have h1:(w.alloc o).heap[w.heap.size]? = some o:=heap_alloc_new w o
  exact ((Tt r (w.alloc o)).block _ (lt_of_block h1)).trans h1
 | o :: r,w,i+1,x,h=>by
  have:=P8 r (w.alloc o) i x (by simpa using h)
  rw[show (w.alloc o).heap.size+i=w.heap.size+(i+1) by simp;omega] at this
  exact this
theorem mvd{V W:World}{b:Nat}{o:Obj}(hb:Below V.heap.size V W)(h:Hid (V.heap[b]? = some o)):Hid (W.heap[b]? = some o):=(hb.block _ (lt_of_block (Za h))).trans (Za h)
theorem onb{U V W:World}(h:Hid (Below U.heap.size U V))(hb:Below V.heap.size V W):Hid (Below U.heap.size U W):=Ze (Za h) hb
section
variable {V : World} {b : Nat} {t : TypeId} {v0 v1 v2 v3 v4 : Value}
theorem cl1(h:Hid (V.heap[b]? = some (.cells [v0].toArray t (0,0)))):V.cell? ⟨b,0,none⟩=some v0∧b<V.heap.size:=⟨Zd (Za h) 0 _ rfl,lt_of_block (Za h)⟩
theorem cl2(h:Hid (V.heap[b]? = some (.cells [v0,v1].toArray t (0,0)))):V.cell? ⟨b,0,none⟩=some v0∧V.cell? ⟨b,1,none⟩=some v1∧b<V.heap.size:=⟨Zd (Za h) 0 _ rfl,Zd (Za h) 1 _ rfl,lt_of_block (Za h)⟩
end
open Tr (fnd Yt chkTr TrOk pathE)
theorem Hl{N:List Int}{T:List Zk}{t:Int}(hc:chkTr N T=0)(ht:¬(t=0∨t∈N)):pathE N T t=([],5):=by
 unfold Tr.pathE
 rw[if_neg (fun q=>q hc),if_pos ⟨fun q=>ht (.inl q),by simpa using fun q=>ht (.inr q)⟩]
theorem Bj{N:List Int}{T:List Zk}{t:Int}(hc:chkTr N T≠0):pathE N T t=([],chkTr N T):=by
 unfold Tr.pathE
 rw[if_pos hc]
theorem N9{N:List Int}{T:List Zk}{s t y:Int}(h:(pathE N T t).2=y)(hy:y≠0):J9 N T s t=(0,y):=by
 unfold J9
 rw[h,if_pos hy]
theorem Zhy{N:List Int}{T:List Zk}{s t i:Int}{P:List Int}(hc:chkTr N T=0)(ht:t=0∨t∈N)(hP:Yt N T t=P)(hi:Tr.idxI s P 0=i):J9 N T s t=if s∈P then ((P.length:Int) - 1 - i,0) else (0,5):=by
 unfold J9
 rw[Se hc ht,if_neg (fun q=>q rfl)]
 simp only
 rw[hP,hi]
 have e:=Tr.idxI_has s P 0
 rw[hi] at e
 by_cases q:s∈P
 ·rw[if_pos q,if_neg]
  have:decide (0≤i)=true:=by rw[e];exact decide_eq_true q
  have:=of_decide_eq_true this
  omega
 ·rw[if_neg q,if_pos]
  have:decide (0≤i)=false:=by rw[e];exact decide_eq_false q
  have:=of_decide_eq_false this
  omega
theorem Rn{K:List ByteArray}{N:List Int}{T:List Zk}{s k:Int}(h:Bk.bkChk K=k)(hk:k≠0):Wa K N T s=(k,[]):=by
 unfold Wa
 rw[h,if_pos hk]
theorem U9{K:List ByteArray}{N:List Int}{T:List Zk}{s y:Int}(h:Bk.bkChk K=0)(hy:(pathE N T s).2=y)(h0:y≠0):Wa K N T s=(y,[]):=by
 unfold Wa
 rw[h,if_neg (fun q=>q rfl),hy,if_pos h0]
theorem Zaq{K:List ByteArray}{N:List Int}{T:List Zk}{s:Int}(h:Bk.bkChk K=0)(hc:chkTr N T=0)(hs:s=0∨s∈N):Wa K N T s=Dt K N T (Yt N T s) []:=by
 unfold Wa
 rw[h,if_neg (fun q=>q rfl),Se hc hs,if_neg (fun q=>q rfl)]
 simp only
 rw[Fu hc _ _ ((TrOk.of hc).pth_sub hs),Zbo]
 by_cases q:(Yn K N T (Yt N T s) []).1=0
 ·rw[if_neg (fun r=>r q),q]
 ·rw[if_pos q,Ar _ _ q]
set_option maxRecDepth 10000 in
set_option maxHeartbeats 12800000 in
theorem Me(ka:Option Addr)(kn kc:Nat)(K:List ByteArray)(a b:Option Addr)(n c m d:Nat)(N:List Int)(T:List Zk)(s t:Int)(w:World)(hE:EnvF w)(hK:Bk.TextsAt w ka kn K)(sK:Bk.SlOk ka kn kc)(hN:Tr.IntsAt w a n N)(hT:Tr.BlksAt w b m T)(sN:SlOk a n c)(sT:SlOk b m d) :
  Calls Tryz.prog 3 #[.agg #[.slice ka kn kc],.agg #[.slice a n c,.slice b m d],.int .i64 s,.int .i64 t] w fun e w'=>e = .returned (.bool true)∧Below w.heap.size w w':=by
 obtain⟨X,hX⟩:∃ X,X=F6 w [.cells #[.slice ka kn kc] 24,.cells #[.slice a n c,.slice b m d] 28]:=⟨_,rfl⟩
 have hX':X=((w.alloc (.cells #[.slice ka kn kc] 24)).alloc (.cells #[.slice a n c,.slice b m d] 28)):=hX
 have hbX:Below w.heap.size w X:=by rw[hX];exact Tt _ _
 have Fk_X:Hid (X.heap[w.heap.size]? = some (.cells [.slice ka kn kc].toArray 24 (0,0))):=by show X.heap[w.heap.size]? = _;rw[hX];exact P8 _ w 0 _ rfl
 have Ft_X:Hid (X.heap[w.heap.size+1]? = some (.cells [.slice a n c,.slice b m d].toArray 28 (0,0))):=by show X.heap[w.heap.size+1]? = _;rw[hX];exact P8 _ w 1 _ rfl
 obtain⟨⟨x,C⟩,hx⟩:∃ r,Wa K N T s=r:=⟨_,rfl⟩
 obtain⟨⟨z,xd⟩,hd⟩:∃ r,J9 N T s t=r:=⟨_,rfl⟩
 obtain⟨y,hy⟩:∃ y,chkTr N T=y:=⟨_,rfl⟩
 obtain⟨k,hk⟩:∃ k,Bk.bkChk K=k:=⟨_,rfl⟩
 have hnm:n≤maxLen:=sN.len
 have C1:=Zb (Co ka kn kc K a b n c m d N T s x C X (hE.later hbX).envp.env (hK.later hbX) (hN.later hbX) (hT.later hbX) sN sT hx)
 have C2:=Zb (fun V (hv:Below w.heap.size w V)=>Ls a b n c m d N T s t z xd V (hN.later hv) (hT.later hv) sN sT hd)
 have C3:=Zb (fun V (hv:Below w.heap.size w V)=>Tr.rchkTree_any a b n c m d N T y V (hN.later hv) (hT.later hv) sN sT hy)
 have C4:=Zb (fun V (hv:Below w.heap.size w V)=>Cz V (hE.later hv).envp.env)
 have CB:=Zb (fun V (hv:Below w.heap.size w V)=>Bk.rcheck_is ka kn kc K V (hK.later hv) k hk)
 have CP:Hid (∀ V,Below w.heap.size w V→y=0→∀ (q:Int) (Q:List Int) (o:Bool) (qn:Nat),(if q=0∨q∈N then (Yt N T q,true) else (([]:List Int),false))=(Q,o)→Q.length=qn→Calls Tryz.prog 11 #[.agg #[.slice a n c,.slice b m d],.int .i64 q] V fun r w'=>∃ v,r = .returned (.tuple #[v,.bool o])∧w'.ownsRow V.heap.size 3 1 v qn (Q.map (Value.int .i64))∧Below V.heap.size V w'):=by
  intro V hv h0 q Q o qn h1 h2
  have hok:=TrOk.of (hy.trans h0)
  obtain rfl:m=n:=by have e1:=hN.1;have e2:=hT.1;have e3:=hok.len;omega
  exact Tr.rpath_any a b m c d N T q Q o qn V hok hnm (hN.later hv) (hT.later hv) h1 h2
 have CR:Hid (∀ V,Below w.heap.size w V→k=0→y=0→(s=0∨s∈N)→Calls Tryz.prog 15 #[.slice ka kn kc,.agg #[.slice a n c,.slice b m d],.int .i64 s] V fun e w'=>CnR V w' x C e):=by
  intro V hv hk0 h0 hs
  have hok:=TrOk.of (hy.trans h0)
  obtain rfl:m=n:=by have e1:=hN.1;have e2:=hT.1;have e3:=hok.len;omega
  exact Zdf ka kn kc K a b m c d N T s x C V (hE.later hv) (hK.later hv) sK ((Bk.right_iff K).1 (hk.trans hk0)) (hN.later hv) (hT.later hv) hnm hok hs ((Zaq (hk.trans hk0) (hy.trans h0) hs).symm.trans hx)
 have MX:=Zb hx
 have MD:=Zb hd
 have MY:=Zb hy
 have MK:=Zb hk
 have Bw_X:Hid (Below w.heap.size w X):=hbX
 clear hE hK sK hN hT sN sT hx hd hy hk hbX hX hnm
 obtain⟨mk0,mlk⟩:=cl1 Fk_X
 obtain⟨mt0,mt1,mlt⟩:=cl2 Ft_X
 go_enter Tryz.func3,Tryz.ntmps3
 go_wp2_with fail
 rw[←hX']
 clear hX'
 (try go_wp2_with fail)
 refine (Za C1).mono ?_
 rintro e w1 ⟨oa,oon,oc,rfl,hC1,sC1,hb1⟩
 clear mk0 mlk mt0 mt1 mlt
 have Fk_w1:=mvd hb1 Fk_X
 have Ft_w1:=mvd hb1 Ft_X
 have Bw_w1:=onb Bw_X hb1
 clear Fk_X Ft_X Bw_X
 have Bw1_w1:Hid (Below w1.heap.size w1 w1):=Below.refl _ _
 have HC1:=Zb hC1
 have HSC1:=Zb sC1
 clear hC1 sC1 hb1 C1
 obtain⟨mk0,mlk⟩:=cl1 Fk_w1
 obtain⟨mt0,mt1,mlt⟩:=cl2 Ft_w1
 go_wp2_with fail
 refine ((Za C2) _ (Za Bw_w1)).mono ?_
 rintro e w2 ⟨rfl,hb_⟩
 clear mk0 mlk mt0 mt1 mlt
 have Fk_w2:=mvd hb_ Fk_w1
 have Ft_w2:=mvd hb_ Ft_w1
 have Bw_w2:=onb Bw_w1 hb_
 have Bw1_w2:=onb Bw1_w1 hb_
 clear Fk_w1 Ft_w1 Bw_w1 Bw1_w1
 clear hb_
 clear C2
 obtain⟨mk0,mlk⟩:=cl1 Fk_w2
 obtain⟨mt0,mt1,mlt⟩:=cl2 Ft_w2
 go_wp2_with fail
 refine ((Za C3) _ (Za Bw_w2)).mono ?_
 rintro e w3 ⟨rfl,hb_⟩
 clear mk0 mlk mt0 mt1 mlt
 have Fk_w3:=mvd hb_ Fk_w2
 have Ft_w3:=mvd hb_ Ft_w2
 have Bw_w3:=onb Bw_w2 hb_
 have Bw1_w3:=onb Bw1_w2 hb_
 clear Fk_w2 Ft_w2 Bw_w2 Bw1_w2
 clear hb_
 clear C3
 obtain⟨mk0,mlk⟩:=cl1 Fk_w3
 obtain⟨mt0,mt1,mlt⟩:=cl2 Ft_w3
 go_wp2_with fail
 refine ((Za C4) _ (Za Bw_w3)).mono ?_
 rintro e w4 ⟨rfl,hb_⟩
 clear mk0 mlk mt0 mt1 mlt
 have Fk_w4:=mvd hb_ Fk_w3
 have Ft_w4:=mvd hb_ Ft_w3
 have Bw_w4:=onb Bw_w3 hb_
 have Bw1_w4:=onb Bw1_w3 hb_
 clear Fk_w3 Ft_w3 Bw_w3 Bw1_w3
 clear hb_
 clear C4
 by_cases hy0:y=0
 ·subst hy0
  obtain⟨⟨Q,o⟩,hQ⟩:∃ r,(if t=0∨t∈N then (Yt N T t,true) else (([]:List Int),false))=r:=⟨_,rfl⟩
  obtain⟨qn,hqn⟩:∃ qn,Q.length=qn:=⟨_,rfl⟩
  have E5:=Zb ((Za CP) _ (Za Bw_w4) (by first|rfl|trivial) t Q o qn hQ hqn)
  obtain⟨mk0,mlk⟩:=cl1 Fk_w4
  obtain⟨mt0,mt1,mlt⟩:=cl2 Ft_w4
  go_wp2_with fail
  refine (Za E5).mono ?_
  rintro e w5 ⟨vq,rfl,ho_,hb_⟩
  clear mk0 mlk mt0 mt1 mlt
  obtain⟨qa,qc,rfl,sq,iq⟩:=Tr.ints_of_own ho_
  have HIQ:=Zb iq
  have HSQ:=Zb sq
  clear ho_ E5 sq iq
  have Fk_w5:=mvd hb_ Fk_w4
  have Ft_w5:=mvd hb_ Ft_w4
  have Bw_w5:=onb Bw_w4 hb_
  have Bw1_w5:=onb Bw1_w4 hb_
  clear Fk_w4 Ft_w4 Bw_w4 Bw1_w4
  clear hb_
  by_cases ht:t=0∨t∈N
  ·rw[if_pos ht] at hQ
   obtain⟨hP,rfl⟩:Yt N T t=Q∧true=o:=⟨congrArg Prod.fst hQ,congrArg Prod.snd hQ⟩
   obtain⟨i,hi⟩:∃ i,Tr.idxI s Q 0=i:=⟨_,rfl⟩
   have hdd:=(Zhy (Za MY) ht hP hi).symm.trans (Za MD)
   have CI:=Zb (fun V (hv:Below w5.heap.size w5 V)=>Tr.indexInt_is qa qn qc Q s i V (Za HSQ).len ((Za HIQ).later hv) hi)
   have CC:=Zb (fun o2 (ho:decide (s∈Q)=o2)=>Tr.containsInt_is qa qn qc Q s o2 w5 (Za HSQ).len (Za HIQ) ho)
   have HI:=Zb hi
   have HPQ:=Zb hP
   clear hQ hP hi MD
   by_cases hs:s∈Q
   ·rw[if_pos hs,hqn] at hdd
    obtain⟨rfl,rfl⟩:((qn:Int) - 1 - i)=z∧(0:Int)=xd:=⟨congrArg Prod.fst hdd,congrArg Prod.snd hdd⟩
    have E6:=Zb ((Za CC) true (decide_eq_true hs))
    have hib:0≤i∧i<(qn:Int):=by
     rcases Zac Q s 0 with h|⟨j,h1,h2⟩
     ·have e:=Tr.idxI_has s Q 0
      rw[h,decide_eq_true hs] at e
      cases e
     ·have:=(List.getElem?_eq_some_iff.1 h2).1
      rw[←Za HI,h1]
      omega
    have hq24:qn≤24:=by rw[←hqn,←Za HPQ];exact Dw (Za MY) ht
    clear hdd CC hs ht hqn HI HPQ
    obtain⟨mk0,mlk⟩:=cl1 Fk_w5
    obtain⟨mt0,mt1,mlt⟩:=cl2 Ft_w5
    go_wp2_with fail
    refine (Za E6).mono ?_
    rintro e w6 ⟨rfl,rfl⟩
    go_wp2_with fail
    refine ((Za CI) _ (Below.refl _ _)).mono ?_
    rintro e w6 ⟨rfl,rfl⟩
    clear mk0 mlk mt0 mt1 mlt
    clear E6 CI HIQ HSQ
    obtain⟨mk0,mlk⟩:=cl1 Fk_w5
    obtain⟨mt0,mt1,mlt⟩:=cl2 Ft_w5
    go_wp2_with fail
    refine ((Za CB) _ (Za Bw_w5)).mono ?_
    rintro e v1 ⟨rfl,hb_⟩
    clear mk0 mlk mt0 mt1 mlt
    have Fk_v1:=mvd hb_ Fk_w5
    have Ft_v1:=mvd hb_ Ft_w5
    have Bw_v1:=onb Bw_w5 hb_
    have Bw1_v1:=onb Bw1_w5 hb_
    clear Fk_w5 Ft_w5 Bw_w5 Bw1_w5
    clear hb_
    clear CB
    by_cases hk0:k=0
    ·subst hk0
     obtain⟨⟨Q2,o2⟩,hQ2⟩:∃ r,(if s=0∨s∈N then (Yt N T s,true) else (([]:List Int),false))=r:=⟨_,rfl⟩
     have E5:=Zb ((Za CP) _ (Za Bw_v1) (by first|rfl|trivial) s Q2 o2 _ hQ2 rfl)
     clear CP
     obtain⟨mk0,mlk⟩:=cl1 Fk_v1
     obtain⟨mt0,mt1,mlt⟩:=cl2 Ft_v1
     go_wp2_with fail
     refine (Za E5).mono ?_
     rintro e v2 ⟨vq,rfl,ho_,hb_⟩
     clear mk0 mlk mt0 mt1 mlt
     clear ho_ E5
     have Fk_v2:=mvd hb_ Fk_v1
     have Ft_v2:=mvd hb_ Ft_v1
     have Bw_v2:=onb Bw_v1 hb_
     have Bw1_v2:=onb Bw1_v1 hb_
     clear Fk_v1 Ft_v1 Bw_v1 Bw1_v1
     clear hb_
     by_cases hs:s=0∨s∈N
     ·rw[if_pos hs] at hQ2
      obtain rfl:true=o2:=congrArg Prod.snd hQ2
      have E6:=Zb ((Za CR) _ (Za Bw_v2) (by first|rfl|trivial) (by first|rfl|trivial) hs)
      clear CR hQ2 hs MX MY MK
      obtain⟨mk0,mlk⟩:=cl1 Fk_v2
      obtain⟨mt0,mt1,mlt⟩:=cl2 Ft_v2
      go_wp2_with fail
      refine (Za E6).mono ?_
      rintro e v3 ⟨pa,pn,pc,rfl,hP_,sP_,hb_⟩
      clear mk0 mlk mt0 mt1 mlt
      have Fk_v3:=mvd hb_ Fk_v2
      have Ft_v3:=mvd hb_ Ft_v2
      have Bw_v3:=onb Bw_v2 hb_
      have Bw1_v3:=onb Bw1_v2 hb_
      clear Fk_v2 Ft_v2 Bw_v2 Bw1_v2
      clear hb_
      have E7:=Zb (Qb oa pa oon pn oc pc C C true v3 (Za HSC1).len ((Za HC1).later (Za Bw1_v3)) hP_ ((Uk C C).2 rfl))
      clear hP_ sP_ E6
      obtain⟨mk0,mlk⟩:=cl1 Fk_v3
      obtain⟨mt0,mt1,mlt⟩:=cl2 Ft_v3
      go_wp2_with fail
      refine (Za E7).mono ?_
      rintro e v4 ⟨rfl,hb_⟩
      clear mk0 mlk mt0 mt1 mlt
      have Fk_v4:=mvd hb_ Fk_v3
      have Ft_v4:=mvd hb_ Ft_v3
      have Bw_v4:=onb Bw_v3 hb_
      have Bw1_v4:=onb Bw1_v3 hb_
      clear Fk_v3 Ft_v3 Bw_v3 Bw1_v3
      clear hb_
      go_wp2
      go_ret
      exact⟨rfl,Za Bw_v4⟩
     ·rw[if_neg hs] at hQ2
      obtain rfl:false=o2:=congrArg Prod.snd hQ2
      have e1:=(U9 (Za MK) (congrArg Prod.snd (Hl (Za MY) hs)) (by decide)).symm.trans (Za MX)
      obtain⟨rfl,rfl⟩:(5:Int)=x∧[]=C:=⟨congrArg Prod.fst e1,congrArg Prod.snd e1⟩
      obtain rfl:oon=0:=(Za HC1).1.symm
      clear hQ2 e1 CR hs MX MY MK
      obtain⟨mk0,mlk⟩:=cl1 Fk_v2
      obtain⟨mt0,mt1,mlt⟩:=cl2 Ft_v2
      go_wp2
      go_ret
      exact⟨rfl,Za Bw_v2⟩
    ·have e1:=(Rn (Za MK) hk0).symm.trans (Za MX)
     obtain⟨rfl,rfl⟩:k=x∧[]=C:=⟨congrArg Prod.fst e1,congrArg Prod.snd e1⟩
     obtain rfl:oon=0:=(Za HC1).1.symm
     have gk:(k != 0)=true:=by simp[hk0]
     have gk2:(k == 0)=false:=by simp[hk0]
     clear e1 CR CP MX MY MK
     obtain⟨mk0,mlk⟩:=cl1 Fk_v1
     obtain⟨mt0,mt1,mlt⟩:=cl2 Ft_v1
     go_wp2
     go_ret
     exact⟨rfl,Za Bw_v1⟩
   ·rw[if_neg hs] at hdd
    obtain⟨rfl,rfl⟩:(0:Int)=z∧(5:Int)=xd:=⟨congrArg Prod.fst hdd,congrArg Prod.snd hdd⟩
    have E6:=Zb ((Za CC) false (decide_eq_false hs))
    clear hdd CC hs ht hqn HI HPQ CI
    obtain⟨mk0,mlk⟩:=cl1 Fk_w5
    obtain⟨mt0,mt1,mlt⟩:=cl2 Ft_w5
    go_wp2_with fail
    refine (Za E6).mono ?_
    rintro e w6 ⟨rfl,rfl⟩
    clear mk0 mlk mt0 mt1 mlt
    clear E6 HIQ HSQ
    obtain⟨mk0,mlk⟩:=cl1 Fk_w5
    obtain⟨mt0,mt1,mlt⟩:=cl2 Ft_w5
    go_wp2_with fail
    refine ((Za CB) _ (Za Bw_w5)).mono ?_
    rintro e v1 ⟨rfl,hb_⟩
    clear mk0 mlk mt0 mt1 mlt
    have Fk_v1:=mvd hb_ Fk_w5
    have Ft_v1:=mvd hb_ Ft_w5
    have Bw_v1:=onb Bw_w5 hb_
    have Bw1_v1:=onb Bw1_w5 hb_
    clear Fk_w5 Ft_w5 Bw_w5 Bw1_w5
    clear hb_
    clear CB
    by_cases hk0:k=0
    ·subst hk0
     obtain⟨⟨Q2,o2⟩,hQ2⟩:∃ r,(if s=0∨s∈N then (Yt N T s,true) else (([]:List Int),false))=r:=⟨_,rfl⟩
     have E5:=Zb ((Za CP) _ (Za Bw_v1) (by first|rfl|trivial) s Q2 o2 _ hQ2 rfl)
     clear CP
     obtain⟨mk0,mlk⟩:=cl1 Fk_v1
     obtain⟨mt0,mt1,mlt⟩:=cl2 Ft_v1
     go_wp2_with fail
     refine (Za E5).mono ?_
     rintro e v2 ⟨vq,rfl,ho_,hb_⟩
     clear mk0 mlk mt0 mt1 mlt
     clear ho_ E5
     have Fk_v2:=mvd hb_ Fk_v1
     have Ft_v2:=mvd hb_ Ft_v1
     have Bw_v2:=onb Bw_v1 hb_
     have Bw1_v2:=onb Bw1_v1 hb_
     clear Fk_v1 Ft_v1 Bw_v1 Bw1_v1
     clear hb_
     by_cases hs:s=0∨s∈N
     ·rw[if_pos hs] at hQ2
      obtain rfl:true=o2:=congrArg Prod.snd hQ2
      have E6:=Zb ((Za CR) _ (Za Bw_v2) (by first|rfl|trivial) (by first|rfl|trivial) hs)
      clear CR hQ2 hs MX MY MK
      obtain⟨mk0,mlk⟩:=cl1 Fk_v2
      obtain⟨mt0,mt1,mlt⟩:=cl2 Ft_v2
      go_wp2_with fail
      refine (Za E6).mono ?_
      rintro e v3 ⟨pa,pn,pc,rfl,hP_,sP_,hb_⟩
      clear mk0 mlk mt0 mt1 mlt
      have Fk_v3:=mvd hb_ Fk_v2
      have Ft_v3:=mvd hb_ Ft_v2
      have Bw_v3:=onb Bw_v2 hb_
      have Bw1_v3:=onb Bw1_v2 hb_
      clear Fk_v2 Ft_v2 Bw_v2 Bw1_v2
      clear hb_
      have E7:=Zb (Qb oa pa oon pn oc pc C C true v3 (Za HSC1).len ((Za HC1).later (Za Bw1_v3)) hP_ ((Uk C C).2 rfl))
      clear hP_ sP_ E6
      obtain⟨mk0,mlk⟩:=cl1 Fk_v3
      obtain⟨mt0,mt1,mlt⟩:=cl2 Ft_v3
      go_wp2_with fail
      refine (Za E7).mono ?_
      rintro e v4 ⟨rfl,hb_⟩
      clear mk0 mlk mt0 mt1 mlt
      have Fk_v4:=mvd hb_ Fk_v3
      have Ft_v4:=mvd hb_ Ft_v3
      have Bw_v4:=onb Bw_v3 hb_
      have Bw1_v4:=onb Bw1_v3 hb_
      clear Fk_v3 Ft_v3 Bw_v3 Bw1_v3
      clear hb_
      go_wp2
      go_ret
      exact⟨rfl,Za Bw_v4⟩
     ·rw[if_neg hs] at hQ2
      obtain rfl:false=o2:=congrArg Prod.snd hQ2
      have e1:=(U9 (Za MK) (congrArg Prod.snd (Hl (Za MY) hs)) (by decide)).symm.trans (Za MX)
      obtain⟨rfl,rfl⟩:(5:Int)=x∧[]=C:=⟨congrArg Prod.fst e1,congrArg Prod.snd e1⟩
      obtain rfl:oon=0:=(Za HC1).1.symm
      clear hQ2 e1 CR hs MX MY MK
      obtain⟨mk0,mlk⟩:=cl1 Fk_v2
      obtain⟨mt0,mt1,mlt⟩:=cl2 Ft_v2
      go_wp2
      go_ret
      exact⟨rfl,Za Bw_v2⟩
    ·have e1:=(Rn (Za MK) hk0).symm.trans (Za MX)
     obtain⟨rfl,rfl⟩:k=x∧[]=C:=⟨congrArg Prod.fst e1,congrArg Prod.snd e1⟩
     obtain rfl:oon=0:=(Za HC1).1.symm
     have gk:(k != 0)=true:=by simp[hk0]
     have gk2:(k == 0)=false:=by simp[hk0]
     clear e1 CR CP MX MY MK
     obtain⟨mk0,mlk⟩:=cl1 Fk_v1
     obtain⟨mt0,mt1,mlt⟩:=cl2 Ft_v1
     go_wp2
     go_ret
     exact⟨rfl,Za Bw_v1⟩
  ·rw[if_neg ht] at hQ
   obtain⟨rfl,rfl⟩:[]=Q∧false=o:=⟨congrArg Prod.fst hQ,congrArg Prod.snd hQ⟩
   have hdd:=(N9 (s:=s) (congrArg Prod.snd (Hl (Za MY) ht)) (by decide)).symm.trans (Za MD)
   obtain⟨rfl,rfl⟩:(0:Int)=z∧(5:Int)=xd:=⟨congrArg Prod.fst hdd,congrArg Prod.snd hdd⟩
   clear hdd ht hqn hQ MD HIQ HSQ
   obtain⟨mk0,mlk⟩:=cl1 Fk_w5
   obtain⟨mt0,mt1,mlt⟩:=cl2 Ft_w5
   go_wp2_with fail
   refine ((Za CB) _ (Za Bw_w5)).mono ?_
   rintro e v1 ⟨rfl,hb_⟩
   clear mk0 mlk mt0 mt1 mlt
   have Fk_v1:=mvd hb_ Fk_w5
   have Ft_v1:=mvd hb_ Ft_w5
   have Bw_v1:=onb Bw_w5 hb_
   have Bw1_v1:=onb Bw1_w5 hb_
   clear Fk_w5 Ft_w5 Bw_w5 Bw1_w5
   clear hb_
   clear CB
   by_cases hk0:k=0
   ·subst hk0
    obtain⟨⟨Q2,o2⟩,hQ2⟩:∃ r,(if s=0∨s∈N then (Yt N T s,true) else (([]:List Int),false))=r:=⟨_,rfl⟩
    have E5:=Zb ((Za CP) _ (Za Bw_v1) (by first|rfl|trivial) s Q2 o2 _ hQ2 rfl)
    clear CP
    obtain⟨mk0,mlk⟩:=cl1 Fk_v1
    obtain⟨mt0,mt1,mlt⟩:=cl2 Ft_v1
    go_wp2_with fail
    refine (Za E5).mono ?_
    rintro e v2 ⟨vq,rfl,ho_,hb_⟩
    clear mk0 mlk mt0 mt1 mlt
    clear ho_ E5
    have Fk_v2:=mvd hb_ Fk_v1
    have Ft_v2:=mvd hb_ Ft_v1
    have Bw_v2:=onb Bw_v1 hb_
    have Bw1_v2:=onb Bw1_v1 hb_
    clear Fk_v1 Ft_v1 Bw_v1 Bw1_v1
    clear hb_
    by_cases hs:s=0∨s∈N
    ·rw[if_pos hs] at hQ2
     obtain rfl:true=o2:=congrArg Prod.snd hQ2
     have E6:=Zb ((Za CR) _ (Za Bw_v2) (by first|rfl|trivial) (by first|rfl|trivial) hs)
     clear CR hQ2 hs MX MY MK
     obtain⟨mk0,mlk⟩:=cl1 Fk_v2
     obtain⟨mt0,mt1,mlt⟩:=cl2 Ft_v2
     go_wp2_with fail
     refine (Za E6).mono ?_
     rintro e v3 ⟨pa,pn,pc,rfl,hP_,sP_,hb_⟩
     clear mk0 mlk mt0 mt1 mlt
     have Fk_v3:=mvd hb_ Fk_v2
     have Ft_v3:=mvd hb_ Ft_v2
     have Bw_v3:=onb Bw_v2 hb_
     have Bw1_v3:=onb Bw1_v2 hb_
     clear Fk_v2 Ft_v2 Bw_v2 Bw1_v2
     clear hb_
     have E7:=Zb (Qb oa pa oon pn oc pc C C true v3 (Za HSC1).len ((Za HC1).later (Za Bw1_v3)) hP_ ((Uk C C).2 rfl))
     clear hP_ sP_ E6
     obtain⟨mk0,mlk⟩:=cl1 Fk_v3
     obtain⟨mt0,mt1,mlt⟩:=cl2 Ft_v3
     go_wp2_with fail
     refine (Za E7).mono ?_
     rintro e v4 ⟨rfl,hb_⟩
     clear mk0 mlk mt0 mt1 mlt
     have Fk_v4:=mvd hb_ Fk_v3
     have Ft_v4:=mvd hb_ Ft_v3
     have Bw_v4:=onb Bw_v3 hb_
     have Bw1_v4:=onb Bw1_v3 hb_
     clear Fk_v3 Ft_v3 Bw_v3 Bw1_v3
     clear hb_
     go_wp2
     go_ret
     exact⟨rfl,Za Bw_v4⟩
    ·rw[if_neg hs] at hQ2
     obtain rfl:false=o2:=congrArg Prod.snd hQ2
     have e1:=(U9 (Za MK) (congrArg Prod.snd (Hl (Za MY) hs)) (by decide)).symm.trans (Za MX)
     obtain⟨rfl,rfl⟩:(5:Int)=x∧[]=C:=⟨congrArg Prod.fst e1,congrArg Prod.snd e1⟩
     obtain rfl:oon=0:=(Za HC1).1.symm
     clear hQ2 e1 CR hs MX MY MK
     obtain⟨mk0,mlk⟩:=cl1 Fk_v2
     obtain⟨mt0,mt1,mlt⟩:=cl2 Ft_v2
     go_wp2
     go_ret
     exact⟨rfl,Za Bw_v2⟩
   ·have e1:=(Rn (Za MK) hk0).symm.trans (Za MX)
    obtain⟨rfl,rfl⟩:k=x∧[]=C:=⟨congrArg Prod.fst e1,congrArg Prod.snd e1⟩
    obtain rfl:oon=0:=(Za HC1).1.symm
    have gk:(k != 0)=true:=by simp[hk0]
    have gk2:(k == 0)=false:=by simp[hk0]
    clear e1 CR CP MX MY MK
    obtain⟨mk0,mlk⟩:=cl1 Fk_v1
    obtain⟨mt0,mt1,mlt⟩:=cl2 Ft_v1
    go_wp2
    go_ret
    exact⟨rfl,Za Bw_v1⟩
 ·have hdd:=(N9 (s:=s) (t:=t) (congrArg Prod.snd (Bj (fun q=>hy0 ((Za MY).symm.trans q)))) (fun q=>hy0 ((Za MY).symm.trans q))).symm.trans (Za MD)
  rw[Za MY] at hdd
  obtain⟨rfl,rfl⟩:(0:Int)=z∧y=xd:=⟨congrArg Prod.fst hdd,congrArg Prod.snd hdd⟩
  have gy:(y != 0)=true:=by simp[hy0]
  have gy2:(y == 0)=false:=by simp[hy0]
  clear hdd CP CR MD
  obtain⟨mk0,mlk⟩:=cl1 Fk_w4
  obtain⟨mt0,mt1,mlt⟩:=cl2 Ft_w4
  go_wp2_with fail
  refine ((Za CB) _ (Za Bw_w4)).mono ?_
  rintro e v1 ⟨rfl,hb_⟩
  clear mk0 mlk mt0 mt1 mlt
  have Fk_v1:=mvd hb_ Fk_w4
  have Ft_v1:=mvd hb_ Ft_w4
  have Bw_v1:=onb Bw_w4 hb_
  have Bw1_v1:=onb Bw1_w4 hb_
  clear Fk_w4 Ft_w4 Bw_w4 Bw1_w4
  clear hb_
  clear CB
  by_cases hk0:k=0
  ·subst hk0
   have e1:=(U9 (s:=s) (Za MK) (congrArg Prod.snd (Bj (fun q=>hy0 ((Za MY).symm.trans q)))) (fun q=>hy0 ((Za MY).symm.trans q))).symm.trans (Za MX)
   rw[Za MY] at e1
   obtain⟨rfl,rfl⟩:y=x∧[]=C:=⟨congrArg Prod.fst e1,congrArg Prod.snd e1⟩
   obtain rfl:oon=0:=(Za HC1).1.symm
   clear e1 MX MY MK
   obtain⟨mk0,mlk⟩:=cl1 Fk_v1
   obtain⟨mt0,mt1,mlt⟩:=cl2 Ft_v1
   go_wp2
   go_ret
   exact⟨rfl,Za Bw_v1⟩
  ·have e1:=(Rn (Za MK) hk0).symm.trans (Za MX)
   obtain⟨rfl,rfl⟩:k=x∧[]=C:=⟨congrArg Prod.fst e1,congrArg Prod.snd e1⟩
   obtain rfl:oon=0:=(Za HC1).1.symm
   have gk:(k != 0)=true:=by simp[hk0]
   have gk2:(k == 0)=false:=by simp[hk0]
   clear e1 MX MY MK
   obtain⟨mk0,mlk⟩:=cl1 Fk_v1
   obtain⟨mt0,mt1,mlt⟩:=cl2 Ft_v1
   go_wp2
   go_ret
   exact⟨rfl,Za Bw_v1⟩
open Go.ChangeShapes Go.WideShapes Go.ChangeAt Go.RowKit
theorem own:ownKnob Tryz.prog.godebug=none:=by kernel_rfl
theorem Sm:laidOutB Tryz.prog=true:=by kernel_rfl
theorem Tryz.cellsOp:Tryz.prog.cellsOf 122=2:=by kernel_rfl
theorem Tryz.cells3:Tryz.prog.cellsOf 3=1:=by kernel_rfl
theorem Sg{H:Type}{enc:TypeId×Value→H}{W:World}{sp:Nat→Bool}{held:Bool}{fuel:Nat}{a:Option Addr}{len cap:Nat}{x:DataW H×List MemPlace}
  (h:DataW.trod enc Tryz.prog W 0 sp held fuel 66 [.slice a len cap]=some x):(∃ l,OpsAt W a len l)∧(a=none→len=0∧cap=0):=by
 rcases Deep.open_slice_pairs Tryz.underlying66 Tryz.underlying122 Tryz.cellsOp rfl rfl Tryz.cells3 Tryz.cells3 h with ⟨hcs,_⟩|⟨b,l,c,m,n,V0,V1,D0,D1,P0,P1,hcs,_,hl,_,hm,_,hel⟩
 ·simp at hcs
  obtain⟨rfl,rfl,rfl⟩:=hcs
  exact⟨⟨[],rfl,fun h=>absurd h (by omega)⟩,fun _=>⟨rfl,rfl⟩⟩
 ·simp at hcs
  obtain⟨rfl,rfl,rfl⟩:=hcs
  refine⟨?_,fun h=>by cases h⟩
  have hlm:len≤m:=by rw[hm];split <;> omega
  have each:∀ i,i<len→∃ q:Int×Int,W.cell? (b.add (i*2))=some (.int .i64 q.1)∧W.cell? (b.add (i*2+1))=some (.int .i64 q.2):=fun i hi=>by
   obtain⟨h1,h2,t1,t2⟩:=hel i (by omega)
   obtain⟨z1,e1,_,_⟩:=DataW.trod_int Tryz.underlying3 t1
   obtain⟨z2,e2,_,_⟩:=DataW.trod_int Tryz.underlying3 t2
   simp only[List.cons.injEq,and_true] at e1 e2
   exact⟨(z1,z2),by rw[h1,e1],by rw[h2,e2]⟩
  obtain⟨f,hf⟩:=Deep.choose_lt each
  refine⟨(List.range len).map f,by simp,fun hpos=>?_⟩
  obtain⟨bb,off,spot⟩:=b
  have hspot:spot=none:=by simpa[Addr.add] using World.cell?_spot (hf 0 hpos).1
  subst hspot
  refine⟨bb,off,rfl,fun i hi=>?_⟩
  have hadd:∀ j,(⟨bb,off,none⟩:Addr).add j=⟨bb,off+j,none⟩:=fun j=>by unfold Addr.add;split <;> simp_all
  have h1:=hf i hi
  rw[hadd,hadd] at h1
  rw[←Nat.add_assoc] at h1
  simpa[hi] using h1
theorem Tryz.cellsTx:Tryz.prog.cellsOf 52=3:=by kernel_rfl
theorem Tryz.cellsIn:Tryz.prog.cellsOf 124=3:=by kernel_rfl
theorem Tryz.cellsOut:Tryz.prog.cellsOf 101=2:=by kernel_rfl
theorem Tryz.cellsPoint:Tryz.prog.cellsOf 99=2:=by kernel_rfl
theorem Tryz.cellsOps:Tryz.prog.cellsOf 66=1:=by kernel_rfl
theorem Tryz.cellsIns:Tryz.prog.cellsOf 49=1:=by kernel_rfl
theorem Tryz.cellsOuts:Tryz.prog.cellsOf 50=1:=by kernel_rfl
theorem Sl{cs:List Value}(h:cs.length=2):∃ a b,cs=[a,b]:=by
 match cs,h with
 | [a,b],_=>exact⟨a,b,rfl⟩
theorem Jd{cs:List Value}(h:cs.length=3):∃ a b c,cs=[a,b,c]:=by
 match cs,h with
 | [a,b,c],_=>exact⟨a,b,c,rfl⟩
section
variable {H : Type} {enc : TypeId × Value → H} {W : World} {sp : Nat → Bool} {held : Bool} {fuel : Nat}
theorem J2{v:Value}{x:DataW H×List MemPlace}(h:DataW.trod enc Tryz.prog W 0 sp held fuel 66 [v]=some x):∃ a n c l,v = .slice a n c∧OpsAt W a n l∧SlOk a n c:=by
 have h':=h
 rcases Deep.open_slice Tryz.underlying66 h with ⟨hcs,_⟩|⟨b,l,c,m,n,D,Pl,hcs,_,hl,hm,_⟩
 ·simp at hcs
  subst hcs
  exact⟨none,0,0,[],rfl,⟨rfl,fun h=>absurd h (by omega)⟩,Nat.le_refl _,Nat.zero_le _,fun _=>⟨rfl,rfl⟩⟩
 ·simp at hcs
  subst hcs
  obtain⟨⟨L,hO⟩,_⟩:=Sg h'
  exact⟨some b,l,c,L,rfl,hO,hl,hm,fun h=>by cases h⟩
theorem Zcb{cs:List Value}{x:DataW H×List MemPlace}(h:DataW.trod enc Tryz.prog W 0 sp held fuel 124 cs=some x):∃ x1 x2 a n c l,cs=[.int .i64 x1,.int .i64 x2,.slice a n c]∧OpsAt W a n l∧SlOk a n c:=by
 obtain⟨y0,y1,k,_,hl,h0,h1⟩:=trod_struct2 Tryz.underlying124 h
 rw[Tryz.cellsIn] at hl
 obtain⟨c0,c1,c2,rfl⟩:=Jd hl
 simp[Tryz.cellsPoint,Tryz.cellsOps] at h0 h1
 obtain⟨z0,z1,k2,_,_,g0,g1⟩:=trod_struct2 Tryz.underlying99 h0
 simp[Tryz.cells3] at g0 g1
 obtain⟨x1,e1,_,_⟩:=DataW.trod_int Tryz.underlying3 g0
 obtain⟨x2,e2,_,_⟩:=DataW.trod_int Tryz.underlying3 g1
 obtain⟨a,n,c,l,rfl,hO,hS⟩:=J2 h1
 simp only[List.cons.injEq,and_true] at e1 e2
 subst e1 e2
 exact⟨x1,x2,a,n,c,l,rfl,hO,hS⟩
theorem Bo{cs:List Value}{x:DataW H×List MemPlace}(h:DataW.trod enc Tryz.prog W 0 sp held fuel 101 cs=some x):∃ x1 a n c l,cs=[.int .i64 x1,.slice a n c]∧OpsAt W a n l∧SlOk a n c:=by
 obtain⟨y0,y1,k,_,hl,h0,h1⟩:=trod_struct2 Tryz.underlying101 h
 rw[Tryz.cellsOut] at hl
 obtain⟨c0,c1,rfl⟩:=Sl hl
 simp[Tryz.cells3,Tryz.cellsOps] at h0 h1
 obtain⟨x1,e1,_,_⟩:=DataW.trod_int Tryz.underlying3 h0
 obtain⟨a,n,c,l,rfl,hO,hS⟩:=J2 h1
 simp only[List.cons.injEq,and_true] at e1
 subst e1
 exact⟨x1,a,n,c,l,rfl,hO,hS⟩
end
end Go.Proofs.YtpikejjiignchaaGreatDoor
namespace Go.Proofs.YtpikejjiignchaaGreatDoor.Bk
open Go.ChangeShapes Go.WideShapes Go.ChangeAt Go.RowKit
theorem own:ownKnob Tryz.prog.godebug=none:=by kernel_rfl
theorem Sm:laidOutB Tryz.prog=true:=by kernel_rfl
theorem Tryz.cells9:Tryz.prog.cellsOf 9=1:=by kernel_rfl
theorem Tryz.cellsStrs:Tryz.prog.cellsOf 22=1:=by kernel_rfl
theorem Tryz.cellsBook:Tryz.prog.cellsOf 24=1:=by kernel_rfl
section
variable {H : Type} {enc : TypeId × Value → H} {W : World} {sp : Nat → Bool} {held : Bool} {fuel : Nat}
theorem Zcp{v:Value}{x:DataW H×List MemPlace}(h:DataW.trod enc Tryz.prog W 0 sp held fuel 22 [v]=some x) :
  ∃ a n c L,v = .slice a n c∧TextsAt W a n L∧SlOk a n c∧(n=0∨∃ elems spare,x.1 = .slice elems spare∧elems.length=n):=by
 rcases Deep.open_strs Tryz.underlying22 Tryz.underlying9 Tryz.cells9 h with ⟨hcs,_⟩|⟨b,l,c,m,Sx,hcs,_,hl,hm,hmm,hx,hel⟩
 ·simp at hcs
  subst hcs
  exact⟨none,0,0,[],rfl,TextsAt.nil _ _,SlOk.nil,Or.inl rfl⟩
 ·simp at hcs
  subst hcs
  have hlm:l≤m:=by rw[hmm];split <;> omega
  refine⟨some b,l,c,(List.range l).map Sx,rfl,⟨by simp,fun hpos=>?_⟩,⟨hl,hm,fun h=>by cases h⟩,Or.inr ⟨_,_,by rw[hx],by simp⟩⟩
  obtain⟨bb,off,spot⟩:=b
  have z0:=(hel 0 (by omega)).1
  have hspot:spot=none:=by simpa[Addr.add] using World.cell?_spot z0
  subst hspot
  have hadd:∀ j,(⟨bb,off,none⟩:Addr).add j=⟨bb,off+j,none⟩:=fun j=>by unfold Addr.add;split <;> simp_all
  refine⟨bb,off,rfl,fun i hi=>?_⟩
  have hi':i<l:=by simpa using hi
  have q:=(hel i (by omega)).1
  rw[hadd] at q
  rw[List.getElem_map,List.getElem_range]
  exact q
theorem book_full{cs:List Value}{x:DataW H×List MemPlace}(h:DataW.trod enc Tryz.prog W 0 sp held fuel 24 cs=some x):∃ a n c L,cs=[.slice a n c]∧TextsAt W a n L∧SlOk a n c:=by
 obtain⟨y0,k,_,hl,h0⟩:=trod_struct1 Tryz.underlying24 h
 rw[Tryz.cellsBook] at hl
 obtain⟨c0,rfl⟩:=List.length_eq_one_iff.1 hl
 simp[Tryz.cellsStrs] at h0
 obtain⟨a,n,c,L,rfl,hT,hS,_⟩:=Zcp h0
 exact⟨a,n,c,L,rfl,hT,hS⟩
end
end Go.Proofs.YtpikejjiignchaaGreatDoor.Bk
namespace Go.Proofs.YtpikejjiignchaaGreatDoor
open Go.ChangeShapes Go.WideShapes Go.ChangeAt Go.RowKit
theorem Tryz.cellsBlk:Tryz.prog.cellsOf 68=5:=by kernel_rfl
theorem Tryz.cellsTxs:Tryz.prog.cellsOf 48=1:=by kernel_rfl
theorem Ns{cs:List Value}(h:cs.length=5):∃ a b c d e,cs=[a,b,c,d,e]:=by
 match cs,h with
 | [a,b,c,d,e],_=>exact⟨a,b,c,d,e,rfl⟩
section
variable {H : Type} {enc : TypeId × Value → H} {W : World} {sp : Nat → Bool} {held : Bool} {fuel : Nat}
theorem Tx{t:TypeId}{f0 f1 f2 f3 f4:Field}{cs:List Value}{x:DataW H×List MemPlace}(ht:Tryz.prog.underlying t=some (.struct #[f0,f1,f2,f3,f4]))(h:DataW.trod enc Tryz.prog W 0 sp held fuel t cs=some x) :
  ∃ y0 y1 y2 y3 y4 n,cs.length=Tryz.prog.cellsOf t∧DataW.trod enc Tryz.prog W 0 sp held n f0.type ((cs.drop f0.offset).take (Tryz.prog.cellsOf f0.type))=some y0 ∧
   DataW.trod enc Tryz.prog W 0 sp held n f1.type ((cs.drop f1.offset).take (Tryz.prog.cellsOf f1.type))=some y1∧DataW.trod enc Tryz.prog W 0 sp held n f2.type ((cs.drop f2.offset).take (Tryz.prog.cellsOf f2.type))=some y2 ∧
   DataW.trod enc Tryz.prog W 0 sp held n f3.type ((cs.drop f3.offset).take (Tryz.prog.cellsOf f3.type))=some y3∧DataW.trod enc Tryz.prog W 0 sp held n f4.type ((cs.drop f4.offset).take (Tryz.prog.cellsOf f4.type))=some y4:=by
 obtain⟨xs,n,_,rfl,hl,hlen,hf⟩:=DataW.trod_struct ht h
 match xs,hlen with
 | [y0,y1,y2,y3,y4],_=>exact⟨y0,y1,y2,y3,y4,n,hl,by simpa using hf 0 f0 rfl,by simpa using hf 1 f1 rfl,by simpa using hf 2 f2 rfl,by simpa using hf 3 f3 rfl,by simpa using hf 4 f4 rfl⟩
end
set_option maxRecDepth 100000 in
theorem Fi{H:Type}{enc:TypeId×Value→H}{os:Os}{f:FuncId}{fn:Func}{s:ChangeSpec}{X:World→Prop}(hX:∀ w w':World,w.heap=w'.heap→X w→X w')
  (started:os.Started) (noInit:Tryz.checked.prog.inits.idxOf? f=none) (hfn:Tryz.checked.prog.funcs[f]? = some fn)
  (witness:∃ (w:World) (tape:Tape) (i:Input),w.os=os∧(w.forCall tape i).Shaped Tryz.checked.prog∧i.vars=[]∧Input.okWide Tryz.checked.prog (w.forCall tape i) .any w.heap.size f i ∧
   ((s.pre enc Tryz.checked.prog fn [] false (w.forCall tape i).memory i.args∧X (w.forCall tape i).memory)∧sizedMet enc Tryz.checked.prog fn (OpenSpec.ofChange s) false (w.forCall tape i).memory i.args)∧({}:Assume).holds Tryz.checked.prog (lone (Frame.enter Tryz.checked.prog f i.args .normal) [] (w.forCall tape i)))
  (contract:∀ (W:World) (base:Nat) (args:Array Value) (ds gs:List (DataW H)) (before:List MemPlace),
   (∀ (j:Nat) t v,fn.params[j]? = some t→args[j]? = some v→Value.okWide Tryz.checked.prog W .any base t v) →
   DataW.Whole enc Tryz.checked.prog fn.params.toList s.vars false W args.toList ds gs before→X W→(DataW.weightsEach Tryz.checked.prog (fn.params.toList++s.plain.varTypes Tryz.checked.prog) (ds++gs)).all (·≤reachBytes)=true →
   Calls Tryz.checked.prog f args W fun e W'=>∃ v,e = .returned v∧s.post enc Tryz.checked.prog fn false true false false W args v W') :
  ReturnsInHanded {} Tryz.checked os f .any (fun w args=>(s.pre enc Tryz.checked.prog fn [] false w args∧X w)∧sizedMet enc Tryz.checked.prog fn (OpenSpec.ofChange s) false w args) (s.post enc Tryz.checked.prog fn false true false false):=by
 refine returnsInHanded_of_calls own started noInit witness ?_
 intro w tape i _ _ _ hok hpre _
 obtain⟨_,_,_,fn',hfn',_,_,_,_,hval⟩:=hok
 obtain rfl:fn'=fn:=Option.some.inj (hfn'.symm.trans hfn)
 obtain⟨⟨⟨ds,gs,before,hw,_⟩,hx⟩,hz⟩:=hpre
 refine (contract (w.forCall tape i) w.heap.size i.args ds gs before hval (DataW.Whole.of_heap (w':=w.forCall tape i) (by rfl) hw) (hX _ _ (by rfl) hx) (hz.weights hw)).mono fun e W' ⟨v,he,hp⟩=>?_
 subst he
 exact ChangeSpec.post_blind hp
end Go.Proofs.YtpikejjiignchaaGreatDoor
