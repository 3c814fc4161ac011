import Derived.Test.YtpikejjiignchaaGreatDoorH
import Derived.Test.YtpikejjiignchaaGreatDoorG46
import Derived.Test.YtpikejjiignchaaGreatDoorG45
import Derived.Deep.SlicePairs
import Derived.HandedShaped
import Derived.LaidMore
import Derived.Stop.Joined
import Derived.LaidOnce
open Go.Proofs.Tryz
open Go renaming lt_of_block->aA,TypeId->bO,DataW->dA,MemPlace->cW
open Go.DataW renaming trod->bI,trod_int->bV
open Go.Ending renaming returned->dX
open Go.IntKind renaming i64->J
open Go.Obj renaming cells->dW
open Go.Proofs.Tryz renaming prog->aB,underlying66->dR,underlying3->aG,underlying9->dU
open Go.Value renaming int->E,slice->F,tuple->dY,bool->eA
open List renaming getElem?_eq_getElem->aS
open List.cons renaming injEq->dM
namespace Go.Proofs.YtpikejjiignchaaGreatDoor
open Go.RowKit
def D0(lo hi:Nat):Nat->Prop:=λq=>(lo<=q/\q<hi)\/(Value.slice none 0 0).ownBlock=some q
theorem D0.ge{lo hi q:Nat}(h:D0 lo hi q):lo<=q/\q<hi:=by
 rcases h with h|h
 ·exact h
 ·cases h
def DV(lo hi:Nat)(v:Value):Nat->Prop:=λq=>(lo<=q/\q<hi)\/v.ownBlock=some q
theorem DV.dirty{lo hi b p:Nat}{w:World}{v K L}{z:Nat}(h:PSt b p w v K L)(hh:hi<=z)(hp:z<=p)(q:Nat)(O:DV lo hi v q):q≠p/\q<w.heap.size/\(D0 lo hi q\/z<=q):=by
 have:=h.pl
 rcases O with e|e
 ·exact⟨by omega,by omega,.inl (.inl e)⟩
 ·have:=h.own.lt q e;exact⟨by omega,this.2,.inr (by omega)⟩
theorem PSt.reads{b p:Nat}{w w2 z vc K}{L:List TxD}{S:Nat->Prop}(h:PSt b p w (F z L.length vc) K L)(g:Gr w w2 S)(O:∀ q,S q->q<=p):TxsAt w2 z L.length L/\SlOk z L.length vc:=by
 have o:=g.own h.own (λk hk e=>by have:=(h.own.lt k hk).1;have:=O k e;omega);obtain⟨a,c,e,h1,h2⟩:=Tr.rows_of_own Tr.txR o (h.kept w2 (g.mono (λq _ e=>.inl (O q e)))) rfl;injection e with e1 _ e3;subst e1 e3;exact⟨h1,h2⟩
def Ed(w:World):List Obj->World
 | []=>w
 | o :: r=>Ed (w.alloc o) r
theorem Pz:∀ (os:List Obj) (w:World),ZD w (Ed w os)
 | [],_=>Below.refl _ _
 | o :: r,w=>Ze (Zg w o) (Pz r (w.alloc o))
theorem Ka:∀ (os:List Obj) (w:World) (i:Nat) (o:Obj),os[i]? = some o->(Ed w os).heap[w.heap.size+i]? = some o
 | [],_,_,_,h=>by simp at h
 | o :: r,w,0,x,h=>by
  simp at h;subst h;have h1:(w.alloc o).heap[w.heap.size]? = some o:=heap_alloc_new w o;exact ZE (Pz r (w.alloc o)) h1
 | o :: r,w,i+1,x,h=>by
  have:=Ka r (w.alloc o) i x (by simpa using h);rw[show (w.alloc o).heap.size+i=w.heap.size+(i+1) by simp;omega] at this;exact this
theorem mvd{V W:World}{b:Nat}{o:Obj}(z:ZD V W)(h:Hid (V.heap[b]? = some o)):Hid (W.heap[b]? = some o):=ZE z h
theorem onb{U V W:World}(h:Hid (ZD U V))(z:ZD V W):Hid (ZD U W):=Ze h z
section
variable {V : World} {b : Nat} {t : TypeId} {v0 v1 v2 v3 v4 : Value}
theorem cl1(h:Hid (V.heap[b]? = some (dW [v0].toArray t (0,0)))):V.cell? ⟨b,0,none⟩=some v0/\b<V.heap.size:=⟨Zd h 0 _ rfl,aA h⟩
theorem cl2(h:Hid (V.heap[b]? = some (dW [v0,v1].toArray t (0,0)))):V.cell? ⟨b,0,none⟩=some v0/\V.cell? ⟨b,1,none⟩=some v1/\b<V.heap.size:=⟨Zd h 0 _ rfl,Zd h 1 _ rfl,aA h⟩
end
open Tr (fnd Zm chkTr TrOk pathE)
theorem Zfq{N T}{t:Int}(O:chkTr N T=0)(z:¬(t=0\/t∈N)):pathE N T t=([],5):=by
 unfold Tr.pathE;rw[if_neg (λq=>q O),if_pos ⟨λq=>z (.inl q),by simpa using λq=>z (.inr q)⟩]
theorem Zlc{N T}{t:Int}(z:chkTr N T≠0):pathE N T t=([],chkTr N T):=by
 unfold Tr.pathE;rw[if_pos z]
open Tr (fnd Zm chkTr TrOk pathE)
theorem Zlu{K N T L}{s t k:Int}(h:Bk.bkChk K=k)(z:k≠0):Vt K N T L s t=(k,[]):=by
 unfold Vt;rw[h,if_pos z]
theorem Zfw{K N T L}{s t y:Int}(h:Bk.bkChk K=0)(z:(pathE N T s).2=y)(h0:y≠0):Vt K N T L s t=(y,[]):=by
 unfold Vt;rw[h,if_neg (λq=>q rfl),z,if_pos h0]
theorem Zol{K N T L}{s t y:Int}(h:Bk.bkChk K=0)(z:(pathE N T s).2=0)(O:(pathE N T t).2=y)(h0:y≠0):Vt K N T L s t=(y,[]):=by
 unfold Vt;rw[h,if_neg (λq=>q rfl),z,if_neg (λq=>q rfl),O,if_pos h0]
theorem Zdt{K N T L}{s:Int}(h:Bk.bkChk K=0)(hc:chkTr N T=0)(O:s=0\/s∈N):Vt K N T L s s=(0,L):=by
 rw[Zpt h hc O O];unfold mvR;rw[Cn _ _ (λx z=>by simpa using z),if_neg (λq=>q rfl)];have e:=Bh (K:=K) (N:=N) (T:=T) (P:=Zm N T s) (R:=[]) (Zm N T s) L (λx z=>z);rw[List.append_nil] at e;exact e
set_option maxRecDepth 10000 in
set_option maxHeartbeats 12800000 in
theorem Fs(ka kn kc K a b n c m d N T la ln lc L)(s t:Int)(w:World)(hE:EnvF w)(hK:Bk.TextsAt w ka kn K)(sK:Bk.SlOk ka kn kc)(hN:Tr.IntsAt w a n N)(hT:Tr.BlksAt w b m T)(sN:SlOk a n c)(sT:SlOk b m d)(hC:CoinsAt w la ln L)(sC:SlOk la ln lc)(ek:ln<=2199023255552)(ej:∀ x∈L,(ck x).length<=8796093022208) :
  ZH 4 #[.agg #[F ka kn kc],.agg #[F a n c,F b m d],F la ln lc,E J s,E J t] w (eA true):=by
 obtain⟨X,hX⟩:=ZG (Ed w [dW #[F ka kn kc] 24,dW #[F a n c,F b m d] 28]);have ei:X=((w.alloc (dW #[F ka kn kc] 24)).alloc (dW #[F a n c,F b m d] 28)):=hX;have bg:ZD w X:=by rw[hX];exact Pz _ _
 have da:Hid (X.heap[w.heap.size]? = some (dW [F ka kn kc].toArray 24 (0,0))):=by show X.heap[w.heap.size]? = _;rw[hX];exact Ka _ w 0 _ rfl
 have df:Hid (X.heap[w.heap.size+1]? = some (dW [F a n c,F b m d].toArray 28 (0,0))):=by show X.heap[w.heap.size+1]? = _;rw[hX];exact Ka _ w 1 _ rfl
 obtain⟨⟨x,C⟩,hx⟩:=ZF (Vt K N T L s t);obtain⟨y,hy⟩:=ZF (chkTr N T);obtain⟨k,hk⟩:=ZF (Bk.bkChk K);have dm:n<=maxLen:=sN.len;have C1:=Zb (Zok ka kn kc K a b n c m d N T la ln lc L s t x C X (hE.later bg).envp.env (hK.later bg) (hN.later bg) (hT.later bg) sN sT (hC.later bg) sC ek ej hx);have C3:=Zb (λV (hv:ZD w V)=>Tr.rchkTree_any a b n c m d N T y V (hN.later hv) (hT.later hv) sN sT hy);have C4:=Zb (λV (hv:ZD w V)=>Zcl V (hE.later hv).envp.env);have CB:=Zb (λV (hv:ZD w V)=>Bk.rcheck_is ka kn kc K V (hK.later hv) k hk)
 have CP:Hid (∀ V,ZD w V->y=0->∀ (q:Int) (Q:List Int) (o:Bool) (qn:Nat),(if q=0\/q∈N then (Zm N T q,true) else (([]:List Int),false))=(Q,o)->Q.length=qn->Calls aB 11 #[.agg #[F a n c,F b m d],E J q] V λr w'=>∃ v,r = dX (dY #[v,eA o])/\w'.ownsRow V.heap.size 3 1 v qn (Q.map (Value.int .i64))/\ZD V w'):=by
  intro V hv h0 q Q o qn h1 h2;have ce:=TrOk.of (hy.trans h0);obtain rfl:m=n:=by have e1:=hN.1;have e2:=hT.1;have e3:=ce.len;omega
  exact Tr.rpath_any a b m c d N T q Q o qn V ce dm (hN.later hv) (hT.later hv) h1 h2
 have CR:Hid (∀ V,ZD w V->k=0->y=0->(s=0\/s∈N)->(t=0\/t∈N)->Calls aB 18 #[F ka kn kc,.agg #[F a n c,F b m d],F la ln lc,E J s,E J t] V λe w'=>CnR V w' x C e):=by
  intro V hv bh h0 hs ht;have ce:=TrOk.of (hy.trans h0);obtain rfl:m=n:=by have e1:=hN.1;have e2:=hT.1;have e3:=ce.len;omega
  exact Zhg ka kn kc K a b m c d N T la ln lc L s t x C V (hE.later hv) (hK.later hv) sK ((Bk.right_iff K).1 (hk.trans bh)) (hN.later hv) (hT.later hv) dm (hC.later hv) sC ce hs ht ((Zpt (hk.trans bh) (hy.trans h0) hs ht L).symm.trans hx)
 have CL:Hid (∀ V,ZD w V->CoinsAt V la ln L):=λV hv=>hC.later hv;have MX:=Zb hx;have MY:=Zb hy;have MK:=Zb hk;have dy:Hid (ZD w X):=bg;clear hE hK sK hN hT sN sT hC sC ek ej hx hy hk bg hX dm;obtain⟨O,aa⟩:=cl1 da;obtain⟨ac,ad,ab⟩:=cl2 df;go_enter func4,ntmps4;go_wp2_with fail;rw[<-ei];clear ei;(try go_wp2_with fail);refine C1.mono ?_;rintro e w1 ⟨oa,ca,oc,rfl,eg,ep,cn⟩;clear O aa ac ad ab;have dd:=mvd cn da;have di:=mvd cn df;have cy:=onb dy cn;clear da df dy;have dx:Hid (ZD w1 w1):=Below.refl _ _;have bw:=Zb eg;have ef:=Zb ep;clear eg ep cn C1;obtain⟨O,aa⟩:=cl1 dd;obtain⟨ac,ad,ab⟩:=cl2 di;go_wp2_with fail;refine (CB _ cy).mono ?_;rintro e v1 ⟨rfl,z⟩;clear O aa ac ad ab;have bq:=mvd z dd;have bt:=mvd z di;have bk:=onb cy z;have cg:=onb dx z;clear dd di cy dx;clear z;clear CB;by_cases bh:k=0;rotate_left
 ·have e1:=(Zlu MK bh).symm.trans MX;have gk:(k != 0)=true:=by simp[bh]
  have fb:(k == 0)=false:=by simp[bh]
  obtain⟨rfl,rfl⟩:k=x/\[]=C:=⟨congrArg Prod.fst e1,congrArg Prod.snd e1⟩;obtain rfl:ca=0:=bw.1.symm;clear e1 CR CP MX MY MK CL;obtain⟨O,aa⟩:=cl1 bq;obtain⟨ac,ad,ab⟩:=cl2 bt;go_wp2_with fail;refine (C4 _ bk).mono ?_;rintro e z1 ⟨rfl,z⟩;clear O aa ac ad ab;have ah:=mvd z bq;have ai:=mvd z bt;have ag:=onb bk z;have al:=onb cg z;clear bq bt bk cg;clear z;obtain⟨O,aa⟩:=cl1 ah;obtain⟨ac,ad,ab⟩:=cl2 ai;go_wp2_with fail;refine (C4 _ ag).mono ?_;rintro e z2 ⟨rfl,z⟩;clear O aa ac ad ab;have de:=mvd z ah;have dj:=mvd z ai;have ba:=onb ag z;have ct:=onb al z;clear ah ai ag al;clear z;go_wp2;go_ret;exact⟨rfl,Za ba⟩
 subst bh;obtain⟨O,aa⟩:=cl1 bq;obtain⟨ac,ad,ab⟩:=cl2 bt;go_wp2_with fail;refine (C3 _ bk).mono ?_;rintro e v2 ⟨rfl,z⟩;clear O aa ac ad ab;have br:=mvd z bq;have bu:=mvd z bt;have bn:=onb bk z;have ci:=onb cg z;clear bq bt bk cg;clear z;clear C3;by_cases cf:y=0;rotate_left
 ·have e1:=(Zfw (s:=s) MK (congrArg Prod.snd (Zlc (λq=>cf (MY.symm.trans q)))) (λq=>cf (MY.symm.trans q))).symm.trans MX;rw[Za MY] at e1;have gk:(y != 0)=true:=by simp[cf]
  have fb:(y == 0)=false:=by simp[cf]
  obtain⟨rfl,rfl⟩:y=x/\[]=C:=⟨congrArg Prod.fst e1,congrArg Prod.snd e1⟩;obtain rfl:ca=0:=bw.1.symm;clear e1 CR CP MX MY MK CL;obtain⟨O,aa⟩:=cl1 br;obtain⟨ac,ad,ab⟩:=cl2 bu;go_wp2_with fail;refine (C4 _ bn).mono ?_;rintro e z1 ⟨rfl,z⟩;clear O aa ac ad ab;have ah:=mvd z br;have ai:=mvd z bu;have ag:=onb bn z;have al:=onb ci z;clear br bu bn ci;clear z;obtain⟨O,aa⟩:=cl1 ah;obtain⟨ac,ad,ab⟩:=cl2 ai;go_wp2_with fail;refine (C4 _ ag).mono ?_;rintro e z2 ⟨rfl,z⟩;clear O aa ac ad ab;have de:=mvd z ah;have dj:=mvd z ai;have ba:=onb ag z;have ct:=onb al z;clear ah ai ag al;clear z;go_wp2;go_ret;exact⟨rfl,Za ba⟩
 subst cf;obtain⟨⟨Q1,o1⟩,be⟩:=ZF ((if s=0\/s∈N then (Zm N T s,true) else (([]:List Int),false)));obtain⟨⟨Q2,o2⟩,ay⟩:=ZF ((if t=0\/t∈N then (Zm N T t,true) else (([]:List Int),false)));have E5:=Zb (CP _ bn (by first|rfl|trivial) s Q1 o1 _ be rfl);obtain⟨O,aa⟩:=cl1 br;obtain⟨ac,ad,ab⟩:=cl2 bu;go_wp2_with fail;refine E5.mono ?_;rintro e v3 ⟨vq,rfl,dn,z⟩;clear O aa ac ad ab;clear dn E5;have db:=mvd z br;have dg:=mvd z bu;have cu:=onb bn z;have dv:=onb ci z;clear br bu bn ci;clear z;have E6:=Zb (CP _ cu (by first|rfl|trivial) t Q2 o2 _ ay rfl);obtain⟨O,aa⟩:=cl1 db;obtain⟨ac,ad,ab⟩:=cl2 dg;go_wp2_with fail;refine E6.mono ?_;rintro e v4 ⟨fk,rfl,dn,z⟩;clear O aa ac ad ab;clear dn E6;have av:=mvd z db;have aw:=mvd z dg;have au:=onb cu z;have bi:=onb dv z;clear db dg cu dv;clear z;by_cases hs:s=0\/s∈N;rotate_left
 ·rw[if_neg hs] at be;obtain rfl:false=o1:=congrArg Prod.snd be;have e1:=(Zfw (L:=L) (t:=t) MK (congrArg Prod.snd (Zfq MY hs)) (by decide)).symm.trans MX;clear be ay hs;obtain⟨rfl,rfl⟩:(5:Int)=x/\[]=C:=⟨congrArg Prod.fst e1,congrArg Prod.snd e1⟩;obtain rfl:ca=0:=bw.1.symm;clear e1 CR CP MX MY MK CL;obtain⟨O,aa⟩:=cl1 av;obtain⟨ac,ad,ab⟩:=cl2 aw;go_wp2_with fail;refine (C4 _ au).mono ?_;rintro e z1 ⟨rfl,z⟩;clear O aa ac ad ab;have ah:=mvd z av;have ai:=mvd z aw;have ag:=onb au z;have al:=onb bi z;clear av aw au bi;clear z;obtain⟨O,aa⟩:=cl1 ah;obtain⟨ac,ad,ab⟩:=cl2 ai;go_wp2_with fail;refine (C4 _ ag).mono ?_;rintro e z2 ⟨rfl,z⟩;clear O aa ac ad ab;have de:=mvd z ah;have dj:=mvd z ai;have ba:=onb ag z;have ct:=onb al z;clear ah ai ag al;clear z;go_wp2;go_ret;exact⟨rfl,Za ba⟩
 rw[if_pos hs] at be;obtain rfl:true=o1:=congrArg Prod.snd be;clear be;by_cases ht:t=0\/t∈N;rotate_left
 ·rw[if_neg ht] at ay;obtain rfl:false=o2:=congrArg Prod.snd ay;have e1:=(Zol (L:=L) MK (congrArg Prod.snd (Sb MY hs)) (congrArg Prod.snd (Zfq MY ht)) (by decide)).symm.trans MX;clear ay hs ht;obtain⟨rfl,rfl⟩:(5:Int)=x/\[]=C:=⟨congrArg Prod.fst e1,congrArg Prod.snd e1⟩;obtain rfl:ca=0:=bw.1.symm;clear e1 CR CP MX MY MK CL;obtain⟨O,aa⟩:=cl1 av;obtain⟨ac,ad,ab⟩:=cl2 aw;go_wp2_with fail;refine (C4 _ au).mono ?_;rintro e z1 ⟨rfl,z⟩;clear O aa ac ad ab;have ah:=mvd z av;have ai:=mvd z aw;have ag:=onb au z;have al:=onb bi z;clear av aw au bi;clear z;obtain⟨O,aa⟩:=cl1 ah;obtain⟨ac,ad,ab⟩:=cl2 ai;go_wp2_with fail;refine (C4 _ ag).mono ?_;rintro e z2 ⟨rfl,z⟩;clear O aa ac ad ab;have de:=mvd z ah;have dj:=mvd z ai;have ba:=onb ag z;have ct:=onb al z;clear ah ai ag al;clear z;go_wp2;go_ret;exact⟨rfl,Za ba⟩
 rw[if_pos ht] at ay;obtain rfl:true=o2:=congrArg Prod.snd ay;clear ay CP;obtain⟨O,aa⟩:=cl1 av;obtain⟨ac,ad,ab⟩:=cl2 aw;go_wp2_with fail;refine (C4 _ au).mono ?_;rintro e v5 ⟨rfl,z⟩;clear O aa ac ad ab;have dc:=mvd z av;have dh:=mvd z aw;have cw:=onb au z;have dw:=onb bi z;clear av aw au bi;clear z;have E7:=Zb (CR _ cw (by first|rfl|trivial) (by first|rfl|trivial) hs ht);clear CR C4;obtain⟨O,aa⟩:=cl1 dc;obtain⟨ac,ad,ab⟩:=cl2 dh;go_wp2_with fail;refine E7.mono ?_;rintro e v6 ⟨pa,pn,pc,rfl,eh,ff,z⟩;clear O aa ac ad ab;have HP:=Zb eh;clear eh ff E7;have bs:=mvd z dc;have bv:=mvd z dh;have cb:=onb cw z;have bj:=onb dw z;clear dc dh cw dw;clear z;by_cases el:s=t
 ·subst el;have e1:=(Zdt MK MY hs).symm.trans MX;obtain⟨rfl,rfl⟩:(0:Int)=x/\L=C:=⟨congrArg Prod.fst e1,congrArg Prod.snd e1⟩;have E8:=Zb (Sk oa la ca ln oc lc L L true v6 ef.len (bw.later bj) (CL _ cb) ((Jv L L).2 rfl));clear e1 hs ht MX MY MK CL HP;obtain⟨O,aa⟩:=cl1 bs;obtain⟨ac,ad,ab⟩:=cl2 bv;go_wp2_with fail;refine E8.mono ?_;rintro e v7 ⟨rfl,z⟩;clear O aa ac ad ab;have eu:=mvd z bs;have ev:=mvd z bv;have cx:=onb cb z;have et:=onb bj z;clear bs bv cb bj;clear z;go_wp2;go_ret;exact⟨rfl,Za cx⟩
 have fh:(s == t)=false:=by simp[el]
 have E8:=Zb (Sk oa pa ca pn oc pc C C true v6 ef.len (bw.later bj) HP ((Jv C C).2 rfl));clear hs ht MX MY MK CL HP;obtain⟨O,aa⟩:=cl1 bs;obtain⟨ac,ad,ab⟩:=cl2 bv;go_wp2_with fail;refine E8.mono ?_;rintro e v7 ⟨rfl,z⟩;clear O aa ac ad ab;have eu:=mvd z bs;have ev:=mvd z bv;have cx:=onb cb z;have et:=onb bj z;clear bs bv cb bj;clear z;go_wp2;go_ret;exact⟨rfl,Za cx⟩
open Go.ChangeShapes Go.WideShapes Go.ChangeAt Go.RowKit
theorem own:ownKnob Tryz.prog.godebug=none:=by kernel_rfl
theorem Sd:laidOutB aB=true:=by kernel_rfl
theorem Tryz.cellsCoin:Tryz.prog.cellsOf 103=6:=by kernel_rfl
theorem Tryz.cells4:Tryz.prog.cellsOf 4=1:=by kernel_rfl
theorem Zlw{cs:List Value}(h:cs.length=6):∃ a b c d e f,cs=[a,b,c,d,e,f]:=by
 match cs,h with
 | [a,b,c,d,e,f],_=>exact⟨a,b,c,d,e,f,rfl⟩
theorem Tryz.cellsOp:Tryz.prog.cellsOf 122=2:=by kernel_rfl
theorem Tryz.cells3:Tryz.prog.cellsOf 3=1:=by kernel_rfl
theorem Gi{H:Type}{enc:bO×Value->H}{W}{sp:Nat->Bool}{held:Bool}{fuel:Nat}{a len cap}{x:dA H×List cW}
  (h:bI enc aB W 0 sp held fuel 66 [F a len cap]=some x):(∃ l,OpsAt W a len l)/\(a=none->len=0/\cap=0):=by
 rcases Deep.open_slice_pairs dR underlying122 Tryz.cellsOp rfl rfl Tryz.cells3 Tryz.cells3 h with ⟨z,_⟩|⟨b,l,c,m,n,V0,V1,D0,D1,P0,P1,z,_,hl,_,hm,_,af⟩
 ·simp at z;obtain⟨rfl,rfl,rfl⟩:=z;exact⟨⟨[],rfl,λh=>absurd h (by omega)⟩,λ_=>⟨rfl,rfl⟩⟩
 ·simp at z;obtain⟨rfl,rfl,rfl⟩:=z;refine⟨?_,λh=>by cases h⟩;have aw:len<=m:=by rw[hm];split <;> omega
  have ae:∀ i,i<len->∃ q:Int×Int,W.cell? (b.add (i*2))=some (.int .i64 q.1)/\W.cell? (b.add (i*2+1))=some (.int .i64 q.2):=λi hi=>by
   obtain⟨h1,h2,t1,t2⟩:=af i (by omega);obtain⟨z1,e1,_,_⟩:=bV aG t1;obtain⟨z2,e2,_,_⟩:=bV aG t2;simp only[dM,and_true] at e1 e2;exact⟨(z1,z2),by rw[h1,e1],by rw[h2,e2]⟩
  obtain⟨f,hf⟩:=Deep.choose_lt ae;refine⟨(List.range len).map f,by simp,λah=>?_⟩;obtain⟨O,off,aj⟩:=b;have ai:aj=none:=by simpa[Addr.add] using World.cell?_spot (hf 0 ah).1
  subst ai;refine⟨O,off,rfl,λi hi=>?_⟩;have ac:∀ j,(⟨O,off,none⟩:Addr).add j=⟨O,off+j,none⟩:=λj=>by unfold Addr.add;split <;> simp_all
  have h1:=hf i hi;rw[ac,ac] at h1;rw[<-Nat.add_assoc] at h1;simpa[hi] using h1
theorem Tryz.cellsTx:Tryz.prog.cellsOf 52=3:=by kernel_rfl
theorem Tryz.cellsIn:Tryz.prog.cellsOf 124=3:=by kernel_rfl
theorem Tryz.cellsOut:Tryz.prog.cellsOf 101=2:=by kernel_rfl
theorem Tryz.cellsPoint:Tryz.prog.cellsOf 99=2:=by kernel_rfl
theorem Tryz.cellsOps:Tryz.prog.cellsOf 66=1:=by kernel_rfl
theorem Tryz.cellsIns:Tryz.prog.cellsOf 49=1:=by kernel_rfl
theorem Tryz.cellsOuts:Tryz.prog.cellsOf 50=1:=by kernel_rfl
theorem list_two{cs:List Value}(h:cs.length=2):∃ a b,cs=[a,b]:=by
 match cs,h with
 | [a,b],_=>exact⟨a,b,rfl⟩
theorem Ro{cs:List Value}(h:cs.length=3):∃ a b c,cs=[a,b,c]:=by
 match cs,h with
 | [a,b,c],_=>exact⟨a,b,c,rfl⟩
section
variable {H : Type} {enc : TypeId × Value -> H} {W : World} {sp : Nat -> Bool} {held : Bool} {fuel : Nat}
theorem ops_full{v}{x:dA H×List cW}(h:bI enc aB W 0 sp held fuel 66 [v]=some x):∃ a n c l,v = F a n c/\OpsAt W a n l/\SlOk a n c:=by
 have h':=h
 rcases Deep.open_slice dR h with ⟨z,_⟩|⟨b,l,c,m,n,D,Pl,z,_,hl,hm,_⟩
 ·simp at z;subst z;exact⟨none,0,0,[],rfl,⟨rfl,λh=>absurd h (by omega)⟩,Nat.le_refl _,Nat.zero_le _,λ_=>⟨rfl,rfl⟩⟩
 ·simp at z;subst z;obtain⟨⟨L,O⟩,_⟩:=Gi h';exact⟨some b,l,c,L,rfl,O,hl,hm,λh=>by cases h⟩
theorem Zga{cs}{x:dA H×List cW}(h:bI enc aB W 0 sp held fuel 124 cs=some x):∃ z O a n c l,cs=[.int .i64 z,.int .i64 O,F a n c]/\OpsAt W a n l/\SlOk a n c:=by
 obtain⟨y0,y1,k,_,hl,h0,h1⟩:=trod_struct2 underlying124 h;rw[Tryz.cellsIn] at hl;obtain⟨c0,c1,c2,rfl⟩:=Ro hl;simp[Tryz.cellsPoint,Tryz.cellsOps] at h0 h1;obtain⟨z0,z1,k2,_,_,g0,g1⟩:=trod_struct2 underlying99 h0;simp[Tryz.cells3] at g0 g1;obtain⟨z,e1,_,_⟩:=bV aG g0;obtain⟨O,e2,_,_⟩:=bV aG g1;obtain⟨a,n,c,l,rfl,hO,hS⟩:=ops_full h1;simp only[dM,and_true] at e1 e2;subst e1 e2;exact⟨z,O,a,n,c,l,rfl,hO,hS⟩
theorem Zbc{cs}{x:dA H×List cW}(h:bI enc aB W 0 sp held fuel 101 cs=some x):∃ z a n c l,cs=[.int .i64 z,F a n c]/\OpsAt W a n l/\SlOk a n c:=by
 obtain⟨y0,y1,k,_,hl,h0,h1⟩:=trod_struct2 underlying101 h;rw[Tryz.cellsOut] at hl;obtain⟨c0,c1,rfl⟩:=list_two hl;simp[Tryz.cells3,Tryz.cellsOps] at h0 h1;obtain⟨z,O,_,_⟩:=bV aG h0;obtain⟨a,n,c,l,rfl,hO,hS⟩:=ops_full h1;simp only[dM,and_true] at O;subst O;exact⟨z,a,n,c,l,rfl,hO,hS⟩
end
namespace Bk
open Go.ChangeShapes Go.WideShapes Go.ChangeAt Go.RowKit
theorem own:ownKnob Tryz.prog.godebug=none:=by kernel_rfl
theorem Sd:laidOutB aB=true:=by kernel_rfl
theorem Tryz.cells9:Tryz.prog.cellsOf 9=1:=by kernel_rfl
theorem Tryz.cellsStrs:Tryz.prog.cellsOf 22=1:=by kernel_rfl
theorem Tryz.cellsBook:Tryz.prog.cellsOf 24=1:=by kernel_rfl
section
variable {H : Type} {enc : TypeId × Value -> H} {W : World} {sp : Nat -> Bool} {held : Bool} {fuel : Nat}
theorem Zgs{v}{x:dA H×List cW}(h:bI enc aB W 0 sp held fuel 22 [v]=some x) :
  ∃ a n c L,v = F a n c/\TextsAt W a n L/\SlOk a n c/\(n=0\/∃ aa aj,x.1 = .slice aa aj/\aa.length=n):=by
 rcases Deep.open_strs underlying22 dU Tryz.cells9 h with ⟨z,_⟩|⟨b,l,c,m,Sx,z,_,hl,hm,ag,hx,ab⟩
 ·simp at z;subst z;exact⟨none,0,0,[],rfl,TextsAt.nil _ _,SlOk.nil,Or.inl rfl⟩
 ·simp at z;subst z;have an:l<=m:=by rw[ag];split <;> omega
  refine⟨some b,l,c,(List.range l).map Sx,rfl,⟨by simp,λao=>?_⟩,⟨hl,hm,λh=>by cases h⟩,Or.inr ⟨_,_,by rw[hx],by simp⟩⟩;obtain⟨O,off,ak⟩:=b;have z0:=(ab 0 (by omega)).1;have ah:ak=none:=by simpa[Addr.add] using World.cell?_spot z0
  subst ah;have ad:∀ j,(⟨O,off,none⟩:Addr).add j=⟨O,off+j,none⟩:=λj=>by unfold Addr.add;split <;> simp_all
  refine⟨O,off,rfl,λi hi=>?_⟩;have am:i<l:=by simpa using hi
  have q:=(ab i (by omega)).1;rw[ad] at q;rw[List.getElem_map,List.getElem_range];exact q
theorem book_full{cs}{x:dA H×List cW}(h:bI enc aB W 0 sp held fuel 24 cs=some x):∃ a n c L,cs=[F a n c]/\TextsAt W a n L/\SlOk a n c:=by
 obtain⟨y0,k,_,z,h0⟩:=trod_struct1 underlying24 h;rw[Tryz.cellsBook] at z;obtain⟨c0,rfl⟩:=List.length_eq_one_iff.1 z;simp[Tryz.cellsStrs] at h0;obtain⟨a,n,c,L,rfl,hT,O,_⟩:=Zgs h0;exact⟨a,n,c,L,rfl,hT,O⟩
end
end Bk
open Go.ChangeShapes Go.WideShapes Go.ChangeAt Go.RowKit
theorem Tryz.cellsBlk:Tryz.prog.cellsOf 68=5:=by kernel_rfl
theorem Tryz.cellsTxs:Tryz.prog.cellsOf 48=1:=by kernel_rfl
theorem Aj{cs:List Value}(h:cs.length=5):∃ a b c d e,cs=[a,b,c,d,e]:=by
 match cs,h with
 | [a,b,c,d,e],_=>exact⟨a,b,c,d,e,rfl⟩
section
variable {H : Type} {enc : TypeId × Value -> H} {W : World} {sp : Nat -> Bool} {held : Bool} {fuel : Nat}
theorem P7{t:bO}{z O f2 f3 f4:Field}{cs:List Value}{x:dA H×List cW}(ht:Tryz.prog.underlying t=some (.struct #[z,O,f2,f3,f4]))(h:bI enc aB W 0 sp held fuel t cs=some x) :
  ∃ y0 y1 y2 y3 y4 n,cs.length=Tryz.prog.cellsOf t/\bI enc aB W 0 sp held n z.type ((cs.drop z.offset).take (Tryz.prog.cellsOf z.type))=some y0 /\
   bI enc aB W 0 sp held n O.type ((cs.drop O.offset).take (Tryz.prog.cellsOf O.type))=some y1/\bI enc aB W 0 sp held n f2.type ((cs.drop f2.offset).take (Tryz.prog.cellsOf f2.type))=some y2 /\
   bI enc aB W 0 sp held n f3.type ((cs.drop f3.offset).take (Tryz.prog.cellsOf f3.type))=some y3/\bI enc aB W 0 sp held n f4.type ((cs.drop f4.offset).take (Tryz.prog.cellsOf f4.type))=some y4:=by
 obtain⟨xs,n,_,rfl,hl,aj,hf⟩:=DataW.trod_struct ht h
 match xs,aj with
 | [y0,y1,y2,y3,y4],_=>exact⟨y0,y1,y2,y3,y4,n,hl,by simpa using hf 0 z rfl,by simpa using hf 1 O rfl,by simpa using hf 2 f2 rfl,by simpa using hf 3 f3 rfl,by simpa using hf 4 f4 rfl⟩
end
set_option maxRecDepth 100000 in
theorem Cj{H:Type}{enc:bO×Value->H}{os:Os}{f:FuncId}{fn:Func}{s:ChangeSpec}{X:World->Prop}(hX:∀ w w':World,w.heap=w'.heap->X w->X w')
  (ap:os.Started) (ao:Tryz.checked.prog.inits.idxOf? f=none) (ag:Tryz.checked.prog.funcs[f]? = some fn)
  (aq:∃ (w:World) (tape:Tape) (i:Input),w.os=os/\(w.forCall tape i).Shaped Tryz.checked.prog/\i.vars=[]/\Input.okWide Tryz.checked.prog (w.forCall tape i) .any w.heap.size f i /\
   ((s.pre enc Tryz.checked.prog fn [] false (w.forCall tape i).memory i.args/\X (w.forCall tape i).memory)/\sizedMet enc Tryz.checked.prog fn (OpenSpec.ofChange s) false (w.forCall tape i).memory i.args)/\({}:Assume).holds Tryz.checked.prog (lone (Frame.enter Tryz.checked.prog f i.args .normal) [] (w.forCall tape i)))
  (ac:∀ (W:World) (base:Nat) (args:Array Value) (z O:List (dA H)) (aa:List cW),
   (∀ (j:Nat) t v,fn.params[j]? = some t->args[j]? = some v->Value.okWide Tryz.checked.prog W .any base t v) ->
   DataW.Whole enc Tryz.checked.prog fn.params.toList s.vars false W args.toList z O aa->X W->(DataW.weightsEach Tryz.checked.prog (fn.params.toList++s.plain.varTypes Tryz.checked.prog) (z++O)).all (·<=reachBytes)=true ->
   Calls Tryz.checked.prog f args W λe W'=>∃ v,e = dX v/\s.post enc Tryz.checked.prog fn false true false false W args v W') :
  ReturnsInHanded {} Tryz.checked os f .any (λw args=>(s.pre enc Tryz.checked.prog fn [] false w args/\X w)/\sizedMet enc Tryz.checked.prog fn (OpenSpec.ofChange s) false w args) (s.post enc Tryz.checked.prog fn false true false false):=by
 refine returnsInHanded_of_calls own ap ao aq ?_;intro w tape i _ _ _ ai ak _;obtain⟨_,_,_,ad,ah,_,_,_,_,al⟩:=ai;obtain rfl:ad=fn:=Option.some.inj (ah.symm.trans ag);obtain⟨⟨⟨z,O,aa,hw,_⟩,hx⟩,hz⟩:=ak;refine (ac (w.forCall tape i) w.heap.size i.args z O aa al (DataW.Whole.of_heap (w':=w.forCall tape i) (by rfl) hw) (hX _ _ (by rfl) hx) (hz.weights hw)).mono λe W' ⟨v,he,hp⟩=>?_;subst he;exact ChangeSpec.post_blind hp
namespace Lf
open Go.ChangeShapes Go.WideShapes Go.ChangeAt Go.RowKit
theorem own:ownKnob Tryz.prog.godebug=none:=by kernel_rfl
theorem Sd:laidOutB aB=true:=by kernel_rfl
theorem Bl{H:Type}{enc:bO×Value->H}{w}{base:Nat}{sp:Nat->Bool}{held:Bool}{fuel:Nat}{t:bO}{n:Nat}{cs}{ss:List (List UInt8)}{p}
  (ht:Tryz.prog.underlying t=some (.array n 9)) (ad:Tryz.prog.cellsOf t=n) (h9:Tryz.prog.cellsOf 9=1)
  (h:bI enc aB w base sp held fuel t cs=some (.agg (ss.map λb=>.lit (.string b)),p)):cs=ss.map λb=>Value.string ⟨b.toArray⟩:=by
 obtain⟨xs,m,rfl,O,hl,hn,ae⟩:=DataW.trod_array ht h;rw[ad] at hl;simp only[Prod.mk.injEq,DataW.agg.injEq] at O
 have aj:ss.length=n:=by
  have:=congrArg List.length O.1;simp at this;omega
 apply List.ext_getElem?
 intro i;by_cases hi:i<n
 ·have z:=ae i hi;rw[h9,Nat.mul_one] at z;have ab:i<xs.length:=by omega
  rw[aS ab] at z;obtain⟨s,hc,hy,_⟩:=DataW.trod_string dU z
  have h1:cs[i]? = some (.string s):=by
   have:=congrArg (·[0]?) hc;simpa[List.getElem?_take,List.getElem?_drop] using this
  have h2:(xs.map (·.1))[i]? = some (.lit (.string s.data.toList)):=by
   rw[List.getElem?_map,aS ab,hy];rfl
  rw[<-O.1] at h2;have aa:i<ss.length:=by omega
  simp only[List.getElem?_map,aS aa,Option.map_some,Option.some.injEq,DataW.lit.injEq,Lit.string.injEq] at h2;rw[h1,List.getElem?_map,aS aa,h2];rfl
 ·rw[List.getElem?_eq_none (by omega),List.getElem?_eq_none (by simp;omega)]
def namesBytes:List (List UInt8):=namesL.map (·.data.toList)
theorem Tryz.tNam:(Tryz.prog.globals[2]?).map (·.type)=some 313:=by kernel_rfl
theorem Tryz.tTab:(Tryz.prog.globals[3]?).map (·.type)=some 325:=by kernel_rfl
theorem Tryz.cellsNam:Tryz.prog.cellsOf 313=14:=by kernel_rfl
theorem Tryz.cellsTab:Tryz.prog.cellsOf 325=20:=by kernel_rfl
theorem Tryz.cells9:Tryz.prog.cellsOf 9=1:=by kernel_rfl
theorem Tryz.cellsU64:Tryz.prog.cellsOf 286=1:=by kernel_rfl
theorem names_of_laid{H:Type}{enc:bO×Value->H}{w:World}{base:Nat}{sp:Nat->Bool}{held:Bool}{fuel:Nat}{cs:Array Value}{p}(O:w.var? aB "cairn/lock.names" = some cs)
  (h:bI enc aB w base sp held fuel 313 cs.toList=some (Rows.laid_cairn_lock_names,p)):w.var? aB "cairn/lock.names" = some Zdr:=by
 have e:=Bl (ss:=namesBytes) underlying313 Tryz.cellsNam Tryz.cells9 h;rw[O]
 congr 1
 obtain⟨l⟩:=cs;have z:l=namesBytes.map λb=>Value.string ⟨b.toArray⟩:=e;rw[z];rfl
theorem tab_of_laid{H:Type}{enc:bO×Value->H}{w:World}{base:Nat}{sp:Nat->Bool}{held:Bool}{fuel:Nat}{cs:Array Value}{p}(O:w.var? aB "internal/strconv.uint64pow10" = some cs)
  (h:bI enc aB w base sp held fuel 325 cs.toList=some (Rows.laid_internal_strconv_uint64pow10,p)):Lib.TabIs aB w "internal/strconv.uint64pow10" .u64 Lib.pow10Tab:=by
 have e:=Lib.cells_of_tab (zs:=Lib.pow10Tab) underlying325 underlying286 Tryz.cellsU64 Tryz.cellsTab h;unfold Lib.TabIs;rw[O]
 congr 1
 obtain⟨l⟩:=cs;have z:l=Lib.pow10Tab.map λab=>Value.int .u64 ab:=e;rw[z]
theorem Tryz.cellsOp:Tryz.prog.cellsOf 122=2:=by kernel_rfl
theorem Tryz.cells3:Tryz.prog.cellsOf 3=1:=by kernel_rfl
theorem Gi{H:Type}{enc:bO×Value->H}{W}{sp:Nat->Bool}{held:Bool}{fuel:Nat}{a len cap}{x:dA H×List cW}
  (h:bI enc aB W 0 sp held fuel 66 [F a len cap]=some x):(∃ l,OpsAt W a len l)/\(a=none->len=0/\cap=0):=by
 rcases Deep.open_slice_pairs dR underlying122 Tryz.cellsOp rfl rfl Tryz.cells3 Tryz.cells3 h with ⟨z,_⟩|⟨b,l,c,m,n,V0,V1,D0,D1,P0,P1,z,_,hl,_,hm,_,af⟩
 ·simp at z;obtain⟨rfl,rfl,rfl⟩:=z;exact⟨⟨[],rfl,λh=>absurd h (by omega)⟩,λ_=>⟨rfl,rfl⟩⟩
 ·simp at z;obtain⟨rfl,rfl,rfl⟩:=z;refine⟨?_,λh=>by cases h⟩;have aw:len<=m:=by rw[hm];split <;> omega
  have ae:∀ i,i<len->∃ q:Int×Int,W.cell? (b.add (i*2))=some (.int .i64 q.1)/\W.cell? (b.add (i*2+1))=some (.int .i64 q.2):=λi hi=>by
   obtain⟨h1,h2,t1,t2⟩:=af i (by omega);obtain⟨z1,e1,_,_⟩:=bV aG t1;obtain⟨z2,e2,_,_⟩:=bV aG t2;simp only[dM,and_true] at e1 e2;exact⟨(z1,z2),by rw[h1,e1],by rw[h2,e2]⟩
  obtain⟨f,hf⟩:=Deep.choose_lt ae;refine⟨(List.range len).map f,by simp,λah=>?_⟩;obtain⟨O,off,aj⟩:=b;have ai:aj=none:=by simpa[Addr.add] using World.cell?_spot (hf 0 ah).1
  subst ai;refine⟨O,off,rfl,λi hi=>?_⟩;have ac:∀ j,(⟨O,off,none⟩:Addr).add j=⟨O,off+j,none⟩:=λj=>by unfold Addr.add;split <;> simp_all
  have h1:=hf i hi;rw[ac,ac] at h1;rw[<-Nat.add_assoc] at h1;simpa[hi] using h1
end Lf
open Go.ChangeShapes Go.WideShapes Go.ChangeAt Go.RowKit
theorem Lu{P:Program}{w}{l:List (String×dA Unit)}(fuel M:Nat)
  (h:((DataW.laidRun P w fuel (l.map (·.1))).bind λx=>if nodupBits M x.2 0 && laidRowsB P w x.2 then some x.1 else none)=some l):laidMet P l w:=by
 simp only[Option.bind_eq_some_iff] at h;obtain⟨x,O,d⟩:=h;split at d
 ·rename_i z;simp only[Bool.and_eq_true] at z;cases d;exact laidMet_of_run (ps:=x.2) fuel (by rw[O]) (decide_eq_true (nodupBits_sound z.1).1) z.2
 ·cases d
open Go.ChangeShapes Go.WideShapes Go.ChangeAt Go.RowKit
theorem Tryz.tSpc:(Tryz.prog.globals[0]?).map (·.type)=some 256:=by kernel_rfl
theorem Tryz.cellsSpc:Tryz.prog.cellsOf 256=256:=by kernel_rfl
theorem Tryz.cells5:Tryz.prog.cellsOf 5=1:=by kernel_rfl
theorem Zcw{H:Type}:(Rows.laid_strings_asciiSpace:dA H)=Lib.tabData .u8 Lib.asciiSpaceTab:=by kernel_rfl
theorem Fc{H:Type}{enc:bO×Value->H}{w:World}{base:Nat}{sp:Nat->Bool}{held:Bool}{fuel:Nat}{cs:Array Value}{p}(O:w.var? aB "strings.asciiSpace" = some cs)
  (h:bI enc aB w base sp held fuel 256 cs.toList=some (Rows.laid_strings_asciiSpace,p)):Lib.TabIs aB w "strings.asciiSpace" .u8 Lib.asciiSpaceTab:=by
 rw[Zcw] at h;have e:=Lib.cells_of_tab (zs:=Lib.asciiSpaceTab) underlying256 underlying5 Tryz.cells5 Tryz.cellsSpc h;unfold Lib.TabIs;rw[O]
 congr 1
 obtain⟨l⟩:=cs;have z:l=Lib.asciiSpaceTab.map λab=>Value.int .u8 ab:=e;rw[z]
