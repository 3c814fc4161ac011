import Derived.Test.YtmomfkikogbdeaaGreatDoorH
import Derived.Test.YtmomfkikogbdeaaGreatDoorG36
open Go.Proofs.Tryz
open Go renaming heap_alloc_new->aJ,wpAnyH_ready->bP
open Go.Act renaming put->aE
open Go.Ending renaming returned->cS
open Go.IntKind renaming i64->J
open Go.Obj renaming cells->cR
open Go.Value renaming int->E,slice->F,tuple->cT,pointer->cU
open Go.World renaming block_lt_of_cell?->aD,setCell->cD
open Nat renaming zero_le->aM,lt_of_lt_of_le->aC,le_trans->aT
set_option maxHeartbeats 12800000
set_option maxRecDepth 10000
namespace Go.Proofs.YtmomfkikogbdeaaGreatDoor
open Go.RowKit
def Vr(x:Vo):Prop:=x.2.2.1.length<=2513169434916/\∀ t∈x.2.2.1,Tr.TxSmall t
theorem L4(ka kn kc K na nn nc L ma mn mc M)(x:Int)(w:World)(hE:Env w)(hK:Bk.TextsAt w ka kn K)(hN:NodsAt w na nn L)(hM:MsgsAt w ma mn M)(ea:∀ y∈L,Vr y)(hx:Xl K L M=x) :
  ZH 45 #[.agg #[F ka kn kc,F na nn nc,F ma mn mc]] w (E J x):=by
 obtain⟨X,hX⟩:=ZG (w.alloc (cR #[F ka kn kc,F na nn nc,F ma mn mc] 90));have dx:ZD w X:=by rw[hX];exact Zh _ _
 have aj:X.heap[w.heap.size]? = some (cR [F ka kn kc,F na nn nc,F ma mn mc].toArray 90 (0,0)):=by rw[hX];exact aJ _ _
 have lN:L.length=nn:=hN.1;have lM:M.length=mn:=hM.1;obtain⟨o,ho⟩:=ZF ((decide (1<=(nn:Int)) && decide ((nn:Int)<=4)));obtain⟨k,hk⟩:=ZF (Bk.bkChk K)
 have hx:(if o=false then 3 else if k≠0 then k else if 20<mn then 2 else if Wx K L≠0 then Wx K L else Qd nn M)=x:=by
  rw[<-hx,<-ho,<-hk];unfold Xl;rw[lN,lM];by_cases q:1<=nn/\nn<=4
  ·have e:(decide (1<=(nn:Int)) && decide ((nn:Int)<=4))=true:=(by simp;omega);rw[e,if_neg (by decide),if_neg (show ¬¬(1<=nn/\nn<=4) from λr=>r q)]
  ·have e:(decide (1<=(nn:Int)) && decide ((nn:Int)<=4))=false:=(by simp;omega);rw[e,if_pos rfl,if_pos q]
 have C1:=Zd (Hz nn o X ho);have C2:=Zd (λV (hv:ZD w V)=>Bk.check_is ka kn kc K V (hK.later hv) k hk);have CN:=Zd (λV (hv:ZD w V) j (hj:j<L.length)=>And.intro (hE.later hv) (And.intro (hK.later hv) (hN.later hv)));have HX:=Zd hx;have HO:=Zd ho;have dr:=Zd aj;have dm:=Zd dx;have HE:=Zd hE;have HK:=Zd hK;have HN:=Zd hN;have HM:=Zd hM;have el:=Zd ea;have dp:=Zd lN;have dn:=Zd lM;have m0:=Zb aj 0 _ rfl;have m1:=Zb aj 1 _ rfl;have m2:=Zb aj 2 _ rfl;have ml:=lt_of_block aj;clear hE hK hN hM ea hx hk ho aj dx lN lM CN;go_enter func45,ntmps45;go_wp2_with fail;rw[<-hX];clear hX;(try go_wp2_with fail);refine C1.mono ?_;rintro e w1 ⟨rfl,cn⟩;have bh:=Zd (Zf dm cn);have X1:=Zd (ZE cn dr);clear cn C1 m0 m1 m2 ml dr dm;cases o
 ·obtain rfl:(3:Int)=x:=by have q:=Za HX;rw[if_pos rfl] at q;exact q
  go_wp2;go_ret;exact⟨rfl,Za bh⟩
 have fg:nn<=4:=by have q:=Za HO;simp at q;omega
 clear HO;have m0:=Zb X1 0 _ rfl;have m1:=Zb X1 1 _ rfl;have m2:=Zb X1 2 _ rfl;have ml:=lt_of_block X1;go_wp2_with fail;refine (C2 _ bh).mono ?_;rintro e w2 ⟨rfl,cp⟩;have bi:=Zd (Zf bh cp);have X2:=Zd (ZE cp X1);clear cp C2 m0 m1 m2 ml X1 bh;by_cases cw:k=0;rotate_left
 ·obtain rfl:k=x:=by have q:=Za HX;rw[if_neg (by decide),if_pos cw] at q;exact q
  have gk:(k != 0)=true:=by simp[cw]
  go_wp2;go_ret;exact⟨rfl,Za bi⟩
 subst cw;have m0:=Zb X2 0 _ rfl;have m1:=Zb X2 1 _ rfl;have m2:=Zb X2 2 _ rfl;have ml:=lt_of_block X2;by_cases hm:20<mn
 ·have gm:(20:Int)<(mn:Int):=by omega
  obtain rfl:(2:Int)=x:=by have q:=Za HX;rw[if_neg (by decide),if_neg (λr=>r rfl),if_pos hm] at q;exact q
  go_wp2;go_ret;exact⟨rfl,Za bi⟩
 have gm:¬(20:Int)<(mn:Int):=by omega
 have ce:Hid ((if Wx K L≠0 then Wx K L else Qd nn M)=x):=by have q:=Za HX;rw[if_neg (by decide),if_neg (λr=>r rfl),if_neg hm] at q;exact q
 clear HX;go_wp2_with fail
 go_loopw [28] (λi W=>∃ j:Nat,j<=nn/\i = E J j/\Hid (Wx K (L.drop j)=Wx K L)/\Hid (ZD w2 W)) (λi _=>nn - (intOf i).toNat)
 case atStart=>exact⟨0,aM _,rfl,rfl,Below.refl _ _⟩
 case round=>
  obtain⟨j,hj,rfl,HQ,HG⟩:=hrel;clear m0 m1 m2 ml;have X3:=Zd (ZE HG X2);have al:=Zd (Zf bi HG);by_cases bs:j<nn
  ·have ct:j<L.length:=(by rw[Za dp];exact bs);have ff:(j:Int)<(nn:Int):=(by omega);have hq:=(Zgn ct).symm.trans HQ;obtain⟨gb,go,rfl,_,bd⟩:=(HN.later al).2 (by omega);have az:=bd j ct;have bu:=el _ (List.getElem_mem ct);obtain⟨⟨N,T,P,tip⟩,hy⟩:=ZF (L[j]);rw[hy] at az hq bu;obtain⟨za,zn,zc,ba,bn,bc,pa,pn,pc,c0,c1,c2,c3,iN,iT,iP,s1,s2,s3⟩:=az;simp only at c3 iN iT iP;obtain⟨y,be⟩:=ZF (opN K (N,T,P,tip));rw[be] at hq;have be:opE K N T P tip=y:=be;obtain⟨Y,hY⟩:=ZG (wr.alloc (cR #[F za zn zc,F ba bn bc,F pa pn pc,E J tip] 67));have Q:ZD wr Y:=(by rw[hY];exact Zh _ _);have z:Hid (Y.heap[wr.heap.size]? = some (cR [F za zn zc,F ba bn bc,F pa pn pc,E J tip].toArray 67 (0,0))):=(by show _=_;rw[hY];exact aJ _ _);have X4:=Zd (ZE Q X3);have lP:P.length=pn:=iP.1;have CK:=Zd (Zcq ka kn kc K za ba pa zn zc bn bc pn pc N T P tip y Y (HE.later (Zf al Q)) (HK.later (Zf al Q)) (iN.later Q) (iT.later Q) (iP.later Q) s1 s2 s3 (by rw[<-lP];exact bu.1) bu.2 be);have an:=Zd (Zf HG Q);have af:=Zd hq;have cl:=aD _ _ c0;have m0:=Zb X3 0 _ rfl;have m1:=Zb X3 1 _ rfl;have m2:=Zb X3 2 _ rfl;have ml:=lt_of_block X3;clear hq bd bu iN iT iP s1 s2 s3 be Q HQ hy lP
   go_upto_region 11 with fail
   rw[<-hY];clear hY c0 c1 c2 c3 cl m0 m1 m2 ml;have m0:=Zb X4 0 _ rfl;have m1:=Zb X4 1 _ rfl;have m2:=Zb X4 2 _ rfl;have ml:=lt_of_block X4;have n0:=Zb z 0 _ rfl;have n1:=Zb z 1 _ rfl;have n2:=Zb z 2 _ rfl;have n3:=Zb z 3 _ rfl;have nl:=lt_of_block z;go_wp2_with fail;refine CK.mono ?_;rintro e w3 ⟨rfl,bb⟩;have am:=Zd (Zf an bb);clear bb CK m0 m1 m2 ml n0 n1 n2 n3 nl X4 z an;by_cases ae:y=0
   ·subst ae;have cd:Hid (Wx K (L.drop (j+1))=Wx K L):=(by have q:=Za af;rw[if_neg (λr=>r rfl)] at q;exact q);clear af;go_wp2;go_roundw
    case rel=>exact⟨j+1,by omega,by go_num,cd,am⟩
    case measure=>simp[intOf];omega
   ·have gy:(y != 0)=true:=by simp[ae]
    obtain rfl:y=x:=by
     have q:=Za af;rw[if_pos ae] at q;have r:=Za ce;rw[<-q,if_pos ae] at r;exact r
    have ca:=Zd (Zf bi am);go_wp2;go_ret;exact⟨rfl,Za ca⟩
  ·have es:j=nn:=by omega
   have ds:Hid (Qd nn M=x):=by
    have q:=Za HQ;rw[List.drop_of_length_le (by rw[Za dp];omega)] at q;have r:=Za ce;rw[<-q,if_neg (λr=>r rfl)] at r;exact r
   clear HQ ce bs;subst es;have m0:=Zb X3 0 _ rfl;have m1:=Zb X3 1 _ rfl;have m2:=Zb X3 2 _ rfl;have ml:=lt_of_block X3;obtain⟨V0,dw⟩:∃ V,V=wr:=⟨_,rfl⟩;go_wp2_with fail
   go_loopw [43] (λi W=>∃ i2:Nat,i2<=mn/\i = E J i2/\Hid (Qd j (M.drop i2)=x)/\Hid (ZD V0 W)) (λi _=>mn - (intOf i).toNat)
   case atStart=>exact⟨0,aM _,rfl,by show _=_;rw[List.drop_zero];exact Za ds,by rw[dw];exact Below.refl _ _⟩
   case round=>
    obtain⟨i,hi,rfl,HQ,cc⟩:=hrel;clear m0 m1 m2 ml ds;subst dw;have X5:=Zd (ZE cc X3);have dl:=Zd (Zf al cc);by_cases bs:i<mn
    ·have dy:i<M.length:=(by rw[Za dn];exact bs);have fe:(i:Int)<(mn:Int):=(by omega);have hq:=(Zgy dy).symm.trans HQ;obtain⟨gb,go,rfl,_,bd⟩:=(HM.later dl).2 (by omega);have az:=bd i dy;obtain⟨⟨kd,fr,tq,nm,⟨bp,fi,bk,bn,Lb⟩,⟨th,I,O⟩⟩,hy⟩:=ZF (M[i]);rw[hy] at az hq;obtain⟨c0,c1,c2,c3,⟨c4,c5,c6,c7,ba,bm,bc,c8,iL,sL⟩,c9,⟨ai,ni,ci,cf,iI,sI⟩,ao,no,co,cg,iO,sO⟩:=az;simp only at c0 c1 c2 c3 c4 c5 c6 c7 c9 iL iI iO;have c5:wr.cell? ⟨gb,go+i*12+5,none⟩=some (E J fi):=c5;have c6:wr.cell? ⟨gb,go+i*12+6,none⟩=some (E J bk):=c6;have c7:wr.cell? ⟨gb,go+i*12+7,none⟩=some (E J bn):=c7;have c8:wr.cell? ⟨gb,go+i*12+8,none⟩=some (F ba bm bc):=c8;have cf:wr.cell? ⟨gb,go+i*12+10,none⟩=some (F ai ni ci):=cf;have cg:wr.cell? ⟨gb,go+i*12+11,none⟩=some (F ao no co):=cg;obtain⟨y,cq⟩:=ZF (Re (kd,fr,tq,nm,(bp,fi,bk,bn,Lb),(th,I,O)) (j:Int));rw[cq] at hq;obtain⟨Y,hY⟩:=ZG (wr.alloc (cR #[E J kd,E J fr,E J tq,E J nm,E J bp,E J fi,E J bk,E J bn,F ba bm bc,E J th,F ai ni ci,F ao no co] 106));have Q:ZD wr Y:=(by rw[hY];exact Zh _ _);have z:Hid (Y.heap[wr.heap.size]? = some (cR [E J kd,E J fr,E J tq,E J nm,E J bp,E J fi,E J bk,E J bn,F ba bm bc,E J th,F ai ni ci,F ao no co].toArray 106 (0,0))):=(by show _=_;rw[hY];exact aJ _ _);have X6:=Zd (ZE Q X5)
     have CK:=Zd (Zeo kd fr tq nm bp fi bk bn ba bm bc Lb th ai ao ni ci no co I O j y Y (iL.later Q) (iI.later Q) (iO.later Q) sI cq);have an:=Zd (Zf cc Q);have af:=Zd hq;have cl:=aD _ _ c0;have m0:=Zb X5 0 _ rfl;have m1:=Zb X5 1 _ rfl;have m2:=Zb X5 2 _ rfl;have ml:=lt_of_block X5;clear hq bd iL sL iI sI iO sO cq Q HQ hy
     go_upto_region 18 with fail
     rw[<-hY];clear hY c0 c1 c2 c3 c4 c5 c6 c7 c8 c9 cf cg cl m0 m1 m2 ml;have m0:=Zb X6 0 _ rfl;have m1:=Zb X6 1 _ rfl;have m2:=Zb X6 2 _ rfl;have ml:=lt_of_block X6;have n0:=Zb z 0 _ rfl;have n1:=Zb z 1 _ rfl;have n2:=Zb z 2 _ rfl;have n3:=Zb z 3 _ rfl;have n4:=Zb z 4 _ rfl;have n5:=Zb z 5 _ rfl;have n6:=Zb z 6 _ rfl;have n7:=Zb z 7 _ rfl;have n8:=Zb z 8 _ rfl;have n9:=Zb z 9 _ rfl;have et:=Zb z 10 _ rfl;have eu:=Zb z 11 _ rfl;have nl:=lt_of_block z;go_wp2_with fail;refine CK.mono ?_;rintro e w3 ⟨rfl,bb⟩;have am:=Zd (Zf an bb);clear bb CK m0 m1 m2 ml n0 n1 n2 n3 n4 n5 n6 n7 n8 n9 et eu nl X6 z an;by_cases ae:y=0
     ·subst ae;have cd:Hid (Qd j (M.drop (i+1))=x):=(by have q:=Za af;rw[if_neg (λr=>r rfl)] at q;exact q);clear af;go_wp2;go_roundw
      case rel=>exact⟨i+1,by omega,by go_num,cd,am⟩
      case measure=>simp[intOf];omega
     ·have gy:(y != 0)=true:=(by simp[ae]);obtain rfl:y=x:=(by have q:=Za af;rw[if_pos ae] at q;exact q);have ca:=Zd (Zf al am);go_wp2;go_ret;exact⟨rfl,Za ca⟩
    ·have eq:i=mn:=by omega
     obtain rfl:(0:Int)=x:=by
      have q:=Za HQ;rw[List.drop_of_length_le (by rw[Za dn];omega)] at q;exact q
     subst eq;go_wp2;go_ret;exact⟨rfl,Za dl⟩
structure WD where
 k:List ByteArray
 n:List Vo
 m:List Jb
structure WOn(Z:Nat->Prop)(w:World)(ka:Option Addr)(kn kc:Nat)(vn vm:Value)(W:WD)(Kn Km:List (List Value)):Prop where
 rn:w.ownsRow 0 67 4 vn W.n.length Kn.flatten
 rm:w.ownsRow 0 106 12 vm W.m.length Km.flatten
 dat:∀ V,Gr w V (λq=>Z q\/vn.ownBlock=some q\/vm.ownBlock=some q)->Bk.TextsAt V ka kn W.k/\Tr.AllC Tr.nodR V Kn W.n/\Tr.AllC Tr.msgR V Km W.m
 sk:SlOk ka kn kc
section
variable {Z : Nat -> Prop} {w w' : World} {ka : Option Addr} {kn kc : Nat} {vn vm : Value} {W : WD} {Kn Km : List (List Value)}
theorem WOn.now(h:WOn Z w ka kn kc vn vm W Kn Km):Bk.TextsAt w ka kn W.k/\Tr.AllC Tr.nodR w Kn W.n/\Tr.AllC Tr.msgR w Km W.m:=h.dat w (Gr.refl _ _)
theorem WOn.later(h:WOn Z w ka kn kc vn vm W Kn Km)(z:ZD w w'):WOn Z w' ka kn kc vn vm W Kn Km:=
 ⟨(Gr.of (S:=λ_=>False) z).own h.rn (λ_ _ q=>q),(Gr.of (S:=λ_=>False) z).own h.rm (λ_ _ q=>q),λV g=>h.dat V ((Gr.of z).trans g),h.sk⟩
theorem WOn.read(h:WOn Z w ka kn kc vn vm W Kn Km):∃ na nc ma mc,vn = F na W.n.length nc/\vm = F ma W.m.length mc/\NodsAt w na W.n.length W.n/\MsgsAt w ma W.m.length W.m/\SlOk na W.n.length nc/\SlOk ma W.m.length mc:=by
 obtain⟨_,h1,h2⟩:=h.now;obtain⟨na,nc,rfl,z,s1⟩:=Tr.rows_of_own Tr.nodR h.rn h1 rfl;obtain⟨ma,mc,rfl,Q,s2⟩:=Tr.rows_of_own Tr.msgR h.rm h2 rfl;exact⟨na,nc,ma,mc,rfl,rfl,z,Q,s1,s2⟩
end
theorem Xh{w:World}{B:Nat}{e t:TypeId}{sz n s:Nat}{v:Value}{xs X}(h:w.ownsRow B e sz v n xs)(Q:w.heap[s]? = some (cR X t (0,0)))(z:e≠t)(q:Nat)(hq:v.ownBlock=some q):q≠s:=by
 rintro rfl;obtain⟨c,f,h1⟩:=Lib.ownsRow_kind h q hq;rw[Q] at h1;injection h1 with h1;injection h1 with _ h1;exact z h1.symm
structure ScAt(Z:Nat->Prop)(s:Nat)(W:WD)(w:World)(ka:Option Addr)(kn kc:Nat)(vn vm:Value)(Kn Km:List (List Value)):Prop where
 box:w.heap[s]? = some (cR [F ka kn kc,vn,vm].toArray 287 (0,0))
 zs:∀ q,Z q->q<w.heap.size/\q≠s/\vn.ownBlock≠some q/\vm.ownBlock≠some q
 on:WOn (λq=>Z q\/q=s) w ka kn kc vn vm W Kn Km
def Sc(Z:Nat->Prop)(s:Nat)(W:WD)(w:World):Prop:=∃ ka kn kc vn vm Kn Km,ScAt Z s W w ka kn kc vn vm Kn Km
section
variable {Z : Nat -> Prop} {s : Nat} {W : WD} {w w' : World} {ka : Option Addr} {kn kc : Nat} {vn vm : Value} {Kn Km : List (List Value)}
theorem ScAt.later(h:ScAt Z s W w ka kn kc vn vm Kn Km)(z:ZD w w'):ScAt Z s W w' ka kn kc vn vm Kn Km:=
 ⟨ZE z h.box,λq e=>⟨aC (h.zs q e).1 z.size,(h.zs q e).2⟩,h.on.later z⟩
theorem Sc.later(h:Sc Z s W w)(z:ZD w w'):Sc Z s W w':=by
 obtain⟨ka,kn,kc,vn,vm,Kn,Km,h⟩:=h;exact⟨ka,kn,kc,vn,vm,Kn,Km,h.later z⟩
theorem Sc.lt(h:Sc Z s W w):s<w.heap.size:=by
 obtain⟨ka,kn,kc,vn,vm,Kn,Km,h⟩:=h;exact lt_of_block h.box
theorem Sc.nz(h:Sc Z s W w):¬Z s:=by
 obtain⟨ka,kn,kc,vn,vm,Kn,Km,h⟩:=h;exact λe=>(h.zs s e).2.1 rfl
theorem Sc.write(h:Sc Z s W w)(g:Gr w w' Z):Sc Z s W w':=by
 obtain⟨ka,kn,kc,vn,vm,Kn,Km,h⟩:=h;refine⟨ka,kn,kc,vn,vm,Kn,Km,g.heap h.box (λe=>(h.zs s e).2.1 rfl),λq e=>⟨aC (h.zs q e).1 g.size,(h.zs q e).2⟩,g.own h.on.rn (λq hq e=>(h.zs q e).2.2.1 hq),g.own h.on.rm (λq hq e=>(h.zs q e).2.2.2 hq),λV z=>h.on.dat V ((g.mono (λq _ e=>.inl (.inl e))).trans z),h.on.sk⟩
theorem Sc.widen(h:Sc Z s W w)(z:ZD w w')(r:Nat)(hr:w.heap.size<=r)(ab:r<w'.heap.size):Sc (λq=>Z q\/q=r) s W w':=by
 obtain⟨ka,kn,kc,vn,vm,Kn,Km,h⟩:=h;have h2:=h.later z;refine⟨ka,kn,kc,vn,vm,Kn,Km,h2.box,λq e=>?_,h2.on.rn,h2.on.rm,λV Q=>h.on.dat V ((Gr.of z).far Q (λq e=>?_)),h.on.sk⟩
 ·rcases e with e|e
  ·exact h2.zs q e
  ·subst e;exact⟨ab,λe=>by have:=lt_of_block h.box;omega,λe=>by have:=(h.on.rn.lt q e).2;omega,λe=>by have:=(h.on.rm.lt q e).2;omega⟩
 ·rcases e with ((e|e)|e)|e
  ·exact .inr (.inl (.inl e))
  ·exact .inl (e ▸ hr)
  ·exact .inr (.inl (.inr e))
  ·exact .inr (.inr e)
theorem Sc.less(h:Sc Z s W w){z:Nat->Prop}(Q:∀ q,z q->Z q):Sc z s W w:=by
 obtain⟨ka,kn,kc,vn,vm,Kn,Km,h⟩:=h;exact⟨ka,kn,kc,vn,vm,Kn,Km,h.box,λq e=>h.zs q (Q q e),h.on.rn,h.on.rm,λV gV=>h.on.dat V (gV.mono (λq _ e=>e.elim (λe=>.inl (e.elim (λe=>.inl (Q q e)) .inr)) .inr)),h.on.sk⟩
end
structure ClW(w:World)(B G:Nat)(W:WD)(vk vn vm:Value)(Kn Km:List (List Value))(i j:Nat)(wr:World):Prop where
 k:wr.ownsRow B 9 1 vk W.k.length (W.k.map Value.string)
 n:Tr.Cl Tr.nodR 67 B G w wr vn W.n.length Kn W.n i
 m:Tr.Cl Tr.msgR 106 B G w wr vm W.m.length Km W.m j
 b0:wr.heap[w.heap.size]? = some (cR [vk,vn,vm].toArray 90 (0,0))
 b1:wr.heap[w.heap.size+1]? = some (cR [F none 0 0,F none 0 0,F none 0 0].toArray 90 (0,0))
 bel:ZD w wr
 hB:w.heap.size+2<=B
 g:G<=wr.heap.size
 kg:∀ q,vk.ownBlock=some q->q<G
section
variable {w wr w5 : World} {B G : Nat} {W : WD} {vk vn vm : Value} {Kn Km : List (List Value)} {i j g cap w0s : Nat} {cs : List Value}
theorem ClW.node(h:ClW w B G W vk (F (some ⟨g,0,none⟩) W.n.length cap) vm Kn Km i j wr)(hi:i<W.n.length)(Q:ZD wr w5)(hf:Fresh w0s w5 (λw2=>Tr.nodR.C w2 cs W.n[i]))(hG:G<=w0s) :
  ClW w B G W vk (F (some ⟨g,0,none⟩) W.n.length cap) vm (Kn.set i cs) Km (i+1) j (Tr.setsW w5 g (i*4) cs):=by
 have z:Gr wr (Tr.setsW w5 g (i*4) cs) (λq=>q=g):=Tr.setsW_gr cs w5 _ (Gr.of Q) (.inl rfl);obtain⟨lo,_⟩:=h.n.own.lt g rfl;have:=h.hB;refine⟨z.own h.k (λq hq e=>?_),h.n.put hi Q hf hG,h.m.gr z (λq e=>?_) (λq hq e=>?_),z.heap h.b0 (by show ¬_=g;omega),z.heap h.b1 (by show ¬_=g;omega),z.below h.bel h.bel.size (λq e=>?_),h.hB,aT h.g z.size,h.kg⟩
 ·have e:q=g:=e;exact Tr.own_apart h.n.own h.k (by decide) q (by rw[e];rfl) hq
 ·have e:q=g:=e;exact e ▸ h.n.gt g rfl
 ·have e:q=g:=e;exact Tr.own_apart h.n.own h.m.own (by decide) q (by rw[e];rfl) hq
 ·have e:q=g:=e;omega
theorem ClW.msg(h:ClW w B G W vk vn (F (some ⟨g,0,none⟩) W.m.length cap) Kn Km i j wr)(hj:j<W.m.length)(Q:ZD wr w5)(hf:Fresh w0s w5 (λw2=>Tr.msgR.C w2 cs W.m[j]))(hG:G<=w0s) :
  ClW w B G W vk vn (F (some ⟨g,0,none⟩) W.m.length cap) Kn (Km.set j cs) i (j+1) (Tr.setsW w5 g (j*12) cs):=by
 have z:Gr wr (Tr.setsW w5 g (j*12) cs) (λq=>q=g):=Tr.setsW_gr cs w5 _ (Gr.of Q) (.inl rfl);obtain⟨lo,_⟩:=h.m.own.lt g rfl;have:=h.hB;refine⟨z.own h.k (λq hq e=>?_),h.n.gr z (λq e=>?_) (λq hq e=>?_),h.m.put hj Q hf hG,z.heap h.b0 (by show ¬_=g;omega),z.heap h.b1 (by show ¬_=g;omega),z.below h.bel h.bel.size (λq e=>?_),h.hB,aT h.g z.size,h.kg⟩
 ·have e:q=g:=e;exact Tr.own_apart h.m.own h.k (by decide) q (by rw[e];rfl) hq
 ·have e:q=g:=e;exact e ▸ h.m.gt g rfl
 ·have e:q=g:=e;exact Tr.own_apart h.m.own h.n.own (by decide) q (by rw[e];rfl) hq
 ·have e:q=g:=e;omega
theorem ClW.on(h:ClW w B G W vk vn vm Kn Km W.n.length W.m.length wr)(af:B<=G){V}(g:Gr wr V (λq=>q=w.heap.size+1)):∃ ka kc,vk = F ka W.k.length kc/\WOn (λq=>q<B) V ka W.k.length kc vn vm W Kn Km/\(∀ q,vn.ownBlock=some q->B<=q)/\∀ q,vm.ownBlock=some q->B<=q:=by
 obtain⟨ka,kc,rfl,s1,t1⟩:=Tr.strs_of_own h.k;have:=h.hB;refine⟨ka,kc,rfl,⟨Yo (g.own h.n.own (λq hq e=>?_)) (aM _),Yo (g.own h.m.own (λq hq e=>?_)) (aM _),λU gU=>?_,s1⟩,λq e=>(h.n.own.lt q e).1,λq e=>(h.m.own.lt q e).1⟩
 ·have e:q=w.heap.size+1:=e;have:=(h.n.own.lt q hq).1;omega
 ·have e:q=w.heap.size+1:=e;have:=(h.m.own.lt q hq).1;omega
 ·have g2:Gr wr U (λq=>q<B\/vn.ownBlock=some q\/vm.ownBlock=some q):=(g.mono (λq _ e=>.inl (by have e:q=w.heap.size+1:=e;omega))).trans gU
  have z:Gr wr U (λq=>q<G):=g2.mono (λq _ e=>by
   rcases e with e|e|e
   ·omega
   ·exact h.n.gt q e
   ·exact h.m.gt q e)
  obtain⟨a',c',Q,_,t2⟩:=Tr.strs_of_own (g2.own h.k (λq hq e=>by
   rcases e with e|e|e
   ·have:=(h.k.lt q hq).1;omega
   ·exact Tr.own_apart h.n.own h.k (by decide) q e hq
   ·exact Tr.own_apart h.m.own h.k (by decide) q e hq))
  cases Q;exact⟨t2,h.n.done U z,h.m.done U z⟩
end
def ClmR(w w':World)(kd fr tq nm:Int)(b:Zl)(t:TxD)(bm ni no:Nat)(e:Ending):Prop:=
 ∃ z c1 Q c2 a3 c3,e = cS (.agg #[E J kd,E J fr,E J tq,E J nm,E J b.1,E J b.2.1,E J b.2.2.1,E J b.2.2.2.1,F z bm c1,E J t.1,F Q ni c2,F a3 no c3]) /\
  Fresh w.heap.size w' (λw2=>Tr.blkR.C w2 [E J b.1,E J b.2.1,E J b.2.2.1,E J b.2.2.2.1,F z bm c1] b/\Tr.txR.C w2 [E J t.1,F Q ni c2,F a3 no c3] t)/\ZD w w'
theorem A8(kd fr tq nm bp bh bk bn:Int)(ba bm bc L)(th:Int)(ai ao ni ci no co I O w)(hL:TxsAt w ba bm L)(sL:SlOk ba bm bc)(hm:bm<=2513169434916)(hs:∀ t∈L,Tr.TxSmall t)(hI:InsAt w ai ni I)(hO:OutsAt w ao no O)(sI:SlOk ai ni ci)(sO:SlOk ao no co)(ht:Tr.TxSmall (th,I,O)) :
  Calls Tryz.prog 227 #[.agg #[E J kd,E J fr,E J tq,E J nm,E J bp,E J bh,E J bk,E J bn,F ba bm bc,E J th,F ai ni ci,F ao no co]] w λe w'=>ClmR w w' kd fr tq nm (bp,bh,bk,bn,L) (th,I,O) bm ni no e:=by
 obtain⟨X,hX⟩:=ZG (Yr w [cR #[E J kd,E J fr,E J tq,E J nm,E J bp,E J bh,E J bk,E J bn,F ba bm bc,E J th,F ai ni ci,F ao no co] 106,cR #[E J 0,E J 0,E J 0,E J 0,E J 0,E J 0,E J 0,E J 0,F none 0 0,E J 0,F none 0 0,F none 0 0] 106]);have ct:X=(w.alloc (cR #[E J kd,E J fr,E J tq,E J nm,E J bp,E J bh,E J bk,E J bn,F ba bm bc,E J th,F ai ni ci,F ao no co] 106)).alloc (cR #[E J 0,E J 0,E J 0,E J 0,E J 0,E J 0,E J 0,E J 0,F none 0 0,E J 0,F none 0 0,F none 0 0] 106):=hX;have bq:ZD w X:=by rw[hX];exact Zs _ _
 have cu:X.heap.size=w.heap.size+2:=by rw[hX];exact Zy _ _
 have x0:X.heap[w.heap.size]? = some (cR [E J kd,E J fr,E J tq,E J nm,E J bp,E J bh,E J bk,E J bn,F ba bm bc,E J th,F ai ni ci,F ao no co].toArray 106 (0,0)):=by rw[hX];exact Zk _ w 0 _ rfl
 have x1:X.heap[w.heap.size+1]? = some (cR [E J 0,E J 0,E J 0,E J 0,E J 0,E J 0,E J 0,E J 0,F none 0 0,E J 0,F none 0 0,F none 0 0].toArray 106 (0,0)):=by rw[hX];exact Zk _ w 1 _ rfl
 have lI:I.length=ni:=hI.1;have lO:O.length=no:=hO.1;have C1:=Zd (Tr.clBlock_is bp bh bk bn ba bm bc L X.drew (hL.later (Zf bq (Zi X))) sL hm hs);have C2:=Zd (λV (hv:ZD w V)=>Tr.clTx_is th ai ao ni ci no co I O V (hI.later hv) (hO.later hv) sI sO (by rw[<-lI];exact ht.1) (by rw[<-lO];exact ht.2.1) ht.2.2.1 ht.2.2.2);have ax:=Zd bq;have bi:=Zd cu;have ds:=Zd x0;have cc:=Zd x1;have tl:=lt_of_block x0;have KS:Hid (∀ U:World,X.heap.size<=U.heap.size->w.heap.size<U.heap.size):=λU hu=>aC tl hu;have KC:Hid (∀ U:World,ZD X U->U.heap[w.heap.size]? = some (cR [E J kd,E J fr,E J tq,E J nm,E J bp,E J bh,E J bk,E J bn,F ba bm bc,E J th,F ai ni ci,F ao no co].toArray 106 (0,0))):=λU hu=>ZE hu x0;clear hL sL hm hs hI hO sI sO ht lI lO bq cu x0 x1 hX tl;go_enter func227,ntmps227
 go_upto_region 1 with fail
 rw[<-ct];clear ct
 go_cut [] from 3 to 10 (λwx=>Hid (∃ a1 c1 a2 c2 a3 c3,wx.heap[w.heap.size]? = some (cR [E J kd,E J fr,E J tq,E J nm,E J bp,E J bh,E J bk,E J bn,F a1 bm c1,E J th,F a2 ni c2,F a3 no c3].toArray 106 (0,0))/\Fresh X.heap.size wx (λw2=>Tr.blkR.C w2 [E J bp,E J bh,E J bk,E J bn,F a1 bm c1] (bp,bh,bk,bn,L)/\Tr.txR.C w2 [E J th,F a2 ni c2,F a3 no c3] (th,I,O))/\Gr X wx (λq=>q=w.heap.size)))
 case first=>
  refine wp_region_held_drew (S:=λU=>w.heap.size<U.heap.size) (by kernel_rfl) (KS _ (Nat.le_refl _)) (λQ=>?_);refine tkL 0 rfl Q ?_;refine tkL 3 rfl Q ?_;have hb:=Zi X;refine bP (rs:=[1,4]) (by kernel_rfl) (by simp) ?_;refine rdC rfl (λKQ hK=>?_) (rdC rfl (λKQ hK=>?_) AllReadyH.nil)
  ·have hl:=KC X.drew hb;have l4:=Zb hl 4 _ rfl;have l5:=Zb hl 5 _ rfl;have l6:=Zb hl 6 _ rfl;have l7:=Zb hl 7 _ rfl;have l8:=Zb hl 8 _ rfl;have ll:=lt_of_block hl;go_simp;clear hl ll l4 l5 l6 l7 l8;clear Q;refine hK.out _ _ (KS _ hb.size) (λQ=>?_);clear hK KQ;(try simp only[aE,ZA,ZB,ZC]);refine bP (rs:=[2,4]) (by kernel_rfl) (by simp) ?_;refine rdC rfl (λKQ hK=>?_) (rdC rfl (λKQ hK=>?_) AllReadyH.nil)
   ·refine Zn (by kernel_rfl) 71 #[.agg #[E J bp,E J bh,E J bk,E J bn,F ba bm bc]] (by kernel_rfl) C1 ?_;rintro e w5 ⟨a1,c1,rfl,ay,bb⟩;refine⟨_,rfl,?_⟩;have hb:=Zf (Zi X) bb;clear Q;refine hK.out _ _ (KS _ hb.size) (λQ=>?_);clear hK KQ;(try simp only[aE,ZA,ZB,ZC]);refine rdY 4 rfl (λKQ hK=>?_);have hl:=KC w5 hb;have l9:=Zb hl 9 _ rfl;have be:=Zb hl 10 _ rfl;have bf:=Zb hl 11 _ rfl;have ll:=lt_of_block hl;go_simp;clear hl ll l9 be bf;clear Q;refine hK.out _ _ (KS _ hb.size) (λQ=>?_);clear hK KQ;refine tkL 6 rfl Q ?_;refine rdS 5 rfl (C2 w5 (Zf ax hb)) ?_;rintro e w6 ⟨a2,c2,a3,c3,rfl,az,av⟩;have ag:=Zf hb av;clear Q;refine⟨_,rfl,(KS _ ag.size),λQ=>?_⟩;(try simp only[aE,ZA,ZB,ZC]);have z:=KC _ ag;have y4:=Zb z 4 _ rfl;have g4:=Zg z 4;have y5:=Zb z 5 _ rfl;have g5:=Zg z 5;have y6:=Zb z 6 _ rfl;have g6:=Zg z 6;have y7:=Zb z 7 _ rfl;have g7:=Zg z 7;have y8:=Zb z 8 _ rfl;have g8:=Zg z 8;have y9:=Zb z 9 _ rfl;have g9:=Zg z 9;have dh:=Zb z 10 _ rfl;have cd:=Zg z 10;have di:=Zb z 11 _ rfl;have ce:=Zg z 11;have yl:=lt_of_block z;refine rdY 7 rfl (λKQ hK=>?_);go_simp;clear Q;refine hK.out _ _ (KS _ (by simpa[cD] using ag.size)) (λQ=>?_);clear hK KQ;(try simp only[aE]);refine tkL 8 rfl Q ?_;refine rdY 9 rfl (λKQ hK=>?_);go_simp;clear Q;refine hK.out _ _ (KS _ (by simpa[cD] using ag.size)) (λQ=>?_);clear hK KQ;(try simp only[aE]);refine wpAnyH_done (by kernel_rfl) ?_ _;clear Q;go_wp2_with fail
    go_meet
    case rel=>
     have gg:Gr w6 ((((((((w6.setCell ⟨w.heap.size,4,none⟩ (E J bp)).setCell ⟨w.heap.size,5,none⟩ (E J bh)).setCell ⟨w.heap.size,6,none⟩ (E J bk)).setCell ⟨w.heap.size,7,none⟩ (E J bn)).setCell ⟨w.heap.size,8,none⟩ (F a1 bm c1)).setCell ⟨w.heap.size,9,none⟩ (E J th)).setCell ⟨w.heap.size,10,none⟩ (F a2 ni c2)).setCell ⟨w.heap.size,11,none⟩ (F a3 no c3)) (λq=>q=w.heap.size):=((((((((Gr.refl w6 (λq=>q=w.heap.size)).one w.heap.size 4 (.inl rfl) _).one w.heap.size 5 (.inl rfl) _).one w.heap.size 6 (.inl rfl) _).one w.heap.size 7 (.inl rfl) _).one w.heap.size 8 (.inl rfl) _).one w.heap.size 9 (.inl rfl) _).one w.heap.size 10 (.inl rfl) _).one w.heap.size 11 (.inl rfl) _;have bu:=Za bi;have cp:=hb.size;have cz:X.drew.heap.size=X.heap.size:=rfl;refine⟨a1,c1,a2,c2,a3,c3,(Tr.set_cells (Tr.set_cells (Tr.set_cells (Tr.set_cells (Tr.set_cells (Tr.set_cells (Tr.set_cells (Tr.set_cells z 4 _) 5 _) 6 _) 7 _) 8 _) 9 _) 10 _) 11 _),λW2 g2=>⟨ay W2 ?_,az W2 ?_⟩,(Gr.of ag).trans gg⟩
     ·exact (Gr.of av).trans ((gg.mono (λq _ e=>by have e:q=w.heap.size:=e;omega)).trans (g2.mono (λq _ e=>by omega)))
     ·exact (gg.mono (λq _ e=>by have e:q=w.heap.size:=e;omega)).trans (g2.mono (λq _ e=>by omega))
   ·have hl:=KC X.drew hb;have l9:=Zb hl 9 _ rfl;have be:=Zb hl 10 _ rfl;have bf:=Zb hl 11 _ rfl;have ll:=lt_of_block hl;go_simp;clear hl ll l9 be bf;clear Q;refine hK.out _ _ (KS _ hb.size) (λQ=>?_);clear hK KQ;(try simp only[aE,ZA,ZB,ZC]);refine rdS 2 rfl C1 ?_;rintro e w5 ⟨a1,c1,rfl,ay,bb⟩;have hb:=Zf (Zi X) bb;clear Q;refine⟨_,rfl,(KS _ hb.size),λQ=>?_⟩;refine tkL 6 rfl Q ?_;refine rdS 5 rfl (C2 w5 (Zf ax hb)) ?_;rintro e w6 ⟨a2,c2,a3,c3,rfl,az,av⟩;have ag:=Zf hb av;clear Q;refine⟨_,rfl,(KS _ ag.size),λQ=>?_⟩;(try simp only[aE,ZA,ZB,ZC]);have z:=KC _ ag;have y4:=Zb z 4 _ rfl;have g4:=Zg z 4;have y5:=Zb z 5 _ rfl;have g5:=Zg z 5;have y6:=Zb z 6 _ rfl;have g6:=Zg z 6;have y7:=Zb z 7 _ rfl;have g7:=Zg z 7;have y8:=Zb z 8 _ rfl;have g8:=Zg z 8;have y9:=Zb z 9 _ rfl;have g9:=Zg z 9;have dh:=Zb z 10 _ rfl;have cd:=Zg z 10;have di:=Zb z 11 _ rfl;have ce:=Zg z 11;have yl:=lt_of_block z;refine rdY 7 rfl (λKQ hK=>?_);go_simp;clear Q;refine hK.out _ _ (KS _ (by simpa[cD] using ag.size)) (λQ=>?_);clear hK KQ;(try simp only[aE]);refine tkL 8 rfl Q ?_;refine rdY 9 rfl (λKQ hK=>?_);go_simp;clear Q;refine hK.out _ _ (KS _ (by simpa[cD] using ag.size)) (λQ=>?_);clear hK KQ;(try simp only[aE]);refine wpAnyH_done (by kernel_rfl) ?_ _;clear Q;go_wp2_with fail;go_meet
    case rel=>
     have gg:Gr w6 ((((((((w6.setCell ⟨w.heap.size,4,none⟩ (E J bp)).setCell ⟨w.heap.size,5,none⟩ (E J bh)).setCell ⟨w.heap.size,6,none⟩ (E J bk)).setCell ⟨w.heap.size,7,none⟩ (E J bn)).setCell ⟨w.heap.size,8,none⟩ (F a1 bm c1)).setCell ⟨w.heap.size,9,none⟩ (E J th)).setCell ⟨w.heap.size,10,none⟩ (F a2 ni c2)).setCell ⟨w.heap.size,11,none⟩ (F a3 no c3)) (λq=>q=w.heap.size):=((((((((Gr.refl w6 (λq=>q=w.heap.size)).one w.heap.size 4 (.inl rfl) _).one w.heap.size 5 (.inl rfl) _).one w.heap.size 6 (.inl rfl) _).one w.heap.size 7 (.inl rfl) _).one w.heap.size 8 (.inl rfl) _).one w.heap.size 9 (.inl rfl) _).one w.heap.size 10 (.inl rfl) _).one w.heap.size 11 (.inl rfl) _;have bu:=Za bi;have cp:=hb.size;have cz:X.drew.heap.size=X.heap.size:=rfl;refine⟨a1,c1,a2,c2,a3,c3,(Tr.set_cells (Tr.set_cells (Tr.set_cells (Tr.set_cells (Tr.set_cells (Tr.set_cells (Tr.set_cells (Tr.set_cells z 4 _) 5 _) 6 _) 7 _) 8 _) 9 _) 10 _) 11 _),λW2 g2=>⟨ay W2 ?_,az W2 ?_⟩,(Gr.of ag).trans gg⟩
     ·exact (Gr.of av).trans ((gg.mono (λq _ e=>by have e:q=w.heap.size:=e;omega)).trans (g2.mono (λq _ e=>by omega)))
     ·exact (gg.mono (λq _ e=>by have e:q=w.heap.size:=e;omega)).trans (g2.mono (λq _ e=>by omega))
  ·have hl:=KC X.drew hb;have l9:=Zb hl 9 _ rfl;have be:=Zb hl 10 _ rfl;have bf:=Zb hl 11 _ rfl;have ll:=lt_of_block hl;go_simp;clear hl ll l9 be bf;clear Q;refine hK.out _ _ (KS _ hb.size) (λQ=>?_);clear hK KQ;(try simp only[aE,ZA,ZB,ZC]);refine rdY 1 rfl (λKQ hK=>?_);have hl:=KC X.drew hb;have l4:=Zb hl 4 _ rfl;have l5:=Zb hl 5 _ rfl;have l6:=Zb hl 6 _ rfl;have l7:=Zb hl 7 _ rfl;have l8:=Zb hl 8 _ rfl;have ll:=lt_of_block hl;go_simp;clear hl ll l4 l5 l6 l7 l8;clear Q;refine hK.out _ _ (KS _ hb.size) (λQ=>?_);clear hK KQ;(try simp only[aE,ZA,ZB,ZC]);refine rdS 2 rfl C1 ?_;rintro e w5 ⟨a1,c1,rfl,ay,bb⟩;have hb:=Zf (Zi X) bb;clear Q;refine⟨_,rfl,(KS _ hb.size),λQ=>?_⟩;refine tkL 6 rfl Q ?_;refine rdS 5 rfl (C2 w5 (Zf ax hb)) ?_;rintro e w6 ⟨a2,c2,a3,c3,rfl,az,av⟩;have ag:=Zf hb av;clear Q;refine⟨_,rfl,(KS _ ag.size),λQ=>?_⟩;(try simp only[aE,ZA,ZB,ZC]);have z:=KC _ ag;have y4:=Zb z 4 _ rfl;have g4:=Zg z 4;have y5:=Zb z 5 _ rfl;have g5:=Zg z 5;have y6:=Zb z 6 _ rfl;have g6:=Zg z 6;have y7:=Zb z 7 _ rfl;have g7:=Zg z 7;have y8:=Zb z 8 _ rfl;have g8:=Zg z 8;have y9:=Zb z 9 _ rfl;have g9:=Zg z 9;have dh:=Zb z 10 _ rfl;have cd:=Zg z 10;have di:=Zb z 11 _ rfl;have ce:=Zg z 11;have yl:=lt_of_block z;refine rdY 7 rfl (λKQ hK=>?_);go_simp;clear Q;refine hK.out _ _ (KS _ (by simpa[cD] using ag.size)) (λQ=>?_);clear hK KQ;(try simp only[aE]);refine tkL 8 rfl Q ?_;refine rdY 9 rfl (λKQ hK=>?_);go_simp;clear Q
   refine hK.out _ _ (KS _ (by simpa[cD] using ag.size)) (λQ=>?_);clear hK KQ;(try simp only[aE]);refine wpAnyH_done (by kernel_rfl) ?_ _;clear Q;go_wp2_with fail;go_meet
   case rel=>
    have gg:Gr w6 ((((((((w6.setCell ⟨w.heap.size,4,none⟩ (E J bp)).setCell ⟨w.heap.size,5,none⟩ (E J bh)).setCell ⟨w.heap.size,6,none⟩ (E J bk)).setCell ⟨w.heap.size,7,none⟩ (E J bn)).setCell ⟨w.heap.size,8,none⟩ (F a1 bm c1)).setCell ⟨w.heap.size,9,none⟩ (E J th)).setCell ⟨w.heap.size,10,none⟩ (F a2 ni c2)).setCell ⟨w.heap.size,11,none⟩ (F a3 no c3)) (λq=>q=w.heap.size):=((((((((Gr.refl w6 (λq=>q=w.heap.size)).one w.heap.size 4 (.inl rfl) _).one w.heap.size 5 (.inl rfl) _).one w.heap.size 6 (.inl rfl) _).one w.heap.size 7 (.inl rfl) _).one w.heap.size 8 (.inl rfl) _).one w.heap.size 9 (.inl rfl) _).one w.heap.size 10 (.inl rfl) _).one w.heap.size 11 (.inl rfl) _;have bu:=Za bi;have cp:=hb.size;have cz:X.drew.heap.size=X.heap.size:=rfl;refine⟨a1,c1,a2,c2,a3,c3,(Tr.set_cells (Tr.set_cells (Tr.set_cells (Tr.set_cells (Tr.set_cells (Tr.set_cells (Tr.set_cells (Tr.set_cells z 4 _) 5 _) 6 _) 7 _) 8 _) 9 _) 10 _) 11 _),λW2 g2=>⟨ay W2 ?_,az W2 ?_⟩,(Gr.of ag).trans gg⟩
    ·exact (Gr.of av).trans ((gg.mono (λq _ e=>by have e:q=w.heap.size:=e;omega)).trans (g2.mono (λq _ e=>by omega)))
    ·exact (gg.mono (λq _ e=>by have e:q=w.heap.size:=e;omega)).trans (g2.mono (λq _ e=>by omega))
 case rest=>
  obtain⟨a1,c1,a2,c2,a3,c3,hb,hF,hg⟩:=Za hcut;have e0:=Zb hb 0 _ rfl;have e1:=Zb hb 1 _ rfl;have e2:=Zb hb 2 _ rfl;have e3:=Zb hb 3 _ rfl;have e4:=Zb hb 4 _ rfl;have e5:=Zb hb 5 _ rfl;have e6:=Zb hb 6 _ rfl;have e7:=Zb hb 7 _ rfl;have e8:=Zb hb 8 _ rfl;have e9:=Zb hb 9 _ rfl;have dv:=Zb hb 10 _ rfl;have dw:=Zb hb 11 _ rfl;have el:=lt_of_block hb;have z:=(hg.block _ (lt_of_block cc) (λe=>by have e:w.heap.size+1=w.heap.size:=e;omega)).trans cc;have z0:=Zb z 0 _ rfl;have f0:=Zg z 0;have z1:=Zb z 1 _ rfl;have f1:=Zg z 1;have z2:=Zb z 2 _ rfl;have f2:=Zg z 2;have z3:=Zb z 3 _ rfl;have f3:=Zg z 3;have z4:=Zb z 4 _ rfl;have f4:=Zg z 4;have z5:=Zb z 5 _ rfl;have f5:=Zg z 5;have z6:=Zb z 6 _ rfl;have f6:=Zg z 6;have z7:=Zb z 7 _ rfl;have f7:=Zg z 7;have z8:=Zb z 8 _ rfl;have f8:=Zg z 8;have z9:=Zb z 9 _ rfl;have f9:=Zg z 9;have ev:=Zb z 10 _ rfl;have ei:=Zg z 10;have ew:=Zb z 11 _ rfl;have ej:=Zg z 11;have zl:=lt_of_block z;have br:ZD w wc:=hg.below ax ax.size (λq e=>by have e:q=w.heap.size:=e;omega)
  have dr:Hid (∀ W,Gr wc W (λq=>q=w.heap.size+1)->ClmR w W kd fr tq nm (bp,bh,bk,bn,L) (th,I,O) bm ni no (cS (.agg #[E J kd,E J fr,E J tq,E J nm,E J bp,E J bh,E J bk,E J bn,F a1 bm c1,E J th,F a2 ni c2,F a3 no c3]))):=λW g=>by
   have bu:=Za bi;refine⟨a1,c1,a2,c2,a3,c3,rfl,λW2 g2=>hF W2 ((g.mono (λq _ e=>by have e:q=w.heap.size+1:=e;omega)).trans (g2.mono (λq _ e=>by omega))),g.below br br.size (λq e=>by have e:q=w.heap.size+1:=e;omega)⟩
  clear hcut hb hF hg z br KS KC C1 C2;go_wp2;(try simp only[Exit.inBlock,Exit.then]);refine bodyPost_ret (v:=.agg #[E J kd,E J fr,E J tq,E J nm,E J bp,E J bh,E J bk,E J bn,F a1 bm c1,E J th,F a2 ni c2,F a3 no c3]) ?_ rfl ?_
  ·rw[Qm rfl];go_simp
  ·exact dr _ (((((((((((((Gr.refl wc (λq=>q=w.heap.size+1)).one (w.heap.size+1) 0 (.inl rfl) _).one (w.heap.size+1) 1 (.inl rfl) _).one (w.heap.size+1) 2 (.inl rfl) _).one (w.heap.size+1) 3 (.inl rfl) _).one (w.heap.size+1) 4 (.inl rfl) _).one (w.heap.size+1) 5 (.inl rfl) _).one (w.heap.size+1) 6 (.inl rfl) _).one (w.heap.size+1) 7 (.inl rfl) _).one (w.heap.size+1) 8 (.inl rfl) _).one (w.heap.size+1) 9 (.inl rfl) _).one (w.heap.size+1) 10 (.inl rfl) _).one (w.heap.size+1) 11 (.inl rfl) _)
def Zls(x:Vo):Prop:=x.1.length=x.2.1.length/\x.1.length<=4096/\(∀ t∈x.2.1,Tr.BlkSmall t)/\Vr x
def Uv(x:Jb):Prop:=Tr.BlkSmall x.2.2.2.2.1/\Tr.TxSmall x.2.2.2.2.2
theorem Zas{w}{k f t n:Int}{b:Zl}{x:TxD}{z Q a3 n1 c1 n2 c2 n3 c3}(h1:Tr.blkR.C w [E J b.1,E J b.2.1,E J b.2.2.1,E J b.2.2.2.1,F z n1 c1] b)(h2:Tr.txR.C w [E J x.1,F Q n2 c2,F a3 n3 c3] x) :
  Tr.msgR.C w [E J k,E J f,E J t,E J n,E J b.1,E J b.2.1,E J b.2.2.1,E J b.2.2.2.1,F z n1 c1,E J x.1,F Q n2 c2,F a3 n3 c3] (k,f,t,n,b,x):=by
 obtain⟨_,_,_,e,k1,k2⟩:=h1;obtain⟨_,_,_,_,_,_,e2,k3,k4,k5,k6⟩:=h2;cases e;cases e2;exact⟨_,_,_,_,_,_,_,_,_,rfl,k1,k2,k3,k4,k5,k6⟩
def Xe(w:World)(s q:Nat):Prop:=∃ v,w.cell? ⟨s,2,none⟩=some v/\v.ownBlock=some q
def WD.sent(W:WD)(m:Jb):WD:=if W.m.length<20 then ⟨W.k,W.n,W.m++[m]⟩ else W
def Pw(Z:Nat->Prop)(s:Nat)(W:WD)(w w':World):Prop:=Sc Z s W w'/\Gr w w' (λq=>q=s\/Xe w s q)/\∀ q,Xe w' s q->Xe w s q\/w.heap.size<=q
theorem ScAt.nb{Z:Nat->Prop}{s}{W:WD}{w ka kn kc}{vn vm:Value}{Kn Km}(h:ScAt Z s W w ka kn kc vn vm Kn Km)(q:Nat):vm.ownBlock=some q↔Xe w s q:=
 ⟨λe=>⟨vm,Zb h.box 2 _ rfl,e⟩,λ⟨v,h1,h2⟩=>by
  rw[Zb h.box 2 _ rfl] at h1;injection h1 with h1;exact h1 ▸ h2⟩
theorem Sc.net_lt{Z:Nat->Prop}{s q:Nat}{W:WD}{w:World}(h:Sc Z s W w)(hq:Xe w s q):¬Z q/\q<w.heap.size/\q≠s:=by
 obtain⟨ka,kn,kc,vn,vm,Kn,Km,h⟩:=h;have hq:=(h.nb q).2 hq;exact⟨λe=>(h.zs q e).2.2.2 hq,(h.on.rm.lt q hq).2,Xh h.on.rm h.box (by decide) q hq⟩
theorem Zjq{Z:Nat->Prop}{s}{W:WD}{w w4 w5 w6:World}{ka}{kn kc g cap:Nat}{vn vm:Value}{Kn Km:List (List Value)}{cs}{m:Jb}(h:ScAt Z s W w ka kn kc vn vm Kn Km)
  (h4:ZD w w4) (hF:Fresh w.heap.size w4 (λw2=>Tr.msgR.C w2 cs m)) (h5:ZD w4 w5) (h6:w5.grownBy w6 vm.ownBlock) (ab:vm.ownBlock=some g\/w4.heap.size<=g)
  (ho:w6.ownsRow 0 106 12 (F (some ⟨g,0,none⟩) (W.m.length+1) cap) (W.m.length+1) (Km.flatten++cs)) (hl:W.m.length<20) :
  Pw Z s (W.sent m) w (w6.setCell ⟨s,2,none⟩ (F (some ⟨g,0,none⟩) (W.m.length+1) cap)):=by
 have hb:=h.box;have ay:=lt_of_block hb;have Q:Gr w w6 (λq=>vm.ownBlock=some q):=(Gr.of (Zf h4 h5)).grown h6 (λq e=>.inl e);have ap:Gr w4 w6 (λq=>vm.ownBlock=some q):=(Gr.of h5).grown h6 (λq e=>.inl e);have b6:=Q.heap hb (λe=>Xh h.on.rm hb (by decide) s e rfl);have z:Gr w6 (w6.setCell ⟨s,2,none⟩ (F (some ⟨g,0,none⟩) (W.m.length+1) cap)) (λq=>q=s):=(Gr.refl w6 (λq=>q=s)).one s 2 (.inl rfl) _;have bx:=Tr.set_cells b6 2 (F (some ⟨g,0,none⟩) (W.m.length+1) cap);have e1:W.sent m=⟨W.k,W.n,W.m++[m]⟩:=if_pos hl;have e2:(W.m++[m]).length=W.m.length+1:=by simp
 have e3:(Km++[cs]).flatten=Km.flatten++cs:=by simp
 rw[e1];refine⟨⟨ka,kn,kc,vn,_,Kn,Km++[cs],bx,λq e=>?_,?_,?_,λV gV=>?_,h.on.sk⟩,?_,?_⟩
 ·obtain⟨z1,z2,z3,z4⟩:=h.zs q e;refine⟨aC z1 (aT Q.size z.size),z2,z3,λe=>?_⟩;injection e with e;have e:g=q:=e;subst e
  rcases ab with e|e
  ·exact z4 e
  ·have:=h4.size;omega
 ·exact z.own (Q.own h.on.rn (λq hq e=>Tr.own_apart h.on.rm h.on.rn (by decide) q e hq)) (λq hq e=>Xh h.on.rn hb (by decide) q hq e)
 ·show World.ownsRow _ _ _ _ _ (W.m++[m]).length _;rw[e2,e3];exact z.own ho (λq hq e=>Xh ho b6 (by decide) q hq e)
 ·have gw:Gr w V (λq=>(Z q\/q=s)\/vn.ownBlock=some q\/vm.ownBlock=some q):=((Q.mono (λq _ e=>.inr (.inr e))).trans (z.mono (λq _ e=>.inl (.inr e)))).far gV (λq e=>by
   rcases e with e|e|e
   ·exact .inr (.inl e)
   ·exact .inr (.inr (.inl e))
   ·injection e with e;have e:g=q:=e;subst e
    rcases ab with e|e
    ·exact .inr (.inr (.inr e))
    ·exact .inl (aT h4.size e))
  have g4:Gr w4 V (λq=>q<w.heap.size):=((ap.mono (λq _ e=>(h.on.rm.lt q e).2)).trans (z.mono (λq _ e=>by have e:q=s:=e;omega))).far gV (λq e=>by
   rcases e with (e|e)|e|e
   ·exact .inr (h.zs q e).1
   ·exact .inr (by omega)
   ·exact .inr (h.on.rn.lt q e).2
   ·injection e with e;have e:g=q:=e;subst e
    rcases ab with e|e
    ·exact .inr (h.on.rm.lt g e).2
    ·exact .inl e)
  obtain⟨d1,d2,d3⟩:=h.on.dat V gw;exact⟨d1,d2,d3.snoc (hF V g4)⟩
 ·exact (Q.mono (λq _ e=>.inr ((h.nb q).1 e))).trans (z.mono (λq _ e=>.inl e))
 ·rintro q ⟨v,h1,h2⟩;rw[Zb bx 2 _ rfl] at h1;injection h1 with h1;subst h1;injection h2 with h2;have h2:g=q:=h2;subst h2
  rcases ab with e|e
  ·exact .inl ((h.nb g).1 e)
  ·exact .inr (aT h4.size e)
theorem J3(Z:Nat->Prop)(s:Nat)(W:WD)(kd fr tq nm bp z Q bn:Int)(ba bm bc L)(th:Int)(ai ao ni ci no co I O w)(hS:Sc Z s W w)(hL:TxsAt w ba bm L)(sL:SlOk ba bm bc)(hI:InsAt w ai ni I)(hO:OutsAt w ao no O)(sI:SlOk ai ni ci)(sO:SlOk ao no co)(hz:Uv (kd,fr,tq,nm,(bp,z,Q,bn,L),th,I,O)) :
  Calls Tryz.prog 275 #[cU (some ⟨s,0,none⟩),.agg #[E J kd,E J fr,E J tq,E J nm,E J bp,E J z,E J Q,E J bn,F ba bm bc,E J th,F ai ni ci,F ao no co]] w λe w'=>e = cS (cT #[])/\Pw Z s (W.sent (kd,fr,tq,nm,(bp,z,Q,bn,L),th,I,O)) w w':=by
 obtain⟨j0,ji,cm,cn,cp⟩:=info_parts Tr.Tryz.infoMsgC;obtain⟨ka,kn,kc,vn,vm,Kn,Km,hA⟩:=hS;obtain⟨na,nc,ma,mc,rfl,rfl,_,_,_,sm⟩:=hA.on.read;have hb:=hA.box;obtain⟨X,hX⟩:=ZG (w.alloc (cR #[E J kd,E J fr,E J tq,E J nm,E J bp,E J z,E J Q,E J bn,F ba bm bc,E J th,F ai ni ci,F ao no co] 106));have ae:ZD w X:=by rw[hX];exact Zh _ _
 have aa:X.heap[w.heap.size]? = some (cR [E J kd,E J fr,E J tq,E J nm,E J bp,E J z,E J Q,E J bn,F ba bm bc,E J th,F ai ni ci,F ao no co].toArray 106 (0,0)):=by rw[hX];exact aJ _ _
 have ar:=ZE ae hb;have C1:=Zd (λV (hv:ZD w V)=>A8 kd fr tq nm bp z Q bn ba bm bc L th ai ao ni ci no co I O V (hL.later hv) sL (by rw[<-hL.1];exact hz.1.1) hz.1.2 (hI.later hv) (hO.later hv) sI sO hz.2);have bj:=Zd (λw4 w5 w6 g cap cs=>Zjq (w4:=w4) (w5:=w5) (w6:=w6) (g:=g) (cap:=cap) (cs:=cs) (m:=(kd,fr,tq,nm,(bp,z,Q,bn,L),th,I,O)) hA)
 have bd:Hid (¬W.m.length<20->Pw Z s (W.sent (kd,fr,tq,nm,(bp,z,Q,bn,L),th,I,O)) w X):=λh=>by
  have e:W.sent (kd,fr,tq,nm,(bp,z,Q,bn,L),th,I,O)=W:=if_neg h;rw[e];exact⟨⟨ka,kn,kc,_,_,Kn,Km,hA.later ae⟩,Gr.of ae,λq hq=>.inl ((hA.nb q).1 (((hA.later ae).nb q).2 hq))⟩
 have ag:=Zd ae;have HB:=Zd ar;have HW:=Zd (hA.later ae).on;have cd:=Zd aa;have x2:=Zb ar 2 _ rfl;have xl:=lt_of_block ar;have m0:=Zb aa 0 _ rfl;have m1:=Zb aa 1 _ rfl;have m2:=Zb aa 2 _ rfl;have m3:=Zb aa 3 _ rfl;have m4:=Zb aa 4 _ rfl;have m5:=Zb aa 5 _ rfl;have m6:=Zb aa 6 _ rfl;have m7:=Zb aa 7 _ rfl;have m8:=Zb aa 8 _ rfl;have m9:=Zb aa 9 _ rfl;have m10:=Zb aa 10 _ rfl;have m11:=Zb aa 11 _ rfl;have ml:=lt_of_block aa;clear hL sL hI hO sI sO hz ae aa hb hA ar;by_cases hl:W.m.length<20;rotate_left
 ·have cg:¬(W.m.length:Int)<20:=by omega
  go_enter func275,ntmps275
  go_upto_region 1 with fail
  rw[<-hX];clear hX;(try go_wp2);go_end0;exact⟨rfl,bd hl⟩
 have cg:(W.m.length:Int)<20:=by omega
 have cq:W.m.length<=19:=by omega
 clear bd;go_enter func275,ntmps275
 go_upto_region 1 with fail
 rw[<-hX];clear hX;(try go_wp2_with fail);have CC:=Zd (C1 X.drew (Zf ag (Zi X)))
 go_region_law (first
  | (refine Yg (by rfl) 227 #[.agg #[E J kd,E J fr,E J tq,E J nm,E J bp,E J z,E J Q,E J bn,F ba bm bc,E J th,F ai ni ci,F ao no co]] (by kernel_rfl) CC ?_;rintro e w4 ⟨a1,c1,a2,c2,a3,c3,rfl,ay,aq⟩;refine⟨_,rfl,?_⟩;have b4:=ZE aq HB;have n2:=Zb b4 2 _ rfl;have nl:=lt_of_block b4;have be:Hid (Fresh w.heap.size w4 (λw2=>Tr.msgR.C w2 [E J kd,E J fr,E J tq,E J nm,E J bp,E J z,E J Q,E J bn,F a1 bm c1,E J th,F a2 ni c2,F a3 no c3] (kd,fr,tq,nm,(bp,z,Q,bn,L),th,I,O))):=λw2 g2=>Zas (ay w2 (g2.mono (λq _ e=>aC e ag.size))).1 (ay w2 (g2.mono (λq _ e=>aC e ag.size))).2;have cc:=Zd aq;have av:=Zd b4;have aw:=Zd ((Gr.of (S:=λ_=>False) aq).own HW.rm.drew (λ_ _ q=>q));clear ay aq b4)
  | (refine step_append_lies _ (by rfl) _ _ _ (by rfl) 0 106 j0 _ 12 144 underlying88 ji cm cn cp rfl (by decide) (F ma W.m.length mc) W.m.length Km.flatten (by rfl) (aw.alloc _) ⟨w4.heap.size,0,none⟩ 1 1 [E J kd,E J fr,E J tq,E J nm,E J bp,E J z,E J Q,E J bn,F a1 bm c1,E J th,F a2 ni c2,F a3 no c3] (by rfl) (by rfl) (World.news_of_block (cs:=#[E J kd,E J fr,E J tq,E J nm,E J bp,E J z,E J Q,E J bn,F a1 bm c1,E J th,F a2 ni c2,F a3 no c3]) (t:=106) (fr:=(0,0)) (aJ w4 _)) (by simp[Value.oneCell']) (by decide) (by unfold maxLen;omega) (by omega) (aM _) (w4.heap.size+1) (by simp) ?_;intro g2 ce w6 bt az bs ct;have b6:=(az.block s (by simp;omega) (λe=>Xh aw av (by decide) s e.symm rfl)).trans ((Below.heap_alloc _ _ _ nl).trans av);have o2:=Zb b6 2 _ rfl;have cy:=Zg b6 2;have ol:=lt_of_block b6;have bi:=Zd bt;have bf:=Zd az;have bg:=Zd bs;clear bt az bs b6))
 all_goals
  have ca:=Zd (bj w4 _ w6 g2 ce [E J kd,E J fr,E J tq,E J nm,E J bp,E J z,E J Q,E J bn,F a1 bm c1,E J th,F a2 ni c2,F a3 no c3] (Zf ag (Zf (Zi X) cc)) be (Zh w4 _) bf (by
   rcases Za bg with e|e
   ·exact .inl e
   ·exact .inr (by omega)) bi hl)
  clear bj bi bf bg be aw av HW cd;go_wp2;go_end0;exact⟨rfl,Za ca⟩
