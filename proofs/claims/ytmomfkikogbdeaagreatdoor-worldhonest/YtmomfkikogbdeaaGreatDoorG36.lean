import Derived.Test.YtmomfkikogbdeaaGreatDoorH
import Derived.Test.YtmomfkikogbdeaaGreatDoorG35
open Go.Proofs.Tryz
open Go renaming heap_alloc_new->aH,lt_of_block->aA,wpAnyH_ready->cI
open Go.Act renaming put->aM
open Go.Ending renaming returned->dA
open Go.IntKind renaming i64->J
open Go.Obj renaming cells->cZ
open Go.Value renaming int->E,slice->F,tuple->dB,pointer->dC
open Go.World renaming block_lt_of_cell?->aE,setCell->cG
open Nat renaming zero_le->aL,lt_of_lt_of_le->aD,le_trans->aT
set_option maxHeartbeats 12800000
set_option maxRecDepth 10000
namespace Go.Proofs.YtmomfkikogbdeaaGreatDoor
open Go.RowKit
def Js(x:U9):Prop:=x.2.2.1.length<=2513169434916/\∀ t∈x.2.2.1,Tr.TxSmall t
theorem Nc(ka kn kc K na nn nc L ma mn mc M)(x:Int)(w:World)(hE:Env w)(hK:Bk.TextsAt w ka kn K)(hN:NodsAt w na nn L)(hM:MsgsAt w ma mn M)(eb:∀ y∈L,Js y)(hx:Xp K L M=x) :
  ZH 45 #[.agg #[F ka kn kc,F na nn nc,F ma mn mc]] w (E J x):=by
 obtain⟨X,hX,dy,cf⟩:=ka00 w [F ka kn kc,F na nn nc,F ma mn mc] 90;have lN:L.length=nn:=hN.1;have lM:M.length=mn:=hM.1;obtain⟨o,ho⟩:=ZF ((decide (1<=(nn:Int)) && decide ((nn:Int)<=4)));obtain⟨k,hk⟩:=ZF (Bk.bkChk K)
 have hx:(if o=false then 3 else if k≠0 then k else if 20<mn then 2 else if Ve K L≠0 then Ve K L else Qr nn M)=x:=by
  rw[<-hx,<-ho,<-hk];unfold Xp;rw[lN,lM];by_cases q:1<=nn/\nn<=4
  ·have e:(decide (1<=(nn:Int)) && decide ((nn:Int)<=4))=true:=(by simp;omega);rw[e,if_neg (by decide),if_neg (show ¬¬(1<=nn/\nn<=4) from λr=>r q)]
  ·have e:(decide (1<=(nn:Int)) && decide ((nn:Int)<=4))=false:=(by simp;omega);rw[e,if_pos rfl,if_pos q]
 have C1:=Zd (Ty nn o X ho);have C2:=Zd (λV (hv:ZD w V)=>Bk.check_is ka kn kc K V (hK.later hv) k hk);have CN:=Zd (λV (hv:ZD w V) j (hj:j<L.length)=>And.intro (hE.later hv) (And.intro (hK.later hv) (hN.later hv)));obtain⟨HX,HO,dm,di,HE,HK,HN,HM⟩:=kh8 hx ho cf dy hE hK hN hM;obtain⟨en,dk,dj⟩:=kh3 eb lN lM;obtain⟨m0,m1,m2,Q⟩:=kc3 cf;clear hE hK hN hM eb hx hk ho cf dy lN lM CN;go_enter func45,ntmps45;go_wp2_with fail;rw[<-hX];clear hX;(try go_wp2_with fail);refine C1.mono ?_;rintro e w1 ⟨rfl,cg⟩;obtain⟨az,X1⟩:=kh2 (Zf di cg) (ZE cg dm);clear cg C1 m0 m1 m2 Q dm di;cases o
 ·obtain rfl:(3:Int)=x:=by have q:=Za HX;rw[if_pos rfl] at q;exact q
  go_wp2;go_ret;exact⟨rfl,Za az⟩
 have fh:nn<=4:=by have q:=Za HO;simp at q;omega
 clear HO;obtain⟨m0,m1,m2,Q⟩:=kc3 X1;go_wp2_with fail;refine (C2 _ az).mono ?_;rintro e w2 ⟨rfl,cj⟩;obtain⟨bb,X2⟩:=kh2 (Zf az cj) (ZE cj X1);clear cj C2 m0 m1 m2 Q X1 az;by_cases cp:k=0;rotate_left
 ·obtain rfl:k=x:=by have q:=Za HX;rw[if_neg (by decide),if_pos cp] at q;exact q
  have gk:(k != 0)=true:=by simp[cp]
  go_wp2;go_ret;exact⟨rfl,Za bb⟩
 subst cp;obtain⟨m0,m1,m2,Q⟩:=kc3 X2;by_cases hm:20<mn
 ·have gm:(20:Int)<(mn:Int):=by omega
  obtain rfl:(2:Int)=x:=by have q:=Za HX;rw[if_neg (by decide),if_neg (λr=>r rfl),if_pos hm] at q;exact q
  go_wp2;go_ret;exact⟨rfl,Za bb⟩
 have gm:¬(20:Int)<(mn:Int):=by omega
 have bx:Hid ((if Ve K L≠0 then Ve K L else Qr nn M)=x):=by have q:=Za HX;rw[if_neg (by decide),if_neg (λr=>r rfl),if_neg hm] at q;exact q
 clear HX;go_wp2_with fail
 go_loopw [28] (λi W=>∃ j:Nat,j<=nn/\i = E J j/\Hid (Ve K (L.drop j)=Ve K L)/\Hid (ZD w2 W)) (λi _=>nn - (intOf i).toNat)
 case atStart=>exact⟨0,aL _,rfl,rfl,Below.refl _ _⟩
 case round=>
  obtain⟨j,hj,rfl,HQ,HG⟩:=hrel;clear m0 m1 m2 Q;obtain⟨X3,ah⟩:=kh2 (ZE HG X2) (Zf bb HG);by_cases bi:j<nn
  ·have cm:j<L.length:=(by rw[Za dk];exact bi);have fg:(j:Int)<(nn:Int):=(by omega);have hq:=(Zkj cm).symm.trans HQ;obtain⟨gb,go,rfl,_,av⟩:=(HN.later ah).2 (by omega);have ar:=av j cm;have bk:=en _ (List.getElem_mem cm);obtain⟨⟨N,T,P,tip⟩,hy⟩:=ZF (L[j]);rw[hy] at ar hq bk;obtain⟨za,zn,zc,ba,bn,bc,pa,pn,pc,c0,c1,c2,c3,iN,iT,iP,s1,s2,s3⟩:=ar;simp only at c3 iN iT iP;obtain⟨y,aw⟩:=ZF (opN K (N,T,P,tip));rw[aw] at hq;have aw:opE K N T P tip=y:=aw;obtain⟨Y,hY⟩:=ZG (wr.alloc (cZ #[F za zn zc,F ba bn bc,F pa pn pc,E J tip] 67));have z:ZD wr Y:=(by rw[hY];exact Zh _ _);have Y0:Hid (Y.heap[wr.heap.size]? = some (cZ [F za zn zc,F ba bn bc,F pa pn pc,E J tip].toArray 67 (0,0))):=(by show _=_;rw[hY];exact aH _ _);have X4:=Zd (ZE z X3);have lP:P.length=pn:=iP.1;obtain⟨CK,ak,ad⟩:=kh3 (Nx ka kn kc K za ba pa zn zc bn bc pn pc N T P tip y Y (HE.later (Zf ah z)) (HK.later (Zf ah z)) (iN.later z) (iT.later z) (iP.later z) s1 s2 s3 (by rw[<-lP];exact bk.1) bk.2 aw) (Zf HG z) hq;have fk:=aE _ _ c0;obtain⟨m0,m1,m2,Q⟩:=kc3 X3;clear hq av bk iN iT iP s1 s2 s3 aw z HQ hy lP
   go_upto_region 11 with fail
   rw[<-hY];clear hY c0 c1 c2 c3 fk m0 m1 m2 Q;obtain⟨m0,m1,m2,Q⟩:=kc3 X4;obtain⟨n0,n1,n2,n3,nl⟩:=kc4 Y0;go_wp2_with fail;refine CK.mono ?_;rintro e w3 ⟨rfl,au⟩;have aj:=Zd (Zf ak au);clear au CK m0 m1 m2 Q n0 n1 n2 n3 nl X4 Y0 ak;by_cases ac:y=0
   ·subst ac;have bv:Hid (Ve K (L.drop (j+1))=Ve K L):=(by have q:=Za ad;rw[if_neg (λr=>r rfl)] at q;exact q);clear ad;go_wp2;go_roundw
    case rel=>exact⟨j+1,by omega,by go_num,bv,aj⟩
    case measure=>simp[intOf];omega
   ·have gy:(y != 0)=true:=by simp[ac]
    obtain rfl:y=x:=by
     have q:=Za ad;rw[if_pos ac] at q;have r:=Za bx;rw[<-q,if_pos ac] at r;exact r
    have bs:=Zd (Zf bb aj);go_wp2;go_ret;exact⟨rfl,Za bs⟩
  ·have et:j=nn:=by omega
   have dn:Hid (Qr nn M=x):=by
    have q:=Za HQ;rw[List.drop_of_length_le (by rw[Za dk];omega)] at q;have r:=Za bx;rw[<-q,if_neg (λr=>r rfl)] at r;exact r
   clear HQ bx bi;subst et;obtain⟨m0,m1,m2,Q⟩:=kc3 X3;obtain⟨V0,dw⟩:∃ V,V=wr:=⟨_,rfl⟩;go_wp2_with fail
   go_loopw [43] (λi W=>∃ i2:Nat,i2<=mn/\i = E J i2/\Hid (Qr j (M.drop i2)=x)/\Hid (ZD V0 W)) (λi _=>mn - (intOf i).toNat)
   case atStart=>exact⟨0,aL _,rfl,by show _=_;rw[List.drop_zero];exact Za dn,by rw[dw];exact Below.refl _ _⟩
   case round=>
    obtain⟨i,hi,rfl,HQ,bu⟩:=hrel;clear m0 m1 m2 Q dn;subst dw;obtain⟨X5,dh⟩:=kh2 (ZE bu X3) (Zf ah bu);by_cases bi:i<mn
    ·have dz:i<M.length:=(by rw[Za dj];exact bi);have ff:(i:Int)<(mn:Int):=(by omega);have hq:=(Zkt dz).symm.trans HQ;obtain⟨gb,go,rfl,_,av⟩:=(HM.later dh).2 (by omega);have ar:=av i dz;obtain⟨⟨kd,fr,tq,nm,⟨bp,bh,fj,bn,Lb⟩,⟨th,I,O⟩⟩,hy⟩:=ZF (M[i]);rw[hy] at ar hq;obtain⟨c0,c1,c2,c3,⟨c4,c5,c6,c7,ba,bm,bc,c8,iL,sL⟩,c9,⟨ai,ni,ci,ca,iI,sI⟩,ao,no,co,cb,iO,sO⟩:=ar;simp only at c0 c1 c2 c3 c4 c5 c6 c7 c9 iL iI iO;have c5:wr.cell? ⟨gb,go+i*12+5,none⟩=some (E J bh):=c5;have c6:wr.cell? ⟨gb,go+i*12+6,none⟩=some (E J fj):=c6;have c7:wr.cell? ⟨gb,go+i*12+7,none⟩=some (E J bn):=c7;have c8:wr.cell? ⟨gb,go+i*12+8,none⟩=some (F ba bm bc):=c8;have ca:wr.cell? ⟨gb,go+i*12+10,none⟩=some (F ai ni ci):=ca;have cb:wr.cell? ⟨gb,go+i*12+11,none⟩=some (F ao no co):=cb;obtain⟨y,cl⟩:=ZF (Ry (kd,fr,tq,nm,(bp,bh,fj,bn,Lb),(th,I,O)) (j:Int));rw[cl] at hq;obtain⟨Y,hY⟩:=ZG (wr.alloc (cZ #[E J kd,E J fr,E J tq,E J nm,E J bp,E J bh,E J fj,E J bn,F ba bm bc,E J th,F ai ni ci,F ao no co] 106));have z:ZD wr Y:=(by rw[hY];exact Zh _ _);have Y0:Hid (Y.heap[wr.heap.size]? = some (cZ [E J kd,E J fr,E J tq,E J nm,E J bp,E J bh,E J fj,E J bn,F ba bm bc,E J th,F ai ni ci,F ao no co].toArray 106 (0,0))):=by show _=_;rw[hY];exact aH _ _
     obtain⟨X6,CK,ak,ad⟩:=kh4 (ZE z X5) (Zig kd fr tq nm bp bh fj bn ba bm bc Lb th ai ao ni ci no co I O j y Y (iL.later z) (iI.later z) (iO.later z) sI cl) (Zf bu z) hq;have fk:=aE _ _ c0;obtain⟨m0,m1,m2,Q⟩:=kc3 X5;clear hq av iL sL iI sI iO sO cl z HQ hy
     go_upto_region 18 with fail
     rw[<-hY];clear hY c0 c1 c2 c3 c4 c5 c6 c7 c8 c9 ca cb fk m0 m1 m2 Q;obtain⟨m0,m1,m2,Q⟩:=kc3 X6;obtain⟨n0,n1,n2,n3,n4,n5,n6,n7,n8,n9,eu,ev,nl⟩:=kc12 Y0;go_wp2_with fail;refine CK.mono ?_;rintro e w3 ⟨rfl,au⟩;have aj:=Zd (Zf ak au);clear au CK m0 m1 m2 Q n0 n1 n2 n3 n4 n5 n6 n7 n8 n9 eu ev nl X6 Y0 ak;by_cases ac:y=0
     ·subst ac;have bv:Hid (Qr j (M.drop (i+1))=x):=(by have q:=Za ad;rw[if_neg (λr=>r rfl)] at q;exact q);clear ad;go_wp2;go_roundw
      case rel=>exact⟨i+1,by omega,by go_num,bv,aj⟩
      case measure=>simp[intOf];omega
     ·have gy:(y != 0)=true:=(by simp[ac]);obtain rfl:y=x:=(by have q:=Za ad;rw[if_pos ac] at q;exact q);have bs:=Zd (Zf ah aj);go_wp2;go_ret;exact⟨rfl,Za bs⟩
    ·have er:i=mn:=by omega
     obtain rfl:(0:Int)=x:=by
      have q:=Za HQ;rw[List.drop_of_length_le (by rw[Za dj];omega)] at q;exact q
     subst er;go_wp2;go_ret;exact⟨rfl,Za dh⟩
structure WD where
 k:List ByteArray
 n:List U9
 m:List Jt
structure WOn(Z:Nat->Prop)(w:World)(ka:Option Addr)(kn kc:Nat)(vn vm:Value)(W:WD)(Kn Km:List (List Value)):Prop where
 rn:w.ownsRow 0 67 4 vn W.n.length Kn.flatten
 rm:w.ownsRow 0 106 12 vm W.m.length Km.flatten
 dat:∀ V,Gr w V (λq=>Z q\/vn.ownBlock=some q\/vm.ownBlock=some q)->Bk.TextsAt V ka kn W.k/\Tr.AllC Tr.nodR V Kn W.n/\Tr.AllC Tr.msgR V Km W.m
 sk:SlOk ka kn kc
section
variable {Z : Nat -> Prop} {w w' : World} {ka : Option Addr} {kn kc : Nat} {vn vm : Value} {W : WD} {Kn Km : List (List Value)}
theorem WOn.now(h:WOn Z w ka kn kc vn vm W Kn Km):Bk.TextsAt w ka kn W.k/\Tr.AllC Tr.nodR w Kn W.n/\Tr.AllC Tr.msgR w Km W.m:=h.dat w (Gr.refl _ _)
theorem WOn.later(h:WOn Z w ka kn kc vn vm W Kn Km)(z:ZD w w'):WOn Z w' ka kn kc vn vm W Kn Km:=
 ⟨(Gr.of (S:=λ_=>False) z).own h.rn (λ_ _ q=>q),(Gr.of (S:=λ_=>False) z).own h.rm (λ_ _ q=>q),λV g=>h.dat V ((Gr.of z).trans g),h.sk⟩
theorem WOn.read(h:WOn Z w ka kn kc vn vm W Kn Km):∃ na nc ma mc,vn = F na W.n.length nc/\vm = F ma W.m.length mc/\NodsAt w na W.n.length W.n/\MsgsAt w ma W.m.length W.m/\SlOk na W.n.length nc/\SlOk ma W.m.length mc:=by
 obtain⟨_,h1,h2⟩:=h.now;obtain⟨na,nc,rfl,z,s1⟩:=Tr.rows_of_own Tr.nodR h.rn h1 rfl;obtain⟨ma,mc,rfl,Q,s2⟩:=Tr.rows_of_own Tr.msgR h.rm h2 rfl;exact⟨na,nc,ma,mc,rfl,rfl,z,Q,s1,s2⟩
end
theorem Xx{w:World}{B:Nat}{e t:TypeId}{sz n s:Nat}{v:Value}{xs X}(h:w.ownsRow B e sz v n xs)(Q:w.heap[s]? = some (cZ X t (0,0)))(z:e≠t)(q:Nat)(hq:v.ownBlock=some q):q≠s:=by
 rintro rfl;obtain⟨c,f,h1⟩:=Lib.ownsRow_kind h q hq;rw[Q] at h1;injection h1 with h1;injection h1 with _ h1;exact z h1.symm
structure ScAt(Z:Nat->Prop)(s:Nat)(W:WD)(w:World)(ka:Option Addr)(kn kc:Nat)(vn vm:Value)(Kn Km:List (List Value)):Prop where
 box:w.heap[s]? = some (cZ [F ka kn kc,vn,vm].toArray 287 (0,0))
 zs:∀ q,Z q->q<w.heap.size/\q≠s/\vn.ownBlock≠some q/\vm.ownBlock≠some q
 on:WOn (λq=>Z q\/q=s) w ka kn kc vn vm W Kn Km
def Sc(Z:Nat->Prop)(s:Nat)(W:WD)(w:World):Prop:=∃ ka kn kc vn vm Kn Km,ScAt Z s W w ka kn kc vn vm Kn Km
section
variable {Z : Nat -> Prop} {s : Nat} {W : WD} {w w' : World} {ka : Option Addr} {kn kc : Nat} {vn vm : Value} {Kn Km : List (List Value)}
theorem ScAt.later(h:ScAt Z s W w ka kn kc vn vm Kn Km)(z:ZD w w'):ScAt Z s W w' ka kn kc vn vm Kn Km:=
 ⟨ZE z h.box,λq e=>⟨aD (h.zs q e).1 z.size,(h.zs q e).2⟩,h.on.later z⟩
theorem Sc.later(h:Sc Z s W w)(z:ZD w w'):Sc Z s W w':=by
 obtain⟨ka,kn,kc,vn,vm,Kn,Km,h⟩:=h;exact⟨ka,kn,kc,vn,vm,Kn,Km,h.later z⟩
theorem Sc.lt(h:Sc Z s W w):s<w.heap.size:=by
 obtain⟨ka,kn,kc,vn,vm,Kn,Km,h⟩:=h;exact aA h.box
theorem Sc.nz(h:Sc Z s W w):¬Z s:=by
 obtain⟨ka,kn,kc,vn,vm,Kn,Km,h⟩:=h;exact λe=>(h.zs s e).2.1 rfl
theorem Sc.write(h:Sc Z s W w)(g:Gr w w' Z):Sc Z s W w':=by
 obtain⟨ka,kn,kc,vn,vm,Kn,Km,h⟩:=h;refine⟨ka,kn,kc,vn,vm,Kn,Km,g.heap h.box (λe=>(h.zs s e).2.1 rfl),λq e=>⟨aD (h.zs q e).1 g.size,(h.zs q e).2⟩,g.own h.on.rn (λq hq e=>(h.zs q e).2.2.1 hq),g.own h.on.rm (λq hq e=>(h.zs q e).2.2.2 hq),λV z=>h.on.dat V ((g.mono (λq _ e=>.inl (.inl e))).trans z),h.on.sk⟩
theorem Sc.widen(h:Sc Z s W w)(z:ZD w w')(r:Nat)(hr:w.heap.size<=r)(ab:r<w'.heap.size):Sc (λq=>Z q\/q=r) s W w':=by
 obtain⟨ka,kn,kc,vn,vm,Kn,Km,h⟩:=h;have h2:=h.later z;refine⟨ka,kn,kc,vn,vm,Kn,Km,h2.box,λq e=>?_,h2.on.rn,h2.on.rm,λV Q=>h.on.dat V ((Gr.of z).far Q (λq e=>?_)),h.on.sk⟩
 ·rcases e with e|e
  ·exact h2.zs q e
  ·subst e;exact⟨ab,λe=>by have:=aA h.box;omega,λe=>by have:=(h.on.rn.lt q e).2;omega,λe=>by have:=(h.on.rm.lt q e).2;omega⟩
 ·rcases e with ((e|e)|e)|e
  ·exact .inr (.inl (.inl e))
  ·exact .inl (e ▸ hr)
  ·exact .inr (.inl (.inr e))
  ·exact .inr (.inr e)
theorem Sc.less(h:Sc Z s W w){z:Nat->Prop}(Q:∀ q,z q->Z q):Sc z s W w:=by
 obtain⟨ka,kn,kc,vn,vm,Kn,Km,h⟩:=h;exact⟨ka,kn,kc,vn,vm,Kn,Km,h.box,λq e=>h.zs q (Q q e),h.on.rn,h.on.rm,λV gV=>h.on.dat V (gV.mono (λq _ e=>e.elim (λe=>.inl (e.elim (λe=>.inl (Q q e)) .inr)) .inr)),h.on.sk⟩
end
structure ClW(w:World)(B G:Nat)(W:WD)(vk vn vm:Value)(Kn Km:List (List Value))(i j:Nat)(wr:World):Prop where
 k:wr.ownsRow B 9 1 vk W.k.length (W.k.map Value.string)
 n:Tr.Cl Tr.nodR 67 B G w wr vn W.n.length Kn W.n i
 m:Tr.Cl Tr.msgR 106 B G w wr vm W.m.length Km W.m j
 b0:wr.heap[w.heap.size]? = some (cZ [vk,vn,vm].toArray 90 (0,0))
 b1:wr.heap[w.heap.size+1]? = some (cZ [F none 0 0,F none 0 0,F none 0 0].toArray 90 (0,0))
 bel:ZD w wr
 hB:w.heap.size+2<=B
 g:G<=wr.heap.size
 kg:∀ q,vk.ownBlock=some q->q<G
section
variable {w wr w5 : World} {B G : Nat} {W : WD} {vk vn vm : Value} {Kn Km : List (List Value)} {i j g cap w0s : Nat} {cs : List Value}
theorem ClW.node(h:ClW w B G W vk (F (some ⟨g,0,none⟩) W.n.length cap) vm Kn Km i j wr)(hi:i<W.n.length)(Q:ZD wr w5)(hf:Fresh w0s w5 (λw2=>Tr.nodR.C w2 cs W.n[i]))(hG:G<=w0s) :
  ClW w B G W vk (F (some ⟨g,0,none⟩) W.n.length cap) vm (Kn.set i cs) Km (i+1) j (Tr.setsW w5 g (i*4) cs):=by
 have z:Gr wr (Tr.setsW w5 g (i*4) cs) (λq=>q=g):=Tr.setsW_gr cs w5 _ (Gr.of Q) (.inl rfl);obtain⟨lo,_⟩:=h.n.own.lt g rfl;have:=h.hB;refine⟨z.own h.k (λq hq e=>?_),h.n.put hi Q hf hG,h.m.gr z (λq e=>?_) (λq hq e=>?_),z.heap h.b0 (by show ¬_=g;omega),z.heap h.b1 (by show ¬_=g;omega),z.below h.bel h.bel.size (λq e=>?_),h.hB,aT h.g z.size,h.kg⟩
 ·have e:q=g:=e;exact Tr.own_apart h.n.own h.k (by decide) q (by rw[e];rfl) hq
 ·have e:q=g:=e;exact e ▸ h.n.gt g rfl
 ·have e:q=g:=e;exact Tr.own_apart h.n.own h.m.own (by decide) q (by rw[e];rfl) hq
 ·have e:q=g:=e;omega
theorem ClW.msg(h:ClW w B G W vk vn (F (some ⟨g,0,none⟩) W.m.length cap) Kn Km i j wr)(hj:j<W.m.length)(Q:ZD wr w5)(hf:Fresh w0s w5 (λw2=>Tr.msgR.C w2 cs W.m[j]))(hG:G<=w0s) :
  ClW w B G W vk vn (F (some ⟨g,0,none⟩) W.m.length cap) Kn (Km.set j cs) i (j+1) (Tr.setsW w5 g (j*12) cs):=by
 have z:Gr wr (Tr.setsW w5 g (j*12) cs) (λq=>q=g):=Tr.setsW_gr cs w5 _ (Gr.of Q) (.inl rfl);obtain⟨lo,_⟩:=h.m.own.lt g rfl;have:=h.hB;refine⟨z.own h.k (λq hq e=>?_),h.n.gr z (λq e=>?_) (λq hq e=>?_),h.m.put hj Q hf hG,z.heap h.b0 (by show ¬_=g;omega),z.heap h.b1 (by show ¬_=g;omega),z.below h.bel h.bel.size (λq e=>?_),h.hB,aT h.g z.size,h.kg⟩
 ·have e:q=g:=e;exact Tr.own_apart h.m.own h.k (by decide) q (by rw[e];rfl) hq
 ·have e:q=g:=e;exact e ▸ h.m.gt g rfl
 ·have e:q=g:=e;exact Tr.own_apart h.m.own h.n.own (by decide) q (by rw[e];rfl) hq
 ·have e:q=g:=e;omega
theorem ClW.on(h:ClW w B G W vk vn vm Kn Km W.n.length W.m.length wr)(af:B<=G){V}(g:Gr wr V (λq=>q=w.heap.size+1)):∃ ka kc,vk = F ka W.k.length kc/\WOn (λq=>q<B) V ka W.k.length kc vn vm W Kn Km/\(∀ q,vn.ownBlock=some q->B<=q)/\∀ q,vm.ownBlock=some q->B<=q:=by
 obtain⟨ka,kc,rfl,s1,t1⟩:=Tr.strs_of_own h.k;have:=h.hB;refine⟨ka,kc,rfl,⟨Yx (g.own h.n.own (λq hq e=>?_)) (aL _),Yx (g.own h.m.own (λq hq e=>?_)) (aL _),λU gU=>?_,s1⟩,λq e=>(h.n.own.lt q e).1,λq e=>(h.m.own.lt q e).1⟩
 ·have e:q=w.heap.size+1:=e;have:=(h.n.own.lt q hq).1;omega
 ·have e:q=w.heap.size+1:=e;have:=(h.m.own.lt q hq).1;omega
 ·have g2:Gr wr U (λq=>q<B\/vn.ownBlock=some q\/vm.ownBlock=some q):=(g.mono (λq _ e=>.inl (by have e:q=w.heap.size+1:=e;omega))).trans gU
  have z:Gr wr U (λq=>q<G):=g2.mono (λq _ e=>by
   rcases e with e|e|e
   ·omega
   ·exact h.n.gt q e
   ·exact h.m.gt q e)
  obtain⟨a',c',Q,_,t2⟩:=Tr.strs_of_own (g2.own h.k (λq hq e=>by
   rcases e with e|e|e
   ·have:=(h.k.lt q hq).1;omega
   ·exact Tr.own_apart h.n.own h.k (by decide) q e hq
   ·exact Tr.own_apart h.m.own h.k (by decide) q e hq))
  cases Q;exact⟨t2,h.n.done U z,h.m.done U z⟩
end
def ClmR(w w':World)(kd fr tq nm:Int)(b:Zl)(t:TxD)(bm ni no:Nat)(e:Ending):Prop:=
 ∃ z c1 Q c2 a3 c3,e = dA (.agg #[E J kd,E J fr,E J tq,E J nm,E J b.1,E J b.2.1,E J b.2.2.1,E J b.2.2.2.1,F z bm c1,E J t.1,F Q ni c2,F a3 no c3]) /\
  Fresh w.heap.size w' (λw2=>Tr.blkR.C w2 [E J b.1,E J b.2.1,E J b.2.2.1,E J b.2.2.2.1,F z bm c1] b/\Tr.txR.C w2 [E J t.1,F Q ni c2,F a3 no c3] t)/\ZD w w'
theorem Em(kd fr tq nm bp bh bk bn:Int)(ba bm bc L)(th:Int)(ai ao ni ci no co I O w)(hL:TxsAt w ba bm L)(sL:SlOk ba bm bc)(hm:bm<=2513169434916)(hs:∀ t∈L,Tr.TxSmall t)(hI:InsAt w ai ni I)(hO:OutsAt w ao no O)(sI:SlOk ai ni ci)(sO:SlOk ao no co)(ht:Tr.TxSmall (th,I,O)) :
  Calls Tryz.prog 227 #[.agg #[E J kd,E J fr,E J tq,E J nm,E J bp,E J bh,E J bk,E J bn,F ba bm bc,E J th,F ai ni ci,F ao no co]] w λe w'=>ClmR w w' kd fr tq nm (bp,bh,bk,bn,L) (th,I,O) bm ni no e:=by
 obtain⟨X,hX⟩:=ZG (Yw w [cZ #[E J kd,E J fr,E J tq,E J nm,E J bp,E J bh,E J bk,E J bn,F ba bm bc,E J th,F ai ni ci,F ao no co] 106,cZ #[E J 0,E J 0,E J 0,E J 0,E J 0,E J 0,E J 0,E J 0,F none 0 0,E J 0,F none 0 0,F none 0 0] 106]);have ct:X=(w.alloc (cZ #[E J kd,E J fr,E J tq,E J nm,E J bp,E J bh,E J bk,E J bn,F ba bm bc,E J th,F ai ni ci,F ao no co] 106)).alloc (cZ #[E J 0,E J 0,E J 0,E J 0,E J 0,E J 0,E J 0,E J 0,F none 0 0,E J 0,F none 0 0,F none 0 0] 106):=hX;have bq:ZD w X:=by rw[hX];exact Zs _ _
 have cu:X.heap.size=w.heap.size+2:=by rw[hX];exact Z3 _ _
 have x0:=kl0 hX _ _ rfl;have x1:=kl hX 1 _ _ rfl;have lI:I.length=ni:=hI.1;have lO:O.length=no:=hO.1;have C1:=Zd (Tr.clBlock_is bp bh bk bn ba bm bc L X.drew (hL.later (Zf bq (Zi X))) sL hm hs);have C2:=Zd (λV (hv:ZD w V)=>Tr.clTx_is th ai ao ni ci no co I O V (hI.later hv) (hO.later hv) sI sO (by rw[<-lI];exact ht.1) (by rw[<-lO];exact ht.2.1) ht.2.2.1 ht.2.2.2);obtain⟨ax,bi,ds,cc⟩:=kh4 bq cu x0 x1;have tl:=aA x0;have KS:Hid (∀ U:World,X.heap.size<=U.heap.size->w.heap.size<U.heap.size):=λU hu=>aD tl hu;have KC:Hid (∀ U:World,ZD X U->U.heap[w.heap.size]? = some (cZ [E J kd,E J fr,E J tq,E J nm,E J bp,E J bh,E J bk,E J bn,F ba bm bc,E J th,F ai ni ci,F ao no co].toArray 106 (0,0))):=λU hu=>ZE hu x0;clear hL sL hm hs hI hO sI sO ht lI lO bq cu x0 x1 hX tl;go_enter func227,ntmps227
 go_upto_region 1 with fail
 rw[<-ct];clear ct
 go_cut [] from 3 to 10 (λwx=>Hid (∃ a1 c1 a2 c2 a3 c3,wx.heap[w.heap.size]? = some (cZ [E J kd,E J fr,E J tq,E J nm,E J bp,E J bh,E J bk,E J bn,F a1 bm c1,E J th,F a2 ni c2,F a3 no c3].toArray 106 (0,0))/\Fresh X.heap.size wx (λw2=>Tr.blkR.C w2 [E J bp,E J bh,E J bk,E J bn,F a1 bm c1] (bp,bh,bk,bn,L)/\Tr.txR.C w2 [E J th,F a2 ni c2,F a3 no c3] (th,I,O))/\Gr X wx (λq=>q=w.heap.size)))
 case first=>
  refine wp_region_held_drew (S:=λU=>w.heap.size<U.heap.size) (by kernel_rfl) (KS _ (Nat.le_refl _)) (λz=>?_);refine tkL 0 rfl z ?_;refine tkL 3 rfl z ?_;have Q:=Zi X;refine cI (rs:=[1,4]) (by kernel_rfl) (by simp) ?_;refine rdC rfl (λKQ hK=>?_) (rdC rfl (λKQ hK=>?_) AllReadyH.nil)
  ·have hl:=KC X.drew Q;obtain⟨-,-,-,-,l4,l5,l6,l7,l8,ll⟩:=kc9 hl;go_simp;clear hl ll l4 l5 l6 l7 l8;clear z;refine hK.out _ _ (KS _ Q.size) (λz=>?_);clear hK KQ;(try simp only[aM,ZA,ZB,ZC]);refine cI (rs:=[2,4]) (by kernel_rfl) (by simp) ?_;refine rdC rfl (λKQ hK=>?_) (rdC rfl (λKQ hK=>?_) AllReadyH.nil)
   ·refine Zo (by kernel_rfl) 71 #[.agg #[E J bp,E J bh,E J bk,E J bn,F ba bm bc]] (by kernel_rfl) C1 ?_;rintro e w5 ⟨a1,c1,rfl,ay,bb⟩;refine⟨_,rfl,?_⟩;have Q:=Zf (Zi X) bb;clear z;refine hK.out _ _ (KS _ Q.size) (λz=>?_);clear hK KQ;(try simp only[aM,ZA,ZB,ZC]);refine rdY 4 rfl (λKQ hK=>?_);have hl:=KC w5 Q;obtain⟨-,-,-,-,-,-,-,-,-,l9,be,bf,ll⟩:=kc12 hl;go_simp;clear hl ll l9 be bf;clear z;refine hK.out _ _ (KS _ Q.size) (λz=>?_);clear hK KQ;refine tkL 6 rfl z ?_;refine rdS 5 rfl (C2 w5 (Zf ax Q)) ?_;rintro e w6 ⟨a2,c2,a3,c3,rfl,az,av⟩;have ac:=Zf Q av;clear z;refine⟨_,rfl,(KS _ ac.size),λz=>?_⟩;(try simp only[aM,ZA,ZB,ZC]);have hz:=KC _ ac;obtain⟨-,-,-,-,y4,y5,y6,y7,y8,y9,dh,di,-,-,-,-,g4,g5,g6,g7,g8,g9,cd,ce,yl⟩:=kf12 hz;refine rdY 7 rfl (λKQ hK=>?_);go_simp;clear z;refine hK.out _ _ (KS _ (by simpa[cG] using ac.size)) (λz=>?_);clear hK KQ;(try simp only[aM]);refine tkL 8 rfl z ?_;refine rdY 9 rfl (λKQ hK=>?_);go_simp;clear z;refine hK.out _ _ (KS _ (by simpa[cG] using ac.size)) (λz=>?_);clear hK KQ;(try simp only[aM]);refine wpAnyH_done (by kernel_rfl) ?_ _;clear z;go_wp2_with fail;go_meet
    case rel=>
     have gg:Gr w6 ((((((((w6.setCell ⟨w.heap.size,4,none⟩ (E J bp)).setCell ⟨w.heap.size,5,none⟩ (E J bh)).setCell ⟨w.heap.size,6,none⟩ (E J bk)).setCell ⟨w.heap.size,7,none⟩ (E J bn)).setCell ⟨w.heap.size,8,none⟩ (F a1 bm c1)).setCell ⟨w.heap.size,9,none⟩ (E J th)).setCell ⟨w.heap.size,10,none⟩ (F a2 ni c2)).setCell ⟨w.heap.size,11,none⟩ (F a3 no c3)) (λq=>q=w.heap.size):=((((((((Gr.refl w6 (λq=>q=w.heap.size)).one w.heap.size 4 (.inl rfl) _).one w.heap.size 5 (.inl rfl) _).one w.heap.size 6 (.inl rfl) _).one w.heap.size 7 (.inl rfl) _).one w.heap.size 8 (.inl rfl) _).one w.heap.size 9 (.inl rfl) _).one w.heap.size 10 (.inl rfl) _).one w.heap.size 11 (.inl rfl) _;have bu:=Za bi;have cp:=Q.size;have cz:X.drew.heap.size=X.heap.size:=rfl;refine⟨a1,c1,a2,c2,a3,c3,(Tr.set_cells (Tr.set_cells (Tr.set_cells (Tr.set_cells (Tr.set_cells (Tr.set_cells (Tr.set_cells (Tr.set_cells hz 4 _) 5 _) 6 _) 7 _) 8 _) 9 _) 10 _) 11 _),λW2 g2=>⟨ay W2 ?_,az W2 ?_⟩,(Gr.of ac).trans gg⟩
     ·exact (Gr.of av).trans ((gg.mono (λq _ e=>by have e:q=w.heap.size:=e;omega)).trans (g2.mono (λq _ e=>by omega)))
     ·exact (gg.mono (λq _ e=>by have e:q=w.heap.size:=e;omega)).trans (g2.mono (λq _ e=>by omega))
   ·have hl:=KC X.drew Q;obtain⟨-,-,-,-,-,-,-,-,-,l9,be,bf,ll⟩:=kc12 hl;go_simp;clear hl ll l9 be bf;clear z;refine hK.out _ _ (KS _ Q.size) (λz=>?_);clear hK KQ;(try simp only[aM,ZA,ZB,ZC]);refine rdS 2 rfl C1 ?_;rintro e w5 ⟨a1,c1,rfl,ay,bb⟩;have Q:=Zf (Zi X) bb;clear z;refine⟨_,rfl,(KS _ Q.size),λz=>?_⟩;refine tkL 6 rfl z ?_;refine rdS 5 rfl (C2 w5 (Zf ax Q)) ?_;rintro e w6 ⟨a2,c2,a3,c3,rfl,az,av⟩;have ac:=Zf Q av;clear z;refine⟨_,rfl,(KS _ ac.size),λz=>?_⟩;(try simp only[aM,ZA,ZB,ZC]);have hz:=KC _ ac;obtain⟨-,-,-,-,y4,y5,y6,y7,y8,y9,dh,di,-,-,-,-,g4,g5,g6,g7,g8,g9,cd,ce,yl⟩:=kf12 hz;refine rdY 7 rfl (λKQ hK=>?_);go_simp;clear z;refine hK.out _ _ (KS _ (by simpa[cG] using ac.size)) (λz=>?_);clear hK KQ;(try simp only[aM]);refine tkL 8 rfl z ?_;refine rdY 9 rfl (λKQ hK=>?_);go_simp;clear z;refine hK.out _ _ (KS _ (by simpa[cG] using ac.size)) (λz=>?_);clear hK KQ;(try simp only[aM]);refine wpAnyH_done (by kernel_rfl) ?_ _;clear z;go_wp2_with fail;go_meet
    case rel=>
     have gg:Gr w6 ((((((((w6.setCell ⟨w.heap.size,4,none⟩ (E J bp)).setCell ⟨w.heap.size,5,none⟩ (E J bh)).setCell ⟨w.heap.size,6,none⟩ (E J bk)).setCell ⟨w.heap.size,7,none⟩ (E J bn)).setCell ⟨w.heap.size,8,none⟩ (F a1 bm c1)).setCell ⟨w.heap.size,9,none⟩ (E J th)).setCell ⟨w.heap.size,10,none⟩ (F a2 ni c2)).setCell ⟨w.heap.size,11,none⟩ (F a3 no c3)) (λq=>q=w.heap.size):=((((((((Gr.refl w6 (λq=>q=w.heap.size)).one w.heap.size 4 (.inl rfl) _).one w.heap.size 5 (.inl rfl) _).one w.heap.size 6 (.inl rfl) _).one w.heap.size 7 (.inl rfl) _).one w.heap.size 8 (.inl rfl) _).one w.heap.size 9 (.inl rfl) _).one w.heap.size 10 (.inl rfl) _).one w.heap.size 11 (.inl rfl) _;have bu:=Za bi;have cp:=Q.size;have cz:X.drew.heap.size=X.heap.size:=rfl;refine⟨a1,c1,a2,c2,a3,c3,(Tr.set_cells (Tr.set_cells (Tr.set_cells (Tr.set_cells (Tr.set_cells (Tr.set_cells (Tr.set_cells (Tr.set_cells hz 4 _) 5 _) 6 _) 7 _) 8 _) 9 _) 10 _) 11 _),λW2 g2=>⟨ay W2 ?_,az W2 ?_⟩,(Gr.of ac).trans gg⟩
     ·exact (Gr.of av).trans ((gg.mono (λq _ e=>by have e:q=w.heap.size:=e;omega)).trans (g2.mono (λq _ e=>by omega)))
     ·exact (gg.mono (λq _ e=>by have e:q=w.heap.size:=e;omega)).trans (g2.mono (λq _ e=>by omega))
  ·have hl:=KC X.drew Q;obtain⟨-,-,-,-,-,-,-,-,-,l9,be,bf,ll⟩:=kc12 hl;go_simp;clear hl ll l9 be bf;clear z;refine hK.out _ _ (KS _ Q.size) (λz=>?_);clear hK KQ;(try simp only[aM,ZA,ZB,ZC]);refine rdY 1 rfl (λKQ hK=>?_);have hl:=KC X.drew Q;obtain⟨-,-,-,-,l4,l5,l6,l7,l8,ll⟩:=kc9 hl;go_simp;clear hl ll l4 l5 l6 l7 l8;clear z;refine hK.out _ _ (KS _ Q.size) (λz=>?_);clear hK KQ;(try simp only[aM,ZA,ZB,ZC]);refine rdS 2 rfl C1 ?_;rintro e w5 ⟨a1,c1,rfl,ay,bb⟩;have Q:=Zf (Zi X) bb;clear z;refine⟨_,rfl,(KS _ Q.size),λz=>?_⟩;refine tkL 6 rfl z ?_;refine rdS 5 rfl (C2 w5 (Zf ax Q)) ?_;rintro e w6 ⟨a2,c2,a3,c3,rfl,az,av⟩;have ac:=Zf Q av;clear z;refine⟨_,rfl,(KS _ ac.size),λz=>?_⟩;(try simp only[aM,ZA,ZB,ZC]);have hz:=KC _ ac;obtain⟨-,-,-,-,y4,y5,y6,y7,y8,y9,dh,di,-,-,-,-,g4,g5,g6,g7,g8,g9,cd,ce,yl⟩:=kf12 hz;refine rdY 7 rfl (λKQ hK=>?_);go_simp;clear z;refine hK.out _ _ (KS _ (by simpa[cG] using ac.size)) (λz=>?_);clear hK KQ;(try simp only[aM]);refine tkL 8 rfl z ?_;refine rdY 9 rfl (λKQ hK=>?_);go_simp;clear z;refine hK.out _ _ (KS _ (by simpa[cG] using ac.size)) (λz=>?_);clear hK KQ;(try simp only[aM]);refine wpAnyH_done (by kernel_rfl) ?_ _;clear z;go_wp2_with fail;go_meet
   case rel=>
    have gg:Gr w6 ((((((((w6.setCell ⟨w.heap.size,4,none⟩ (E J bp)).setCell ⟨w.heap.size,5,none⟩ (E J bh)).setCell ⟨w.heap.size,6,none⟩ (E J bk)).setCell ⟨w.heap.size,7,none⟩ (E J bn)).setCell ⟨w.heap.size,8,none⟩ (F a1 bm c1)).setCell ⟨w.heap.size,9,none⟩ (E J th)).setCell ⟨w.heap.size,10,none⟩ (F a2 ni c2)).setCell ⟨w.heap.size,11,none⟩ (F a3 no c3)) (λq=>q=w.heap.size):=((((((((Gr.refl w6 (λq=>q=w.heap.size)).one w.heap.size 4 (.inl rfl) _).one w.heap.size 5 (.inl rfl) _).one w.heap.size 6 (.inl rfl) _).one w.heap.size 7 (.inl rfl) _).one w.heap.size 8 (.inl rfl) _).one w.heap.size 9 (.inl rfl) _).one w.heap.size 10 (.inl rfl) _).one w.heap.size 11 (.inl rfl) _;have bu:=Za bi;have cp:=Q.size;have cz:X.drew.heap.size=X.heap.size:=rfl;refine⟨a1,c1,a2,c2,a3,c3,(Tr.set_cells (Tr.set_cells (Tr.set_cells (Tr.set_cells (Tr.set_cells (Tr.set_cells (Tr.set_cells (Tr.set_cells hz 4 _) 5 _) 6 _) 7 _) 8 _) 9 _) 10 _) 11 _),λW2 g2=>⟨ay W2 ?_,az W2 ?_⟩,(Gr.of ac).trans gg⟩
    ·exact (Gr.of av).trans ((gg.mono (λq _ e=>by have e:q=w.heap.size:=e;omega)).trans (g2.mono (λq _ e=>by omega)))
    ·exact (gg.mono (λq _ e=>by have e:q=w.heap.size:=e;omega)).trans (g2.mono (λq _ e=>by omega))
 case rest=>
  obtain⟨a1,c1,a2,c2,a3,c3,Q,hF,hg⟩:=Za hcut;obtain⟨e0,e1,e2,e3,e4,e5,e6,e7,e8,e9,dv,dw,el⟩:=kc12 Q;have hz:=(hg.block _ (aA cc) (λe=>by have e:w.heap.size+1=w.heap.size:=e;omega)).trans cc;obtain⟨z0,z1,z2,z3,z4,z5,z6,z7,z8,z9,ev,ew,f0,f1,f2,f3,f4,f5,f6,f7,f8,f9,ei,ej,zl⟩:=kf12 hz;have br:ZD w wc:=hg.below ax ax.size (λq e=>by have e:q=w.heap.size:=e;omega)
  have dr:Hid (∀ W,Gr wc W (λq=>q=w.heap.size+1)->ClmR w W kd fr tq nm (bp,bh,bk,bn,L) (th,I,O) bm ni no (dA (.agg #[E J kd,E J fr,E J tq,E J nm,E J bp,E J bh,E J bk,E J bn,F a1 bm c1,E J th,F a2 ni c2,F a3 no c3]))):=λW g=>by
   have bu:=Za bi;refine⟨a1,c1,a2,c2,a3,c3,rfl,λW2 g2=>hF W2 ((g.mono (λq _ e=>by have e:q=w.heap.size+1:=e;omega)).trans (g2.mono (λq _ e=>by omega))),g.below br br.size (λq e=>by have e:q=w.heap.size+1:=e;omega)⟩
  clear hcut Q hF hg hz br KS KC C1 C2;go_wp2;(try simp only[Exit.inBlock,Exit.then]);refine bodyPost_ret (v:=.agg #[E J kd,E J fr,E J tq,E J nm,E J bp,E J bh,E J bk,E J bn,F a1 bm c1,E J th,F a2 ni c2,F a3 no c3]) ?_ rfl ?_
  ·rw[Ja rfl];go_simp
  ·exact dr _ (((((((((((((Gr.refl wc (λq=>q=w.heap.size+1)).one (w.heap.size+1) 0 (.inl rfl) _).one (w.heap.size+1) 1 (.inl rfl) _).one (w.heap.size+1) 2 (.inl rfl) _).one (w.heap.size+1) 3 (.inl rfl) _).one (w.heap.size+1) 4 (.inl rfl) _).one (w.heap.size+1) 5 (.inl rfl) _).one (w.heap.size+1) 6 (.inl rfl) _).one (w.heap.size+1) 7 (.inl rfl) _).one (w.heap.size+1) 8 (.inl rfl) _).one (w.heap.size+1) 9 (.inl rfl) _).one (w.heap.size+1) 10 (.inl rfl) _).one (w.heap.size+1) 11 (.inl rfl) _)
def Zqc(x:U9):Prop:=x.1.length=x.2.1.length/\x.1.length<=4096/\(∀ t∈x.2.1,Tr.BlkSmall t)/\Js x
def Vf(x:Jt):Prop:=Tr.BlkSmall x.2.2.2.2.1/\Tr.TxSmall x.2.2.2.2.2
theorem Zeb{w}{k f t n:Int}{b:Zl}{x:TxD}{z Q a3 n1 c1 n2 c2 n3 c3}(h1:Tr.blkR.C w [E J b.1,E J b.2.1,E J b.2.2.1,E J b.2.2.2.1,F z n1 c1] b)(h2:Tr.txR.C w [E J x.1,F Q n2 c2,F a3 n3 c3] x) :
  Tr.msgR.C w [E J k,E J f,E J t,E J n,E J b.1,E J b.2.1,E J b.2.2.1,E J b.2.2.2.1,F z n1 c1,E J x.1,F Q n2 c2,F a3 n3 c3] (k,f,t,n,b,x):=by
 obtain⟨_,_,_,e,k1,k2⟩:=h1;obtain⟨_,_,_,_,_,_,e2,k3,k4,k5,k6⟩:=h2;cases e;cases e2;exact⟨_,_,_,_,_,_,_,_,_,rfl,k1,k2,k3,k4,k5,k6⟩
def Xt(w:World)(s q:Nat):Prop:=∃ v,w.cell? ⟨s,2,none⟩=some v/\v.ownBlock=some q
def WD.sent(W:WD)(m:Jt):WD:=if W.m.length<20 then ⟨W.k,W.n,W.m++[m]⟩ else W
def He(Z:Nat->Prop)(s:Nat)(W:WD)(w w':World):Prop:=Sc Z s W w'/\Gr w w' (λq=>q=s\/Xt w s q)/\∀ q,Xt w' s q->Xt w s q\/w.heap.size<=q
theorem ScAt.nb{Z:Nat->Prop}{s}{W:WD}{w ka kn kc}{vn vm:Value}{Kn Km}(h:ScAt Z s W w ka kn kc vn vm Kn Km)(q:Nat):vm.ownBlock=some q↔Xt w s q:=
 ⟨λe=>⟨vm,Zb h.box 2 _ rfl,e⟩,λ⟨v,h1,h2⟩=>by
  rw[Zb h.box 2 _ rfl] at h1;injection h1 with h1;exact h1 ▸ h2⟩
theorem Sc.net_lt{Z:Nat->Prop}{s q:Nat}{W:WD}{w:World}(h:Sc Z s W w)(hq:Xt w s q):¬Z q/\q<w.heap.size/\q≠s:=by
 obtain⟨ka,kn,kc,vn,vm,Kn,Km,h⟩:=h;have hq:=(h.nb q).2 hq;exact⟨λe=>(h.zs q e).2.2.2 hq,(h.on.rm.lt q hq).2,Xx h.on.rm h.box (by decide) q hq⟩
theorem Znr{Z:Nat->Prop}{s}{W:WD}{w w4 w5 w6:World}{ka}{kn kc g cap:Nat}{vn vm:Value}{Kn Km:List (List Value)}{cs}{m:Jt}(h:ScAt Z s W w ka kn kc vn vm Kn Km)
  (h4:ZD w w4) (hF:Fresh w.heap.size w4 (λw2=>Tr.msgR.C w2 cs m)) (h5:ZD w4 w5) (h6:w5.grownBy w6 vm.ownBlock) (ab:vm.ownBlock=some g\/w4.heap.size<=g)
  (ho:w6.ownsRow 0 106 12 (F (some ⟨g,0,none⟩) (W.m.length+1) cap) (W.m.length+1) (Km.flatten++cs)) (hl:W.m.length<20) :
  He Z s (W.sent m) w (w6.setCell ⟨s,2,none⟩ (F (some ⟨g,0,none⟩) (W.m.length+1) cap)):=by
 have hb:=h.box;have ay:=aA hb;have Q:Gr w w6 (λq=>vm.ownBlock=some q):=(Gr.of (Zf h4 h5)).grown h6 (λq e=>.inl e);have ap:Gr w4 w6 (λq=>vm.ownBlock=some q):=(Gr.of h5).grown h6 (λq e=>.inl e);have b6:=Q.heap hb (λe=>Xx h.on.rm hb (by decide) s e rfl);have z:Gr w6 (w6.setCell ⟨s,2,none⟩ (F (some ⟨g,0,none⟩) (W.m.length+1) cap)) (λq=>q=s):=(Gr.refl w6 (λq=>q=s)).one s 2 (.inl rfl) _;have bx:=Tr.set_cells b6 2 (F (some ⟨g,0,none⟩) (W.m.length+1) cap);have e1:W.sent m=⟨W.k,W.n,W.m++[m]⟩:=if_pos hl;have e2:(W.m++[m]).length=W.m.length+1:=by simp
 have e3:(Km++[cs]).flatten=Km.flatten++cs:=by simp
 rw[e1];refine⟨⟨ka,kn,kc,vn,_,Kn,Km++[cs],bx,λq e=>?_,?_,?_,λV gV=>?_,h.on.sk⟩,?_,?_⟩
 ·obtain⟨z1,z2,z3,z4⟩:=h.zs q e;refine⟨aD z1 (aT Q.size z.size),z2,z3,λe=>?_⟩;injection e with e;have e:g=q:=e;subst e
  rcases ab with e|e
  ·exact z4 e
  ·have:=h4.size;omega
 ·exact z.own (Q.own h.on.rn (λq hq e=>Tr.own_apart h.on.rm h.on.rn (by decide) q e hq)) (λq hq e=>Xx h.on.rn hb (by decide) q hq e)
 ·show World.ownsRow _ _ _ _ _ (W.m++[m]).length _;rw[e2,e3];exact z.own ho (λq hq e=>Xx ho b6 (by decide) q hq e)
 ·have gw:Gr w V (λq=>(Z q\/q=s)\/vn.ownBlock=some q\/vm.ownBlock=some q):=((Q.mono (λq _ e=>.inr (.inr e))).trans (z.mono (λq _ e=>.inl (.inr e)))).far gV (λq e=>by
   rcases e with e|e|e
   ·exact .inr (.inl e)
   ·exact .inr (.inr (.inl e))
   ·injection e with e;have e:g=q:=e;subst e
    rcases ab with e|e
    ·exact .inr (.inr (.inr e))
    ·exact .inl (aT h4.size e))
  have g4:Gr w4 V (λq=>q<w.heap.size):=((ap.mono (λq _ e=>(h.on.rm.lt q e).2)).trans (z.mono (λq _ e=>by have e:q=s:=e;omega))).far gV (λq e=>by
   rcases e with (e|e)|e|e
   ·exact .inr (h.zs q e).1
   ·exact .inr (by omega)
   ·exact .inr (h.on.rn.lt q e).2
   ·injection e with e;have e:g=q:=e;subst e
    rcases ab with e|e
    ·exact .inr (h.on.rm.lt g e).2
    ·exact .inl e)
  obtain⟨d1,d2,d3⟩:=h.on.dat V gw;exact⟨d1,d2,d3.snoc (hF V g4)⟩
 ·exact (Q.mono (λq _ e=>.inr ((h.nb q).1 e))).trans (z.mono (λq _ e=>.inl e))
 ·rintro q ⟨v,h1,h2⟩;rw[Zb bx 2 _ rfl] at h1;injection h1 with h1;subst h1;injection h2 with h2;have h2:g=q:=h2;subst h2
  rcases ab with e|e
  ·exact .inl ((h.nb g).1 e)
  ·exact .inr (aT h4.size e)
theorem Rm(Z:Nat->Prop)(s:Nat)(W:WD)(kd fr tq nm bp z Q bn:Int)(ba bm bc L)(th:Int)(ai ao ni ci no co I O w)(hS:Sc Z s W w)(hL:TxsAt w ba bm L)(sL:SlOk ba bm bc)(hI:InsAt w ai ni I)(hO:OutsAt w ao no O)(sI:SlOk ai ni ci)(sO:SlOk ao no co)(hz:Vf (kd,fr,tq,nm,(bp,z,Q,bn,L),th,I,O)) :
  Calls Tryz.prog 275 #[dC (some ⟨s,0,none⟩),.agg #[E J kd,E J fr,E J tq,E J nm,E J bp,E J z,E J Q,E J bn,F ba bm bc,E J th,F ai ni ci,F ao no co]] w λe w'=>e = dA (dB #[])/\He Z s (W.sent (kd,fr,tq,nm,(bp,z,Q,bn,L),th,I,O)) w w':=by
 obtain⟨j0,ji,cm,cn,cp⟩:=info_parts Tr.Tryz.infoMsgC;obtain⟨ka,kn,kc,vn,vm,Kn,Km,hA⟩:=hS;obtain⟨na,nc,ma,mc,rfl,rfl,_,_,_,sm⟩:=hA.on.read;have hb:=hA.box;obtain⟨X,hX,ad,aw⟩:=ka00 w [E J kd,E J fr,E J tq,E J nm,E J bp,E J z,E J Q,E J bn,F ba bm bc,E J th,F ai ni ci,F ao no co] 106;have ax:=ZE ad hb;have C1:=Zd (λV (hv:ZD w V)=>Em kd fr tq nm bp z Q bn ba bm bc L th ai ao ni ci no co I O V (hL.later hv) sL (by rw[<-hL.1];exact hz.1.1) hz.1.2 (hI.later hv) (hO.later hv) sI sO hz.2);have bj:=Zd (λw4 w5 w6 g cap cs=>Znr (w4:=w4) (w5:=w5) (w6:=w6) (g:=g) (cap:=cap) (cs:=cs) (m:=(kd,fr,tq,nm,(bp,z,Q,bn,L),th,I,O)) hA)
 have bd:Hid (¬W.m.length<20->He Z s (W.sent (kd,fr,tq,nm,(bp,z,Q,bn,L),th,I,O)) w X):=λh=>by
  have e:W.sent (kd,fr,tq,nm,(bp,z,Q,bn,L),th,I,O)=W:=if_neg h;rw[e];exact⟨⟨ka,kn,kc,_,_,Kn,Km,hA.later ad⟩,Gr.of ad,λq hq=>.inl ((hA.nb q).1 (((hA.later ad).nb q).2 hq))⟩
 obtain⟨ae,HB⟩:=kh2 ad ax;have HW:=Zd (hA.later ad).on;have cd:=Zd aw;obtain⟨-,-,x2,xl⟩:=kc3 ax;obtain⟨m0,m1,m2,m3,m4,m5,m6,m7,m8,m9,m10,m11,ml⟩:=kc12 aw;clear hL sL hI hO sI sO hz ad aw hb hA ax;by_cases hl:W.m.length<20;rotate_left
 ·have cg:¬(W.m.length:Int)<20:=by omega
  go_enter func275,ntmps275
  go_upto_region 1 with fail
  rw[<-hX];clear hX;(try go_wp2);go_end0;exact⟨rfl,bd hl⟩
 have cg:(W.m.length:Int)<20:=by omega
 have cq:W.m.length<=19:=by omega
 clear bd;go_enter func275,ntmps275
 go_upto_region 1 with fail
 rw[<-hX];clear hX;(try go_wp2_with fail);have CC:=Zd (C1 X.drew (Zf ae (Zi X)))
 go_region_law (first
  | (refine Yo (by rfl) 227 #[.agg #[E J kd,E J fr,E J tq,E J nm,E J bp,E J z,E J Q,E J bn,F ba bm bc,E J th,F ai ni ci,F ao no co]] (by kernel_rfl) CC ?_;rintro e w4 ⟨a1,c1,a2,c2,a3,c3,rfl,ay,ap⟩;refine⟨_,rfl,?_⟩;have b4:=ZE ap HB;have n2:=Zb b4 2 _ rfl;have nl:=aA b4;have be:Hid (Fresh w.heap.size w4 (λw2=>Tr.msgR.C w2 [E J kd,E J fr,E J tq,E J nm,E J bp,E J z,E J Q,E J bn,F a1 bm c1,E J th,F a2 ni c2,F a3 no c3] (kd,fr,tq,nm,(bp,z,Q,bn,L),th,I,O))):=λw2 g2=>Zeb (ay w2 (g2.mono (λq _ e=>aD e ae.size))).1 (ay w2 (g2.mono (λq _ e=>aD e ae.size))).2;have cc:=Zd ap;have ar:=Zd b4;have au:=Zd ((Gr.of (S:=λ_=>False) ap).own HW.rm.drew (λ_ _ q=>q));clear ay ap b4)
  | (refine step_append_lies _ (by rfl) _ _ _ (by rfl) 0 106 j0 _ 12 144 underlying88 ji cm cn cp rfl (by decide) (F ma W.m.length mc) W.m.length Km.flatten (by rfl) (au.alloc _) ⟨w4.heap.size,0,none⟩ 1 1 [E J kd,E J fr,E J tq,E J nm,E J bp,E J z,E J Q,E J bn,F a1 bm c1,E J th,F a2 ni c2,F a3 no c3] (by rfl) (by rfl) (World.news_of_block (cs:=#[E J kd,E J fr,E J tq,E J nm,E J bp,E J z,E J Q,E J bn,F a1 bm c1,E J th,F a2 ni c2,F a3 no c3]) (t:=106) (fr:=(0,0)) (aH w4 _)) (by simp[Value.oneCell']) (by decide) (by unfold maxLen;omega) (by omega) (aL _) (w4.heap.size+1) (by simp) ?_;intro g2 ce w6 bt az bs ct;have b6:=(az.block s (by simp;omega) (λe=>Xx au ar (by decide) s e.symm rfl)).trans ((Below.heap_alloc _ _ _ nl).trans ar);have o2:=Zb b6 2 _ rfl;have cy:=Zg b6 2;have ol:=aA b6;have bi:=Zd bt;have bf:=Zd az;have bg:=Zd bs;clear bt az bs b6))
 all_goals
  have ca:=Zd (bj w4 _ w6 g2 ce [E J kd,E J fr,E J tq,E J nm,E J bp,E J z,E J Q,E J bn,F a1 bm c1,E J th,F a2 ni c2,F a3 no c3] (Zf ae (Zf (Zi X) cc)) be (Zh w4 _) bf (by
   rcases Za bg with e|e
   ·exact .inl e
   ·exact .inr (by omega)) bi hl)
  clear bj bi bf bg be au ar HW cd;go_wp2;go_end0;exact⟨rfl,Za ca⟩
