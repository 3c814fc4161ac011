import Derived.Test.YtmomfkikogbdeaaGreatDoorH
import Derived.Test.YtmomfkikogbdeaaGreatDoorG38
open Go.Proofs.Tryz
open Go renaming lt_of_block->aA,bodyPost_ret->bB,heap_alloc_new->aG
open Go.Ending renaming returned->dF
open Go.Exit renaming inBlock->aV
open Go.IntKind renaming i64->J
open Go.Obj renaming cells->dE
open Go.Proofs.Tryz renaming prog->aB
open Go.Value renaming int->E,slice->F,tuple->dG,pointer->dH,bool->dI
open Go.World renaming frozen?_of_block->aM,size_alloc->cL
open List renaming getElem_mem->bE,mem_cons->aO,mem_map->bN,map_cons->bY,replicate->aR,getElem?_eq_getElem->aZ
open Nat renaming le_of_eq->cO,le_refl->aF,zero_le->aI,lt_of_lt_of_le->aD,le_trans->aN
set_option maxHeartbeats 12800000
set_option maxRecDepth 10000
namespace Go.Proofs.YtmomfkikogbdeaaGreatDoor
open Go.RowKit
def CutW(w:World)(W:WD)(wx:World):Prop:=∃ vk vn vm Kn Km,Tr.AllC Tr.nodR w Kn W.n/\Tr.AllC Tr.msgR w Km W.m/\wx.ownsRow (w.heap.size+2) 9 1 vk W.k.length (W.k.map Value.string)/\wx.ownsRow (w.heap.size+2) 67 4 vn W.n.length Kn.flatten/\wx.ownsRow (w.heap.size+2) 106 12 vm W.m.length Km.flatten /\
 wx.heap[w.heap.size]? = some (dE [vk,vn,vm].toArray 90 (0,0))/\wx.heap[w.heap.size+1]? = some (dE [F none 0 0,F none 0 0,F none 0 0].toArray 90 (0,0))/\ZD w wx
theorem Zor{w U wx:World}{W:WD}{vk vn vm}{Kn Km:List (List Value)}(h1:Tr.AllC Tr.nodR w Kn W.n)(h2:Tr.AllC Tr.msgR w Km W.m)(o1:U.ownsRow (w.heap.size+2) 9 1 vk W.k.length (W.k.map Value.string))(o2:U.ownsRow (w.heap.size+2) 67 4 vn W.n.length Kn.flatten)(o3:U.ownsRow (w.heap.size+2) 106 12 vm W.m.length Km.flatten)(hb:ZD w U)
  (hz:U.heap[w.heap.size+1]? = some (dE [F none 0 0,F none 0 0,F none 0 0].toArray 90 (0,0))) (hg:Gr U wx (λq=>q=w.heap.size)) (hx:wx.heap[w.heap.size]? = some (dE [vk,vn,vm].toArray 90 (0,0))):CutW w W wx:=
 ⟨vk,vn,vm,Kn,Km,h1,h2,hg.own o1 (λk hk=>by have:=(o1.lt k hk).1;omega),hg.own o2 (λk hk=>by have:=(o2.lt k hk).1;omega),hg.own o3 (λk hk=>by have:=(o3.lt k hk).1;omega),hx,hg.heap hz (by omega),hg.below hb (by have:=aA hz;omega) (λk hk=>by omega)⟩
theorem Zcm(ka kn kc K na nn nc L ma mn mc M)(w:World)(hK:Bk.TextsAt w ka kn K)(hN:NodsAt w na nn L)(hM:MsgsAt w ma mn M)(sK:SlOk ka kn kc)(sN:SlOk na nn nc)(sM:SlOk ma mn mc)(h1:kn<=4096)(h2:nn<=4)(h3:mn<=20)(hs:∀ y∈L,Zad y)(ht:∀ y∈M,J3 y) :
  Calls aB 188 #[.agg #[F ka kn kc,F na nn nc,F ma mn mc]] w λe w'=>∃ ka' kc' vn vm Kn Km,e = dF (.agg #[F ka' kn kc',vn,vm])/\WOn (λq=>q<w.heap.size+2) w' ka' kn kc' vn vm ⟨K,L,M⟩ Kn Km/\(∀ q,vn.ownBlock=some q->w.heap.size+2<=q)/\(∀ q,vm.ownBlock=some q->w.heap.size+2<=q)/\ZD w w':=by
 obtain⟨lK,-⟩:=id hK;obtain⟨lN,-⟩:=id hN;obtain⟨lM,-⟩:=id hM;subst lK lN lM;obtain⟨W,hW⟩:∃ W:WD,W=⟨K,L,M⟩:=⟨_,rfl⟩;rw[<-hW];obtain⟨rfl,rfl,rfl⟩:W.k=K/\W.n=L/\W.m=M:=by rw[hW];exact⟨rfl,rfl,rfl⟩
 clear hW;obtain⟨X,hX⟩:=ZG (Yv w [dE #[F ka W.k.length kc,F na W.n.length nc,F ma W.m.length mc] 90,dE #[F none 0 0,F none 0 0,F none 0 0] 90]);have es:X=(w.alloc (dE #[F ka W.k.length kc,F na W.n.length nc,F ma W.m.length mc] 90)).alloc (dE #[F none 0 0,F none 0 0,F none 0 0] 90):=hX;have dg:ZD w X:=by rw[hX];exact Zs _ _
 have et:X.heap.size=w.heap.size+2:=by rw[hX];exact Z0 _ _
 have df:=kl0 hX _ _ rfl;have az:=kl hX 1 _ _ rfl;obtain⟨ei,cc,en,da,fv,fu,C1⟩:=kh7 dg df az et hs ht (Tr.cloneStr_any ka W.k.length kc W.k X.drew h1 (hK.later (Zf dg (Zi X))) sK);have C2:=Zd (λV (hb:ZD w V)=>Tr.cloneNode_any na W.n.length nc W.n w V (by omega) hN hb sN);have C3:=Zd (λV (hb:ZD w V)=>Tr.cloneMsg_any ma W.m.length mc W.m w V (by omega) hM hb sM);obtain⟨x0,x1,x2,xl⟩:=kc3 df;clear dg df az hK hN hM sK sN sM hs ht et hX;go_enter func188,ntmps188
 go_upto_region 1 with fail
 rw[<-es];clear es
 go_cut [] from 7 to 20 (λwx=>Hid (CutW w W wx))
 case first=>
  go_region_with (first
   | (go_at_call 224;refine C1.mono ?_;rintro e w3 ⟨v1,rfl,br,ce⟩;have h30:=ZE ce cc;have d0:=Zb h30 0 _ rfl;have d1:=Zb h30 1 _ rfl;have d2:=Zb h30 2 _ rfl;have dl:=aA h30;have ej:Hid (w3.ownsRow (w.heap.size+2) 9 1 v1 W.k.length (W.k.map Value.string)):=Yo br (cO da.symm);have ef:=Zd (Zf (Zf ei (Zi _)) ce);have eg:=Zd (Zf (Zi X) ce);clear br ce h30)
   | (go_at_call 225;refine (C2 _ ef).mono ?_;rintro e w4 ⟨v2,K2,rfl,hA2,bs,cf⟩;have cx:=Zd (Zf eg cf);have h40:=ZE cx cc;have e0:=Zb h40 0 _ rfl;have e1:=Zb h40 1 _ rfl;have e2:=Zb h40 2 _ rfl;have jt:=aA h40;have fm:=Zd hA2;have ek:Hid (w4.ownsRow (w.heap.size+2) 67 4 v2 W.n.length K2.flatten):=Yo bs (by have:=eg.size;have:=Za da;omega);have fq:=Zd ((Gr.of (S:=λ_=>False) cf).own ej (λ_ _ q=>q));have eh:=Zd (Zf ef cf);clear hA2 bs cf h40)
   | (go_at_call 226;refine (C3 _ eh).mono ?_;rintro e w5 ⟨v3,K3,rfl,hA3,eu,af⟩;have dh:=Zf cx af;have h50:=ZE dh cc;have h51:=ZE dh en;have f0:=Zb h50 0 _ rfl;have f1:=Zb h50 1 _ rfl;have f2:=Zb h50 2 _ rfl;have z0:=Zg h50 0;have z1:=Zg h50 1;have z2:=Zg h50 2;have ju:=aA h50;have fo:=Zd hA3;have el:Hid (w5.ownsRow (w.heap.size+2) 106 12 v3 W.m.length K3.flatten):=Yo eu (by have:=cx.size;have:=Za da;omega);have fs:=Zd ((Gr.of (S:=λ_=>False) af).own fq (λ_ _ q=>q));have ft:=Zd ((Gr.of (S:=λ_=>False) af).own ek (λ_ _ q=>q));have fp:=Zd (Zf eh af);have fk:=Zd h50;have fl:=Zd h51;obtain⟨a3,c3,rfl,_,_⟩:=Zz el;obtain⟨a2,c2,rfl,_,_⟩:=Zz ek;obtain⟨a1,c1,rfl,_,_⟩:=Zz ej;clear hA3 eu af dh h50 h51))
  all_goals
   go_wp2_with fail;go_meet
   case rel=>
    exact Zor (U:=w5) fm fo fs ft el fp fl ((((Gr.refl w5 (λq=>q=w.heap.size)).one w.heap.size 0 (.inl rfl) _).one w.heap.size 1 (.inl rfl) _).one w.heap.size 2 (.inl rfl) _) (Tr.set_cells (Tr.set_cells (Tr.set_cells fk 0 _) 1 _) 2 _)
 case rest=>
  obtain⟨vk,vn,vm,K1,K2,hA1,hA2,cg,br,bs,h0,h1,hb⟩:=Za hcut;obtain⟨a0,c0,rfl,_,_⟩:=Zz cg;obtain⟨a1,c1,rfl,_,_⟩:=Zz br;obtain⟨a2,c2,rfl,_,_⟩:=Zz bs;obtain⟨G,hG⟩:=ZF (wc.heap.size);have gb:w.heap.size+2<=G:=by rw[<-hG];exact aA h1
  have ST:Hid (ClW w (w.heap.size+2) G W (F a0 W.k.length c0) (F a1 W.n.length c1) (F a2 W.m.length c2) K1 K2 0 0 wc):=
   ⟨cg,Tr.Cl.start br hA1 rfl (cO hG),Tr.Cl.start bs hA2 rfl (cO hG),h0,h1,hb,aF _,cO hG.symm,λq hq=>by have:=(cg.lt q hq).2;omega⟩
  obtain⟨-,fx,fz⟩:=kc2 h0;clear hcut hA1 hA2 cg br bs h0 h1 hb C1 C2 C3 cc en ei x0 x1 x2 xl hG;go_wp2
  go_loopw [24] (λi wr=>∃ (k:Nat) (K:List (List Value)),k<=W.n.length/\i = E J k/\Hid (ClW w (w.heap.size+2) G W (F a0 W.k.length c0) (F a1 W.n.length c1) (F a2 W.m.length c2) K K2 k 0 wr)) (λi _=>W.n.length - (intOf i).toNat)
  case atStart=>exact⟨0,K1,aI _,rfl,ST⟩
  case round=>
   obtain⟨k,K,hk,rfl,HC⟩:=hrel;clear ST fx fz;by_cases aw:k<W.n.length
   ·obtain⟨g,cap,ev,gc,gd,ac⟩:=HC.n.form (by omega);cases ev;have ad:k<K.length:=(by rw[(Za HC).n.len];exact aw);obtain⟨pa,pn,pc,pb,pm,pd,pp,pq,pr,eK,hI,hT,hP,sI,sT,sP⟩:=HC.n.old k aw ad (aF _);have ah:=fv _ (bE aw);obtain⟨x,hx⟩:=ZF (W.n[k]);rw[hx] at eK hI hT hP ah;obtain⟨x0,x1,x2,x3⟩:=x;simp only at eK hI hT hP;have bg:=HC.n.cell k ad 0 (by decide);have bh:=HC.n.cell k ad 1 (by decide);have bi:=HC.n.cell k ad 2 (by decide);have bj:=HC.n.cell k ad 3 (by decide);rw[eK] at bg bh bi bj;have r0:wr.cell? ⟨g,k*4,none⟩=some (F pa pn pc):=bg;have r1:wr.cell? ⟨g,k*4+1,none⟩=some (F pb pm pd):=bh;have r2:wr.cell? ⟨g,k*4+2,none⟩=some (F pp pq pr):=bi;have r3:wr.cell? ⟨g,k*4+3,none⟩=some (E J x3):=bj;clear bg bh bi bj;obtain⟨X1,az,ag,bz⟩:=ka00 wr [F pa pn pc,F pb pm pd,F pp pq pr,E J x3] 67;obtain⟨b0,b1,b2,b3,bl⟩:=kc4 bz;have t1:=Ze ag (Zb HC.b0 1 _ rfl);have tl:=aD (aA HC.b0) ag.size;have cy:=Zd ag;have av:=Zf (Zf HC.bel ag) (Zi _);have ga:pm=pn:=(by rw[<-hI.1,<-hT.1];exact ah.1.symm);subst ga;have CO:=Zd (Ps pa pb pp pm pc pd pq pr x0 x1 x2 x3 X1.drew (hI.later av) (hT.later av) (hP.later av) sI sT sP (by rw[<-hI.1];exact ah.2.1) ah.2.2.1 (by rw[<-hP.1];exact ah.2.2.2.1) ah.2.2.2.2)
    have NX:Hid (∀ w5 cs,ZD wr w5->Fresh X1.drew.heap.size w5 (λw2=>Tr.nodR.C w2 cs (x0,x1,x2,x3)) ->
      Hid (ClW w (w.heap.size+2) G W (F a0 W.k.length c0) (F (some ⟨g,0,none⟩) W.n.length c1) (F a2 W.m.length c2) (K.set k cs) K2 (k+1) 0 (Tr.setsW w5 g (k*4) cs))):=λw5 cs af aj=>
     HC.node aw af (by rw[hx];exact aj) (aN HC.g ag.size)
    have FR:=Zd (λj=>HC.n.free j);have cw:=Zd HC.b0;have gg:(k:Int)<(W.n.length:Int):=(by omega);clear hI hT hP sI sT sP ah hx eK ag bz av;go_wp2_with fail;rw[<-az];clear az
    go_region_with (go_at_call 171;refine CO.mono ?_;rintro e w5 ⟨ya,yc,yb,yd,yp,yr,rfl,aj,fd,fe,ff,af⟩;have ab:=Zf (Zf cy (Zi _)) af;have HN:=Zd (NX w5 [F ya pm yc,F yb pm yd,F yp pq yr,E J x3] ab (λw2 g2=>⟨ya,pm,yc,yb,pm,yd,yp,pq,yr,rfl,(aj w2 g2).1,(aj w2 g2).2.1,(aj w2 g2).2.2,fd,fe,ff⟩));have q1:=Ze af (Ze (Zi _) t1);have s0:=Ze ab r0;have u0:w5.frozen? ⟨g,k*4,none⟩=false:=(aM (a:=⟨g,k*4,none⟩) (ab.block g ac)).trans (FR _);have s1:=Ze ab r1;have u1:w5.frozen? ⟨g,k*4+1,none⟩=false:=(aM (a:=⟨g,k*4+1,none⟩) (ab.block g ac)).trans (FR _);have s2:=Ze ab r2;have u2:w5.frozen? ⟨g,k*4+2,none⟩=false:=(aM (a:=⟨g,k*4+2,none⟩) (ab.block g ac)).trans (FR _);have s3:=Ze ab r3;have u3:w5.frozen? ⟨g,k*4+3,none⟩=false:=(aM (a:=⟨g,k*4+3,none⟩) (ab.block g ac)).trans (FR _);have q4:=aD ac ab.size;have q5:=aD (aA cw) ab.size;clear aj af ab fd fe ff)
    all_goals
     go_wp2;go_roundw
     case rel=>exact⟨k+1,_,by omega,by go_num,Za HN⟩
     case measure=>simp[intOf];omega
   ·have e:k=W.n.length:=(by omega);subst e;have fy:=Zb HC.b0 2 _ rfl;have cl2:=aA HC.b0;go_wp2
    go_loopw [39] (λi wr=>∃ (j:Nat) (K2:List (List Value)),j<=W.m.length/\i = E J j/\Hid (ClW w (w.heap.size+2) G W (F a0 W.k.length c0) (F a1 W.n.length c1) (F a2 W.m.length c2) K K2 W.n.length j wr)) (λi _=>W.m.length - (intOf i).toNat)
    case atStart=>exact⟨0,K2,aI _,rfl,HC⟩
    case round=>
     obtain⟨k,K2,hk,rfl,HC⟩:=hrel;clear fy cl2;by_cases aw:k<W.m.length
     ·obtain⟨g,cap,ev,gc,gd,ac⟩:=HC.m.form (by omega);cases ev;have ad:k<K2.length:=(by rw[(Za HC).m.len];exact aw);obtain⟨pa,pn,pc,ia,js,ic,oa,om,oc,eK,hT,sT,hI,sI,hO,sO⟩:=HC.m.old k aw ad (aF _);have ah:=fu _ (bE aw);obtain⟨x,hx⟩:=ZF (W.m[k]);rw[hx] at eK hI hT hO ah;obtain⟨x0,x1,x2,x3,⟨y0,y1,y2,y3,y4⟩,z0,z1,z2⟩:=x;simp only at eK hI hT hO;have bg:=HC.m.cell k ad 0 (by decide);have bh:=HC.m.cell k ad 1 (by decide);have bi:=HC.m.cell k ad 2 (by decide);have bj:=HC.m.cell k ad 3 (by decide);have dx:=HC.m.cell k ad 4 (by decide);have dy:=HC.m.cell k ad 5 (by decide);have dz:=HC.m.cell k ad 6 (by decide);have ea:=HC.m.cell k ad 7 (by decide);have eb:=HC.m.cell k ad 8 (by decide);have ec:=HC.m.cell k ad 9 (by decide);have dv:=HC.m.cell k ad 10 (by decide);have dw:=HC.m.cell k ad 11 (by decide);rw[eK] at bg bh bi bj dx dy dz ea eb ec dv dw;have r0:wr.cell? ⟨g,k*12,none⟩=some (E J x0):=bg;have r1:wr.cell? ⟨g,k*12+1,none⟩=some (E J x1):=bh;have r2:wr.cell? ⟨g,k*12+2,none⟩=some (E J x2):=bi;have r3:wr.cell? ⟨g,k*12+3,none⟩=some (E J x3):=bj;have r4:wr.cell? ⟨g,k*12+4,none⟩=some (E J y0):=dx;have r5:wr.cell? ⟨g,k*12+5,none⟩=some (E J y1):=dy;have r6:wr.cell? ⟨g,k*12+6,none⟩=some (E J y2):=dz;have r7:wr.cell? ⟨g,k*12+7,none⟩=some (E J y3):=ea;have r8:wr.cell? ⟨g,k*12+8,none⟩=some (F pa pn pc):=eb;have r9:wr.cell? ⟨g,k*12+9,none⟩=some (E J z0):=ec
      have gs:wr.cell? ⟨g,k*12+10,none⟩=some (F ia js ic):=dv;have gu:wr.cell? ⟨g,k*12+11,none⟩=some (F oa om oc):=dw;clear bg bh bi bj dx dy dz ea eb ec dv dw;obtain⟨X1,az,ag,bz⟩:=ka00 wr [E J x0,E J x1,E J x2,E J x3,E J y0,E J y1,E J y2,E J y3,F pa pn pc,E J z0,F ia js ic,F oa om oc] 106;obtain⟨b0,b1,b2,b3,b4,b5,b6,b7,b8,b9,im,io,bl⟩:=kc12 bz;have t2:=Ze ag (Zb HC.b0 2 _ rfl);have tl:=aD (aA HC.b0) ag.size;have cy:=Zd ag;have av:=Zf (Zf HC.bel ag) (Zi _);have CO:=Zd (Es x0 x1 x2 x3 y0 y1 y2 y3 pa pn pc y4 z0 ia oa js ic om oc z1 z2 X1.drew (hT.later av) sT (by rw[<-hT.1];exact ah.1.1) ah.1.2 (hI.later av) (hO.later av) sI sO ah.2)
      have NX:Hid (∀ w5 cs,ZD wr w5->Fresh X1.drew.heap.size w5 (λw2=>Tr.msgR.C w2 cs (x0,x1,x2,x3,(y0,y1,y2,y3,y4),z0,z1,z2)) ->
        Hid (ClW w (w.heap.size+2) G W (F a0 W.k.length c0) (F a1 W.n.length c1) (F (some ⟨g,0,none⟩) W.m.length c2) K (K2.set k cs) W.n.length (k+1) (Tr.setsW w5 g (k*12) cs))):=λw5 cs af aj=>
       HC.msg aw af (by rw[hx];exact aj) (aN HC.g ag.size)
      have FR:=Zd (λj=>HC.m.free j);have cw:=Zd HC.b0;have gg:(k:Int)<(W.m.length:Int):=(by omega);clear hI hT hO sI sT sO ah hx eK ag bz av;go_wp2_with fail;rw[<-az];clear az
      go_region_with (go_at_call 227;refine CO.mono ?_;rintro e w5 ⟨ya,yc,yi,yj,yo,yp,rfl,aj,af⟩;have ab:=Zf (Zf cy (Zi _)) af;have HN:=Zd (NX w5 [E J x0,E J x1,E J x2,E J x3,E J y0,E J y1,E J y2,E J y3,F ya pn yc,E J z0,F yi js yj,F yo om yp] ab (λw2 g2=>Zdw (aj w2 g2).1 (aj w2 g2).2));have q1:=Ze af (Ze (Zi _) t2);have s0:=Ze ab r0;have u0:w5.frozen? ⟨g,k*12,none⟩=false:=(aM (a:=⟨g,k*12,none⟩) (ab.block g ac)).trans (FR _);have s1:=Ze ab r1;have u1:w5.frozen? ⟨g,k*12+1,none⟩=false:=(aM (a:=⟨g,k*12+1,none⟩) (ab.block g ac)).trans (FR _);have s2:=Ze ab r2;have u2:w5.frozen? ⟨g,k*12+2,none⟩=false:=(aM (a:=⟨g,k*12+2,none⟩) (ab.block g ac)).trans (FR _);have s3:=Ze ab r3;have u3:w5.frozen? ⟨g,k*12+3,none⟩=false:=(aM (a:=⟨g,k*12+3,none⟩) (ab.block g ac)).trans (FR _);have s4:=Ze ab r4;have u4:w5.frozen? ⟨g,k*12+4,none⟩=false:=(aM (a:=⟨g,k*12+4,none⟩) (ab.block g ac)).trans (FR _);have s5:=Ze ab r5;have u5:w5.frozen? ⟨g,k*12+5,none⟩=false:=(aM (a:=⟨g,k*12+5,none⟩) (ab.block g ac)).trans (FR _);have s6:=Ze ab r6;have u6:w5.frozen? ⟨g,k*12+6,none⟩=false:=(aM (a:=⟨g,k*12+6,none⟩) (ab.block g ac)).trans (FR _);have s7:=Ze ab r7;have u7:w5.frozen? ⟨g,k*12+7,none⟩=false:=(aM (a:=⟨g,k*12+7,none⟩) (ab.block g ac)).trans (FR _);have s8:=Ze ab r8;have u8:w5.frozen? ⟨g,k*12+8,none⟩=false:=(aM (a:=⟨g,k*12+8,none⟩) (ab.block g ac)).trans (FR _);have s9:=Ze ab r9;have u9:w5.frozen? ⟨g,k*12+9,none⟩=false:=(aM (a:=⟨g,k*12+9,none⟩) (ab.block g ac)).trans (FR _);have ji:=Ze ab gs;have u10:w5.frozen? ⟨g,k*12+10,none⟩=false:=(aM (a:=⟨g,k*12+10,none⟩) (ab.block g ac)).trans (FR _);have jj:=Ze ab gu;have u11:w5.frozen? ⟨g,k*12+11,none⟩=false:=(aM (a:=⟨g,k*12+11,none⟩) (ab.block g ac)).trans (FR _);have q4:=aD ac ab.size;have q5:=aD (aA cw) ab.size;clear aj af ab)
      all_goals
       go_wp2;go_roundw
       case rel=>exact⟨k+1,_,by omega,by go_num,Za HN⟩
       case measure=>simp[intOf];omega
     ·have e:k=W.m.length:=(by omega);subst e;have s0:=Zb HC.b0 0 _ rfl;have s1:=Zb HC.b0 1 _ rfl;have s2:=Zb HC.b0 2 _ rfl;have sl:=aA HC.b0;have y0:=Zb HC.b1 0 _ rfl;have y1:=Zb HC.b1 1 _ rfl;have y2:=Zb HC.b1 2 _ rfl;have z0:=Zg HC.b1 0;have z1:=Zg HC.b1 1;have z2:=Zg HC.b1 2;have yl:=aA HC.b1;go_wp2;(try simp only[aV,Exit.then]);have hG:=(((Gr.refl wr (λq=>q=w.heap.size+1)).one (w.heap.size+1) 0 (.inl rfl) (F a0 W.k.length c0)).one (w.heap.size+1) 1 (.inl rfl) (F a1 W.n.length c1)).one (w.heap.size+1) 2 (.inl rfl) (F a2 W.m.length c2);obtain⟨ka',kc',e1,gh,gi,gj⟩:=HC.on gb hG;cases e1;refine bB (v:=.agg #[F a0 W.k.length c0,F a1 W.n.length c1,F a2 W.m.length c2]) ?_ rfl ⟨_,_,_,_,_,_,rfl,gh,gi,gj,?_⟩
      ·rw[Qp rfl];go_simp
      ·exact hG.below HC.bel HC.bel.size (λq e=>by have e:q=w.heap.size+1:=e;omega)
