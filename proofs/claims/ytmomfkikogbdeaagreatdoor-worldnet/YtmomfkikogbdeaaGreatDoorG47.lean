import Derived.Test.YtmomfkikogbdeaaGreatDoorH
import Derived.Test.YtmomfkikogbdeaaGreatDoorG46
import Derived.Deep.SlicePairs
import Derived.HandedShaped
import Derived.LaidMore
import Derived.Stop.Joined
open Go.Proofs.Tryz
open Go renaming heap_alloc_new->aR,TypeId->bO,DataW->cM,MemPlace->bU
open Go.Act renaming put->aC
open Go.DataW renaming trod->aT,trod_int->aX
open Go.Ending renaming returned->cY
open Go.IntKind renaming i64->J
open Go.Obj renaming cells->cW
open Go.Proofs.Tryz renaming prog->aB,underlying48->cS,underlying3->aO
open Go.RowKit renaming Below->aD
open Go.Value renaming int->E,slice->F,bool->dB
open Go.World renaming block_lt_of_cell?->aF
open List renaming getElem_mem->bB,getElem?_eq_getElem->bI,mem_append->cH,length_take->bL
open List.cons renaming injEq->bJ
open Nat renaming le_trans->aS,lt_of_lt_of_le->aE,le_refl->aH,zero_le->aQ
namespace Go.Proofs.YtmomfkikogbdeaaGreatDoor
open Go.RowKit Classical
theorem WorldAt.later{w w':World}{W:WD}{ka na ma:Option Addr}{kn nn mn:Nat}(h:WorldAt w W ka kn na nn ma mn)(z:aD w.heap.size w w'):WorldAt w' W ka kn na nn ma mn:=⟨h.1.later z,h.2.1.later z,h.2.2.later z⟩
theorem Ki{W:WD}{i:Nat}{fr:Int}{b:Zl}(hi:i<W.n.length):(∃ nm D,ntR W.k W.n[i].1 W.n[i].2.1 W.n[i].2.2.1 W.n[i].2.2.2 b=(0,nm,D)/\W.told i fr b=W.put i D)\/(W.told i fr b).n=W.n:=by
 obtain⟨⟨x,nm,D⟩,z⟩:=ZF (ntR W.k W.n[i].1 W.n[i].2.1 W.n[i].2.2.1 W.n[i].2.2.2 b);unfold WD.told;rw[dif_pos hi];simp only[z];by_cases h0:x=0
 ·subst h0;exact .inl ⟨nm,D,rfl,by rw[if_pos rfl]⟩
 ·rw[if_neg h0];by_cases h5:x=5
  ·rw[if_pos h5];exact .inr (Ziw _ _).1
  ·rw[if_neg h5];exact .inr rfl
theorem Ac{W:WD}{i:Nat}{fr:Int}{b:Zl}(hi:i<W.n.length){s:Int}(Q:opN W.k W.n[i]=0)(hs:s∈W.n[i].1)(z:kbD W.k s b=true):W.told i fr b=W:=by
 unfold WD.told;rw[dif_pos hi];simp only[Ad (K:=W.k) (N:=W.n[i].1) (T:=W.n[i].2.1) (P:=W.n[i].2.2.1) (tip:=W.n[i].2.2.2) Q z hs];rw[if_neg (by decide),if_neg (by decide)]
theorem Zbq{m:U8}{n:Nat}(h:Ta m n=0)(h1:m.1=1):∃ ti:Nat,m.2.2.1=ti/\ti<n:=by
 unfold Ta at h;split at h
 ·exact absurd h (by decide)
 rename_i q
 have z:Ru m.2.2.1 n=true:=by
  cases e:Ru m.2.2.1 n
  ·exact absurd (.inr (.inl e)) q
  ·rfl
 unfold Ru at z;simp at z;exact⟨m.2.2.1.toNat,by omega,by omega⟩
set_option maxRecDepth 10000 in
set_option maxHeartbeats 12800000 in
theorem Lo(ka:Option Addr)(kn kc:Nat)(na:Option Addr)(nn nc:Nat)(ma:Option Addr)(mn mc:Nat)(W:WD)(k:Int)(w:World)(hE:Env w)(hW:WorldAt w W ka kn na nn ma mn)(sK:SlOk ka kn kc)(sN:SlOk na nn nc)(sM:SlOk ma mn mc)(fi:∀ y∈W.n,Qb y)(jo:∀ m∈W.m,V8 m) :
  ZH 13 #[.agg #[F ka kn kc,F na nn nc,F ma mn mc],E J k] w (dB true):=by
 obtain⟨X,hX⟩:=ZG (w.alloc (cW #[F ka kn kc,F na nn nc,F ma mn mc] 90));have z:Hid (aD w.heap.size w X):=by rw[hX];exact Zh _ _
 have HX:Hid (X.heap[w.heap.size]? = some (cW [F ka kn kc,F na nn nc,F ma mn mc].toArray 90 (0,0))):=by rw[hX];exact aR _ _
 obtain⟨x0,h0⟩:∃ x,Vv W.k W.n W.m=x:=⟨_,rfl⟩;have HE:=Zd hE;have HW:=Zd hW;have ns:=Zd fi;have bv:=Zd jo;have H0:=Zd h0;have MV:=Zd (λV (hv:aD w.heap.size w V)=>Zam V (hE.later hv));have C1:=Zd (λV (hv:aD w.heap.size w V)=>Kf ka kn kc W.k na nn nc W.n ma mn mc W.m x0 V (hE.later hv) (hW.later hv).1 (hW.later hv).2.1 (hW.later hv).2.2 fi h0);have lN:W.n.length=nn:=hW.2.1.1;have lM:W.m.length=mn:=hW.2.2.1;clear hE hW fi jo h0;go_enter func13,ntmps13
 go_upto_region 1 with fail
 rw[<-hX];clear hX;go_wp2_with fail;refine (MV X z).mono ?_;rintro e w1 ⟨rfl,ev⟩;have z:=onb z ev;have HX:=mvd ev HX;clear ev;obtain⟨z0,z1,z2,zl⟩:=cl3 HX;go_wp2_with fail;refine (C1 w1 z).mono ?_;rintro e w2 ⟨rfl,ew⟩;have z:=onb z ew;have HX:=mvd ew HX;clear ew C1 z0 z1 z2 zl;obtain⟨z0,z1,z2,zl⟩:=cl3 HX;by_cases hx:x0=0;rotate_left
 ·have gx:(x0 != 0)=true:=by simp[hx]
  go_wp2_with fail;refine (MV _ z).mono ?_;rintro e w9 ⟨rfl,dj⟩;have ek:=onb z dj;clear dj MV;go_wp2;go_ret;exact⟨rfl,Za ek⟩
 subst hx;by_cases lu:mn=0
 ·subst lu;go_wp2_with fail;refine (MV _ z).mono ?_;rintro e w9 ⟨rfl,dj⟩;have ek:=onb z dj;clear dj MV;go_wp2;go_ret;exact⟨rfl,Za ek⟩
 have gm:((mn:Int) == 0)=false:=by simp;omega
 have hc:=Za H0;obtain⟨c1,c2,c3,c4,c5,c6,c7⟩:=Yc hc;obtain⟨q,hq⟩:∃ q,mn=q+1:=⟨mn - 1,by omega⟩;have oa:IntKind.i64.wrap ((mn:Int) - 1)=(q:Int):=by rw[IntKind.wrap_i64] <;> omega
 obtain⟨m,hm,AT⟩:=Tr.at_is k mn (by omega) (by omega);have jb:=Zd AT;have bx:m<W.m.length:=by omega
 have nx:mn<=20:=by omega
 have HC:=Zd hc;have HQ:=Zd hq;have en:=Zd lN;have df:=Zd lM;clear AT hc MV H0 c1 c2 c3 c4 c5 c6 c7 hq lN lM;go_wp2_with fail;refine (jb w2).mono ?_;rintro e w3 ⟨rfl,rfl⟩;clear jb;have C:=Zd (Te ka kn kc na nn nc ma mn mc 4 0 0 m 0 0 0 none none 0 0 0 0 (W) 0 0 0 (W.lost m) w2 (HE.later z) (HW.later z).1 (HW.later z).2.1 (HW.later z).2.2 sK sN sM (λy hy=>Wy ((Yc HC).2.2.2.2.2.1 y hy)) bv HC (λ_=>Zax HC bx) (if_pos rfl));go_wp2_with fail;refine C.mono ?_;rintro e u1 ⟨hb,hr⟩
 rcases hr with ⟨hx,_⟩|⟨_,k1,kh,kf,n1,gb,ga,m1,fv,kk,rfl,hF,ob,oc,od⟩
 ·exact absurd rfl hx
 have ct:=Zd hF.now;obtain⟨y1,ef⟩:∃ Y,Y=u1.alloc (cW #[F k1 kh kf,F n1 gb ga,F m1 fv kk] 90):=⟨_,rfl⟩;have bd:aD u1.heap.size u1 y1:=by rw[ef];exact Zh _ _
 have iq:Hid (y1.heap[u1.heap.size]? = some (cW [F k1 kh kf,F n1 gb ga,F m1 fv kk].toArray 90 (0,0))):=by rw[ef];exact aR _ _
 have af:=Zf hb bd;have ct:=Zd (ct.later bd);have HX:=mvd af HX;have z:=onb z af;clear C hF hb bd af z0 z1 z2 zl
 go_upto_region 5 with fail
 rw[<-ef];clear ef;obtain⟨z0,z1,z2,zl⟩:=cl3 HX;have e1:nn=gb:=by rw[<-Za en];exact ct.2.1.1
 subst e1;have e1:q=fv:=by have:=Za HQ;have:=Za df;have:=ct.2.2.1;have e:(W.lost m).m.length=W.m.length - 1:=(by simp[WD.lost];omega);omega
 subst e1;have C:=Zd (Lh n1 na nn ga nc W.n y1 (aS sN.1 sN.2.1) ct.2.1 (HW.later z).2.1);obtain⟨d0,d1,d2,oq⟩:=cl3 iq;go_wp2_with fail;refine C.mono ?_;rintro e w4 ⟨rfl,ey⟩;have z:=onb z ey;have HX:=mvd ey HX;clear C ey d0 d1 d2 oq iq ct z0 z1 z2 zl;obtain⟨z0,z1,z2,zl⟩:=cl3 HX;obtain⟨x,fl⟩:=ZF (W.m[m]);have dy:=Zd fl;have jv:x∈W.m:=fl ▸ bB bx;have dz:=Zd jv;clear fl jv;by_cases hf:mn=20
 ·subst hf;have C:=Zd (Te ka kn kc na nn nc ma 20 mc 5 0 0 m 0 0 0 none none 0 0 0 0 W 0 12 12 (W.sent W.m[m]) w4 (HE.later z) (HW.later z).1 (HW.later z).2.1 (HW.later z).2.2 sK sN sM (λy hy=>Wy ((Yc HC).2.2.2.2.2.1 y hy)) bv HC (λ_=>Sd bx (bv _ (bB bx)) (if_pos df)) (if_pos rfl));go_wp2_with fail;refine C.mono ?_;rintro e u2 ⟨hb,hr⟩
  rcases hr with ⟨hx,rfl⟩|⟨hx,_⟩
  rotate_left
  ·exact absurd hx (by decide)
  obtain⟨y2,cf⟩:∃ Y,Y=u2.alloc (cW #[F none 0 0,F none 0 0,F none 0 0] 90):=⟨_,rfl⟩;have bd:aD u2.heap.size u2 y2:=by rw[cf];exact Zh _ _
  have af:=Zf hb bd;have HX:=mvd af HX;have z:=onb z af;clear C hb bd af z0 z1 z2 zl hx
  go_upto_region 8 with fail
  rw[<-cf];clear cf;obtain⟨z0,z1,z2,zl⟩:=cl3 HX;go_wp2;go_ret;exact⟨rfl,Za z⟩
 have dm:=Zfa HC dz (by rw[Za df];exact hf);obtain⟨Wd,eu⟩:∃ V,V=W.sent x:=⟨_,rfl⟩;rw[<-eu] at dm;obtain⟨dm,iz⟩:=dm;have dv:=Zd dm;have dg:=Zd iz;have eS:W.sent W.m[m]=Wd:=by rw[eu,Za dy]
 have ES:=Zd eS;clear dm iz eS eu;have C:=Zd (Te ka kn kc na nn nc ma mn mc 5 0 0 m 0 0 0 none none 0 0 0 0 (W) 0 0 0 (Wd) w4 (HE.later z) (HW.later z).1 (HW.later z).2.1 (HW.later z).2.2 sK sN sM (λy hy=>Wy ((Yc HC).2.2.2.2.2.1 y hy)) bv HC (λ_=>(by rw[<-Za ES];exact Sd bx (bv _ (bB bx)) (if_neg (by rw[Za df];exact hf)))) (if_pos rfl));go_wp2_with fail;refine C.mono ?_;rintro e u2 ⟨hb,hr⟩
 rcases hr with ⟨hx,_⟩|⟨_,k2,fp,fo,n2,gf,gd,m2,fx,fw,rfl,hF,lx,ly,lz⟩
 ·exact absurd rfl hx
 have cg:=Zd hF.now;obtain⟨y2,cf⟩:∃ Y,Y=u2.alloc (cW #[F k2 fp fo,F n2 gf gd,F m2 fx fw] 90):=⟨_,rfl⟩;have bd:aD u2.heap.size u2 y2:=by rw[cf];exact Zh _ _
 have dt:Hid (y2.heap[u2.heap.size]? = some (cW [F k2 fp fo,F n2 gf gd,F m2 fx fw].toArray 90 (0,0))):=by rw[cf];exact aR _ _
 have af:=Zf hb bd;have cg:=Zd (cg.later bd);have HX:=mvd af HX;have z:=onb z af;clear C hF hb bd af z0 z1 z2 zl
 go_upto_region 8 with fail
 rw[<-cf];clear cf;obtain⟨z0,z1,z2,zl⟩:=cl3 HX;have jk:=(HW.later z).2.2;obtain⟨om,go,er,_,dn⟩:=jk.2 (by omega);subst er;have cp:=dn m bx;rw[Za dy] at cp;obtain⟨kd,ff⟩:∃ d,x.1=d:=⟨_,rfl⟩;have g0:y2.cell? ⟨om,go+m*12,none⟩=some (E J kd):=by rw[<-ff];exact cp.1
 have gl:=aF _ _ g0;have nw:(m:Int)<(mn:Int):=by omega
 have el:=Zd ff;clear jk dn cp ff;by_cases jg:kd=1;rotate_left
 ·have gk:(kd != 1)=true:=by simp[jg]
  go_wp2;go_ret;exact⟨rfl,Za z⟩
 subst jg;obtain⟨ti,es,fj⟩:=Zbq ((Yc HC).2.2.2.2.2.2 x dz) el;have fa:m<Wd.m.length:=by rw[Za dg];simp;omega
 have fc:Wd.m[m]=x:=by
  have h:Wd.m=W.m++[x]:=by rw[Za dg]
  have h2:Wd.m[m]? = some x:=by rw[h,List.getElem?_append_left bx,bI bx,Za dy]
  rw[bI fa] at h2;injection h2
 have fb:Wd.n=W.n:=by rw[Za dg]
 have jf:ti<Wd.n.length:=by rw[fb];exact fj
 obtain⟨V3,et⟩:∃ V,(Wd.lost m).told ti x.2.1 x.2.2.2.2.1=V:=⟨_,rfl⟩;have kz:Hid (Hp (.agg #[E J 3,E J 0,E J 0,E J m,E J 0,E J 0,E J 0,F none 0 0,F none 0 0]) Wd 0 V3):=Qq dv fa (by rw[fc];exact⟨Za el,es⟩) jf (by rw[fc];exact et)
 have je:∀ y∈Wd.m,V8 y:=λy hy=>by
  rw[Za dg] at hy
  rcases cH.1 hy with hy|hy
  ·exact bv y hy
  ·rw[List.mem_singleton.1 hy];exact bv x dz
 have lc:=Zd je;have dx:=Zd et;have iw:=Zd es;have cq:=Zd fb;have dw:=Zd fj;clear je et es fb jf fc fa fj;obtain⟨p0,p1,p2,pl⟩:=cl3 dt;have C:=Zd (Te k2 fp fo n2 gf gd m2 fx fw 3 0 0 m 0 0 0 none none 0 0 0 0 (Wd) 0 0 0 (V3) y2 (HE.later z) cg.1 cg.2.1 cg.2.2 lx ly lz (λy hy=>Wy ((Yc dv).2.2.2.2.2.1 y hy)) lc dv (λ_=>Za kz) (if_pos rfl));go_wp2_with fail;refine C.mono ?_;rintro e u3 ⟨hb,hr⟩
 rcases hr with ⟨hx,_⟩|⟨_,k3,dq,ej,n3,bz,cz,m3,fz,fy,rfl,hF,ic,id,nf⟩
 ·exact absurd rfl hx
 have bj:=Zd hF.now;obtain⟨y3,eg⟩:∃ Y,Y=u3.alloc (cW #[F k3 dq ej,F n3 bz cz,F m3 fz fy] 90):=⟨_,rfl⟩;have bd:aD u3.heap.size u3 y3:=by rw[eg];exact Zh _ _
 have bu:Hid (y3.heap[u3.heap.size]? = some (cW [F k3 dq ej,F n3 bz cz,F m3 fz fy].toArray 90 (0,0))):=by rw[eg];exact aR _ _
 have af:=Zf hb bd;have bj:=Zd (bj.later bd);have HX:=mvd af HX;have dt:=mvd af dt;have cg:=Zd (cg.later af);have z:=onb z af;clear C hF hb bd af z0 z1 z2 zl
 go_upto_region 13 with fail
 rw[<-eg];clear eg;obtain⟨z0,z1,z2,zl⟩:=cl3 HX;clear p0 p1 p2 pl g0 gl dt
 have jc:V3.n.length=W.n.length:=by
  rcases Ki (W:=Wd.lost m) (i:=ti) (fr:=x.2.1) (b:=x.2.2.2.2.1) (by show ti<Wd.n.length;rw[Za cq];exact Za dw) with ⟨nm,D,_,e⟩|e
  ·rw[<-Za dx,e];show (Wd.n.set ti _).length=_;rw[List.length_set,Za cq]
  ·rw[<-Za dx,e];show Wd.n.length=_;rw[Za cq]
 have jr:=Za dw;have dp:ti<V3.n.length:=by rw[jc];exact jr
 have ed:=(HW.later z);obtain⟨_,_,er,_,dn⟩:=ed.2.2.2 (by omega);cases er;have cp:=dn m bx;rw[Za dy] at cp;have g2:y3.cell? ⟨om,go+m*12+2,none⟩=some (E J ti):=by rw[<-Za iw];exact cp.2.2.1
 have gl:=aF _ _ g2;obtain⟨ol,oo,lr,_,jm⟩:=ed.2.1.2 (by have:=ed.2.1.1;omega);subst lr;obtain⟨qa,qn,qc,qb,qm,qd,qp,qq,qr,v0,v1,v2,v3,iN,iT,iP,nj,nk,nr⟩:=jm ti jr;obtain⟨rb,ro,lq,_,jn⟩:=bj.2.1.2 (by have:=bj.2.1.1;omega);subst lq;obtain⟨ra,rn,rc,rd,rm,re,rp,rq,rr,t0,t1,t2,t3,jN,jT,jP,kv,kw,kx⟩:=jn ti dp;obtain⟨o,ho⟩:=ZF (decide (V3.n[ti]=W.n[ti]));have vl:=aF _ _ v0;have tl:=aF _ _ t0;have hd:=Zi y3;have CS:=Zd (Do ra rd rp rn rc rm re rq rr V3.n[ti].1 V3.n[ti].2.1 V3.n[ti].2.2.1 V3.n[ti].2.2.2 qa qb qp qn qc qm qd qq qr W.n[ti].1 W.n[ti].2.1 W.n[ti].2.2.1 W.n[ti].2.2.2 o y3.drew (jN.later hd) (jT.later hd) (jP.later hd) kv kw kx (iN.later hd) (iT.later hd) (iP.later hd) ho);have lv:bz=nn:=by have h:=bj.2.1.1;have:=Za en;omega
 have ny:(ti:Int)<(nn:Int):=by have:=Za en;omega
 subst lv;obtain⟨d0,d1,d2,oq⟩:=cl3 bu;obtain⟨ut,jt⟩:∃ v,V3.n[ti].2.2.2=v:=⟨_,rfl⟩;obtain⟨wt,ju⟩:∃ v,W.n[ti].2.2.2=v:=⟨_,rfl⟩;rw[jt] at t3 CS;rw[ju] at v3 CS;have HO:=Zd ho;clear ed dn cp jm iN iT iP nj nk nr jn jN jT jP kv kw kx hd ho jt ju jc;have KS:Hid (∀ U:World,aD y3.heap.size y3 U->((U.cell? ⟨u3.heap.size,1,none⟩=some (F (some ⟨rb,ro,none⟩) bz cz)/\u3.heap.size<U.heap.size)/\(U.cell? ⟨w.heap.size,1,none⟩=some (F (some ⟨ol,oo,none⟩) bz nc)/\U.cell? ⟨w.heap.size,2,none⟩=some (F (some ⟨om,go,none⟩) mn mc)/\w.heap.size<U.heap.size)/\(U.cell? ⟨om,go+m*12+2,none⟩=some (E J ti)/\om<U.heap.size)/\(U.cell? ⟨rb,ro+ti*4,none⟩=some (F ra rn rc)/\U.cell? ⟨rb,ro+ti*4+1,none⟩=some (F rd rm re)/\U.cell? ⟨rb,ro+ti*4+2,none⟩=some (F rp rq rr)/\U.cell? ⟨rb,ro+ti*4+3,none⟩=some (E J ut)/\rb<U.heap.size)/\(U.cell? ⟨ol,oo+ti*4,none⟩=some (F qa qn qc)/\U.cell? ⟨ol,oo+ti*4+1,none⟩=some (F qb qm qd)/\U.cell? ⟨ol,oo+ti*4+2,none⟩=some (F qp qq qr)/\U.cell? ⟨ol,oo+ti*4+3,none⟩=some (E J wt)/\ol<U.heap.size))):=λU hu=>⟨⟨Ze hu d1,aE oq hu.size⟩,⟨Ze hu z1,Ze hu z2,aE zl hu.size⟩,⟨Ze hu g2,aE gl hu.size⟩,⟨Ze hu t0,Ze hu t1,Ze hu t2,Ze hu t3,aE tl hu.size⟩,Ze hu v0,Ze hu v1,Ze hu v2,Ze hu v3,aE vl hu.size⟩;clear d0 d1 d2 oq t0 t1 t2 t3 tl v0 v1 v2 v3 vl g2 gl z0 z1 z2 zl
 go_upto_region 15 with fail
 go_cut [109] from 89 to 108 (λlw wx=>lw = dB o/\Hid (aD y3.heap.size y3 wx))
 case first=>
  refine wp_region_held_drew (S:=λU=>((U.cell? ⟨u3.heap.size,1,none⟩=some (F (some ⟨rb,ro,none⟩) bz cz)/\u3.heap.size<U.heap.size)/\(U.cell? ⟨w.heap.size,1,none⟩=some (F (some ⟨ol,oo,none⟩) bz nc)/\U.cell? ⟨w.heap.size,2,none⟩=some (F (some ⟨om,go,none⟩) mn mc)/\w.heap.size<U.heap.size)/\(U.cell? ⟨om,go+m*12+2,none⟩=some (E J ti)/\om<U.heap.size)/\(U.cell? ⟨rb,ro+ti*4,none⟩=some (F ra rn rc)/\U.cell? ⟨rb,ro+ti*4+1,none⟩=some (F rd rm re)/\U.cell? ⟨rb,ro+ti*4+2,none⟩=some (F rp rq rr)/\U.cell? ⟨rb,ro+ti*4+3,none⟩=some (E J ut)/\rb<U.heap.size)/\(U.cell? ⟨ol,oo+ti*4,none⟩=some (F qa qn qc)/\U.cell? ⟨ol,oo+ti*4+1,none⟩=some (F qb qm qd)/\U.cell? ⟨ol,oo+ti*4+2,none⟩=some (F qp qq qr)/\U.cell? ⟨ol,oo+ti*4+3,none⟩=some (E J wt)/\ol<U.heap.size))) (by kernel_rfl) (KS _ (Zi y3)) (λae=>?_);refine tk 0 ⟨some 89,.fieldAddr 90 (.tmp 8) 1,0, "more.go:261",#[],none⟩ ?_ rfl ?_ ae ?_;rotate_left
  ·(intro U Q;obtain⟨⟨q0,q1⟩,⟨q2,q3,q4⟩,⟨q5,q6⟩,⟨q7,q8,q9,aj,ak⟩,al,am,an,ap,aq⟩:=Q;go_simp;first|done|with_reducible rfl)
  (try simp only[aC,ZA,ZB,ZC]);refine tk 1 ⟨some 90,.load 87 (.tmp 89),87, "more.go:261",#[⟨0,.data⟩],none⟩ ?_ rfl ?_ ae ?_;rotate_left
  ·(intro U Q;obtain⟨⟨q0,q1⟩,⟨q2,q3,q4⟩,⟨q5,q6⟩,⟨q7,q8,q9,aj,ak⟩,al,am,an,ap,aq⟩:=Q;go_simp;first|done|with_reducible rfl)
  (try simp only[aC,ZA,ZB,ZC]);refine tk 2 ⟨some 91,.fieldAddr 90 (.tmp 2) 2,0, "more.go:261",#[],none⟩ ?_ rfl ?_ ae ?_;rotate_left
  ·(intro U Q;obtain⟨⟨q0,q1⟩,⟨q2,q3,q4⟩,⟨q5,q6⟩,⟨q7,q8,q9,aj,ak⟩,al,am,an,ap,aq⟩:=Q;go_simp;first|done|with_reducible rfl)
  (try simp only[aC,ZA,ZB,ZC]);refine tk 3 ⟨some 92,.load 88 (.tmp 91),88, "more.go:261",#[⟨2,.data⟩],none⟩ ?_ rfl ?_ ae ?_;rotate_left
  ·(intro U Q;obtain⟨⟨q0,q1⟩,⟨q2,q3,q4⟩,⟨q5,q6⟩,⟨q7,q8,q9,aj,ak⟩,al,am,an,ap,aq⟩:=Q;go_simp;first|done|with_reducible rfl)
  (try simp only[aC,ZA,ZB,ZC]);refine tk 4 ⟨some 93,.move (.tmp 1),3, "more.go:261",#[],none⟩ ?_ rfl ?_ ae ?_;rotate_left
  ·(intro U Q;obtain⟨⟨q0,q1⟩,⟨q2,q3,q4⟩,⟨q5,q6⟩,⟨q7,q8,q9,aj,ak⟩,al,am,an,ap,aq⟩:=Q;go_simp;first|done|with_reducible rfl)
  (try simp only[aC,ZA,ZB,ZC]);refine tk 5 ⟨some 94,.indexAddr 88 (.tmp 92) (.tmp 93),0, "more.go:261",#[⟨3,.data⟩,⟨4,.data⟩],none⟩ ?_ rfl ?_ ae ?_;rotate_left
  ·(intro U Q;obtain⟨⟨q0,q1⟩,⟨q2,q3,q4⟩,⟨q5,q6⟩,⟨q7,q8,q9,aj,ak⟩,al,am,an,ap,aq⟩:=Q;go_simp;first|done|with_reducible rfl)
  (try simp only[aC,ZA,ZB,ZC]);refine tk 6 ⟨some 95,.fieldAddr 106 (.tmp 94) 2,0, "more.go:261",#[⟨5,.data⟩],none⟩ ?_ rfl ?_ ae ?_;rotate_left
  ·(intro U Q;obtain⟨⟨q0,q1⟩,⟨q2,q3,q4⟩,⟨q5,q6⟩,⟨q7,q8,q9,aj,ak⟩,al,am,an,ap,aq⟩:=Q;go_simp;first|done|with_reducible rfl)
  (try simp only[aC,ZA,ZB,ZC]);refine tk 7 ⟨some 96,.load 3 (.tmp 95),3, "more.go:261",#[⟨6,.data⟩],none⟩ ?_ rfl ?_ ae ?_;rotate_left
  ·(intro U Q;obtain⟨⟨q0,q1⟩,⟨q2,q3,q4⟩,⟨q5,q6⟩,⟨q7,q8,q9,aj,ak⟩,al,am,an,ap,aq⟩:=Q;go_simp;first|done|with_reducible rfl)
  (try simp only[aC,ZA,ZB,ZC]);refine tk 8 ⟨some 97,.indexAddr 87 (.tmp 90) (.tmp 96),0, "more.go:261",#[⟨1,.data⟩,⟨7,.data⟩],none⟩ ?_ rfl ?_ ae ?_;rotate_left
  ·(intro U Q;obtain⟨⟨q0,q1⟩,⟨q2,q3,q4⟩,⟨q5,q6⟩,⟨q7,q8,q9,aj,ak⟩,al,am,an,ap,aq⟩:=Q;go_simp;first|done|with_reducible rfl)
  (try simp only[aC,ZA,ZB,ZC]);refine tk 9 ⟨some 98,.load 67 (.tmp 97),67, "more.go:261",#[⟨8,.data⟩],none⟩ ?_ rfl ?_ ae ?_;rotate_left
  ·(intro U Q;obtain⟨⟨q0,q1⟩,⟨q2,q3,q4⟩,⟨q5,q6⟩,⟨q7,q8,q9,aj,ak⟩,al,am,an,ap,aq⟩:=Q;go_simp;first|done|with_reducible rfl)
  (try simp only[aC,ZA,ZB,ZC]);refine tk 10 ⟨some 99,.fieldAddr 90 (.tmp 2) 1,0, "more.go:261",#[],none⟩ ?_ rfl ?_ ae ?_;rotate_left
  ·(intro U Q;obtain⟨⟨q0,q1⟩,⟨q2,q3,q4⟩,⟨q5,q6⟩,⟨q7,q8,q9,aj,ak⟩,al,am,an,ap,aq⟩:=Q;go_simp;first|done|with_reducible rfl)
  (try simp only[aC,ZA,ZB,ZC]);refine tk 11 ⟨some 100,.load 87 (.tmp 99),87, "more.go:261",#[⟨10,.data⟩],none⟩ ?_ rfl ?_ ae ?_;rotate_left
  ·(intro U Q;obtain⟨⟨q0,q1⟩,⟨q2,q3,q4⟩,⟨q5,q6⟩,⟨q7,q8,q9,aj,ak⟩,al,am,an,ap,aq⟩:=Q;go_simp;first|done|with_reducible rfl)
  (try simp only[aC,ZA,ZB,ZC]);refine tk 12 ⟨some 101,.fieldAddr 90 (.tmp 2) 2,0, "more.go:261",#[],none⟩ ?_ rfl ?_ ae ?_;rotate_left
  ·(intro U Q;obtain⟨⟨q0,q1⟩,⟨q2,q3,q4⟩,⟨q5,q6⟩,⟨q7,q8,q9,aj,ak⟩,al,am,an,ap,aq⟩:=Q;go_simp;first|done|with_reducible rfl)
  (try simp only[aC,ZA,ZB,ZC]);refine tk 13 ⟨some 102,.load 88 (.tmp 101),88, "more.go:261",#[⟨12,.data⟩],none⟩ ?_ rfl ?_ ae ?_;rotate_left
  ·(intro U Q;obtain⟨⟨q0,q1⟩,⟨q2,q3,q4⟩,⟨q5,q6⟩,⟨q7,q8,q9,aj,ak⟩,al,am,an,ap,aq⟩:=Q;go_simp;first|done|with_reducible rfl)
  (try simp only[aC,ZA,ZB,ZC]);refine tk 14 ⟨some 103,.move (.tmp 1),3, "more.go:261",#[],none⟩ ?_ rfl ?_ ae ?_;rotate_left
  ·(intro U Q;obtain⟨⟨q0,q1⟩,⟨q2,q3,q4⟩,⟨q5,q6⟩,⟨q7,q8,q9,aj,ak⟩,al,am,an,ap,aq⟩:=Q;go_simp;first|done|with_reducible rfl)
  (try simp only[aC,ZA,ZB,ZC]);refine tk 15 ⟨some 104,.indexAddr 88 (.tmp 102) (.tmp 103),0, "more.go:261",#[⟨13,.data⟩,⟨14,.data⟩],none⟩ ?_ rfl ?_ ae ?_;rotate_left
  ·(intro U Q;obtain⟨⟨q0,q1⟩,⟨q2,q3,q4⟩,⟨q5,q6⟩,⟨q7,q8,q9,aj,ak⟩,al,am,an,ap,aq⟩:=Q;go_simp;first|done|with_reducible rfl)
  (try simp only[aC,ZA,ZB,ZC]);refine tk 16 ⟨some 105,.fieldAddr 106 (.tmp 104) 2,0, "more.go:261",#[⟨15,.data⟩],none⟩ ?_ rfl ?_ ae ?_;rotate_left
  ·(intro U Q;obtain⟨⟨q0,q1⟩,⟨q2,q3,q4⟩,⟨q5,q6⟩,⟨q7,q8,q9,aj,ak⟩,al,am,an,ap,aq⟩:=Q;go_simp;first|done|with_reducible rfl)
  (try simp only[aC,ZA,ZB,ZC]);refine tk 17 ⟨some 106,.load 3 (.tmp 105),3, "more.go:261",#[⟨16,.data⟩],none⟩ ?_ rfl ?_ ae ?_;rotate_left
  ·(intro U Q;obtain⟨⟨q0,q1⟩,⟨q2,q3,q4⟩,⟨q5,q6⟩,⟨q7,q8,q9,aj,ak⟩,al,am,an,ap,aq⟩:=Q;go_simp;first|done|with_reducible rfl)
  (try simp only[aC,ZA,ZB,ZC]);refine tk 18 ⟨some 107,.indexAddr 87 (.tmp 100) (.tmp 106),0, "more.go:261",#[⟨11,.data⟩,⟨17,.data⟩],none⟩ ?_ rfl ?_ ae ?_;rotate_left
  ·(intro U Q;obtain⟨⟨q0,q1⟩,⟨q2,q3,q4⟩,⟨q5,q6⟩,⟨q7,q8,q9,aj,ak⟩,al,am,an,ap,aq⟩:=Q;go_simp;first|done|with_reducible rfl)
  (try simp only[aC,ZA,ZB,ZC]);refine tk 19 ⟨some 108,.load 67 (.tmp 107),67, "more.go:261",#[⟨18,.data⟩],none⟩ ?_ rfl ?_ ae ?_;rotate_left
  ·(intro U Q;obtain⟨⟨q0,q1⟩,⟨q2,q3,q4⟩,⟨q5,q6⟩,⟨q7,q8,q9,aj,ak⟩,al,am,an,ap,aq⟩:=Q;go_simp;first|done|with_reducible rfl)
  (try simp only[aC,ZA,ZB,ZC]);refine wpAnyH_ready (rs:=[20]) (by kernel_rfl) (by simp) ?_;refine AllReadyH.cons (o:=⟨some 109,.call { callee:=Callee.value (.func 50),args:=#[.tmp 98,.tmp 108],argTypes:=#[67,67] },4, "more.go:261",#[⟨9,.data⟩,⟨19,.data⟩],none⟩) rfl (λKQ hK=>?_) AllReadyH.nil;refine Zm (by kernel_rfl) 50 _ (by kernel_rfl) CS ?_;rintro e w5 ⟨rfl,ec⟩;refine⟨_,rfl,?_⟩;have ec:=Zf (Zi y3) ec;refine hK.out _ _ (KS _ ec) (λix=>?_);clear hK KQ ae;have ae:=ix;clear ix;(try simp only[aC,ZA,ZB,ZC]);refine wpAnyH_done (by kernel_rfl) ?_ _;clear ae;go_wp2_with fail;go_meet
  case rel=>exact⟨rfl,ec⟩
 case rest=>
  obtain⟨rfl,HR⟩:=hcut;have dk:=Za HR;have HX:=mvd dk HX;have bu:=mvd dk bu;have bj:=Zd (bj.later dk);have z:=onb z dk;clear dk HR KS CS;cases o;rotate_left
  ·go_wp2;go_ret;exact⟨rfl,Za z⟩
  have fe:ti<(Wd.lost m).n.length:=by show ti<Wd.n.length;rw[Za cq];exact Za dw
  obtain⟨nm,D,js,eV⟩:∃ nm D,ntR (Wd.lost m).k (Wd.lost m).n[ti].1 (Wd.lost m).n[ti].2.1 (Wd.lost m).n[ti].2.2.1 (Wd.lost m).n[ti].2.2.2 x.2.2.2.2.1=(0,nm,D)/\V3=(Wd.lost m).put ti D:=by
   rcases Ki (W:=Wd.lost m) (i:=ti) (fr:=x.2.1) (b:=x.2.2.2.2.1) (by show ti<Wd.n.length;rw[Za cq];exact Za dw) with ⟨nm,D,h,e⟩|e
   ·exact⟨nm,D,h,by rw[<-Za dx,e]⟩
   ·have e3:V3.n=W.n:=(by rw[<-Za dx,e];exact Za cq);have:=Za HO;exact absurd (by simp only[e3]) (of_decide_eq_false this)
  obtain⟨dl,sx,jp,ji⟩:=Zhx (Zfb dv m) fe js;rw[<-eV] at dl;have jh:V3.k=D.k:=by rw[eV];rfl
  have jl:V3.n[ti]=(D.n,D.t,D.p,D.tip):=by
   have h:V3.n=(Wd.lost m).n.set ti (D.n,D.t,D.p,D.tip):=(by rw[eV];rfl);have h2:V3.n[ti]? = some (D.n,D.t,D.p,D.tip):=(by rw[h];exact List.getElem?_set_self fe);rw[bI dp] at h2;injection h2
  have ee:V3.m=W.m.take m++W.m.drop (m+1)++[x]:=by
   have h:V3.m=Wd.m.take m++Wd.m.drop (m+1):=(by rw[eV];rfl);have h2:Wd.m=W.m++[x]:=(by rw[Za dg]);rw[h,h2,List.take_append_of_le_length (by omega),List.drop_append_of_le_length (by omega),List.append_assoc]
  have hq:=Za HQ;have ls:=Za df;have jj:(W.m.take m++W.m.drop (m+1)).length=q:=by simp;omega
  have fh:q<V3.m.length:=by rw[ee];simp;omega
  have fk:V3.m[q]=x:=by
   have h2:V3.m[q]? = some x:=(by rw[ee,List.getElem?_append_right (by omega),jj];simp);rw[bI fh] at h2;injection h2
  have jq:(V3.lost q).told ti x.2.1 x.2.2.2.2.1=V3.lost q:=Ac (W:=V3.lost q) (i:=ti) (s:=sx) dp ((Yc dl).2.2.2.2.2.1 _ (bB dp)) (by show sx∈V3.n[ti].1;rw[jl];exact jp) (by show kbD V3.k sx _=true;rw[jh];exact ji);have la:Hid (Hp (.agg #[E J 3,E J 0,E J 0,E J q,E J 0,E J 0,E J 0,F none 0 0,F none 0 0]) V3 0 (V3.lost q)):=Qq dl fh (by rw[fk];exact⟨Za el,Za iw⟩) dp (by rw[fk];exact jq);have ir:=Zd dl
  have ld:Hid (∀ y∈V3.m,V8 y):=λy hy=>by
   rw[ee] at hy
   rcases cH.1 hy with hy|hy
   ·rcases cH.1 hy with hy|hy
    ·exact bv y (List.mem_of_mem_take hy)
    ·exact bv y (List.mem_of_mem_drop hy)
   ·rw[List.mem_singleton.1 hy];exact bv x dz
  clear js eV fe dl jp ji jh jl ee hq ls jj fh fk jq HO;obtain⟨z0,z1,z2,zl⟩:=cl3 HX;obtain⟨p0,p1,p2,pl⟩:=cl3 bu;have C:=Zd (Te k3 dq ej (some ⟨rb,ro,none⟩) bz cz m3 fz fy 3 0 0 q 0 0 0 none none 0 0 0 0 (V3) 0 0 0 (V3.lost q) wc (HE.later z) bj.1 bj.2.1 bj.2.2 ic id nf (λy hy=>Wy ((Yc ir).2.2.2.2.2.1 y hy)) ld ir (λ_=>Za la) (if_pos rfl));go_wp2_with fail;refine C.mono ?_;rintro e u4 ⟨hb,hr⟩
  rcases hr with ⟨hx,_⟩|⟨_,k4,ft,fs,n4,gi,gh,m4,km,kl,rfl,hF,oe,og,oh⟩
  ·exact absurd rfl hx
  have cu:=Zd hF.now;obtain⟨y4,eh⟩:∃ Y,Y=u4.alloc (cW #[F k4 ft fs,F n4 gi gh,F m4 km kl] 90):=⟨_,rfl⟩;have bd:aD u4.heap.size u4 y4:=by rw[eh];exact Zh _ _
  have du:Hid (y4.heap[u4.heap.size]? = some (cW [F k4 ft fs,F n4 gi gh,F m4 km kl].toArray 90 (0,0))):=by rw[eh];exact aR _ _
  have af:=Zf hb bd;have cu:=Zd (cu.later bd);have HX:=mvd af HX;have bu:=mvd af bu;have bj:=Zd (bj.later af);have z:=onb z af;clear C hF hb bd af z0 z1 z2 zl
  go_upto_region 18 with fail
  rw[<-eh];clear eh;obtain⟨z0,z1,z2,zl⟩:=cl3 HX;have e4:bz=gi:=by rw[<-(Za cu).2.1.1,<-(Za bj).2.1.1];rfl
  subst e4;have e4:dq=ft:=by rw[<-(Za cu).1.1,<-(Za bj).1.1];rfl
  subst e4;have C:=Zd (Lh n4 (some ⟨rb,ro,none⟩) bz gh cz V3.n y4 (aS id.1 id.2.1) cu.2.1 bj.2.1);have CB:=Zd (λV (hv:aD y4.heap.size y4 V)=>Nq k4 k3 dq fs ej V3.k V (aS ic.1 ic.2.1) (cu.later hv).1 (bj.later hv).1);clear p0 p1 p2 pl;obtain⟨p0,p1,p2,pl⟩:=cl3 bu;obtain⟨d0,d1,d2,oq⟩:=cl3 du;go_wp2_with fail;refine C.mono ?_;rintro e w6 ⟨rfl,di⟩;have z:=onb z di;have bu:=mvd di bu;have du:=mvd di du;have CC:=Zd (CB w6 di);clear C CB di p0 p1 p2 pl d0 d1 d2 oq z0 z1 z2 zl;obtain⟨p0,p1,p2,pl⟩:=cl3 bu;obtain⟨d0,d1,d2,oq⟩:=cl3 du;go_wp2_with fail;refine CC.mono ?_;rintro e w7 ⟨rfl,jd⟩;have z:=onb z jd;clear CC jd;go_wp2;go_ret;exact⟨rfl,Za z⟩
open Go.ChangeShapes Go.WideShapes Go.ChangeAt Go.RowKit
theorem own:ownKnob Tryz.prog.godebug=none:=by kernel_rfl
theorem S8:laidOutB aB=true:=by kernel_rfl
theorem Tryz.cellsOp:Tryz.prog.cellsOf 164=2:=by kernel_rfl
theorem Tryz.cells3:Tryz.prog.cellsOf 3=1:=by kernel_rfl
theorem Rr{H:Type}{enc:bO×Value->H}{W:World}{sp:Nat->Bool}{held:Bool}{fuel:Nat}{a:Option Addr}{len cap:Nat}{x:cM H×List bU}
  (h:aT enc aB W 0 sp held fuel 48 [F a len cap]=some x):(∃ l,OpsAt W a len l)/\(a=none->len=0/\cap=0):=by
 rcases Deep.open_slice_pairs cS underlying164 Tryz.cellsOp rfl rfl Tryz.cells3 Tryz.cells3 h with ⟨z,_⟩|⟨b,l,c,m,n,V0,V1,D0,D1,P0,P1,z,_,hl,_,hm,_,ae⟩
 ·simp at z;obtain⟨rfl,rfl,rfl⟩:=z;exact⟨⟨[],rfl,λh=>absurd h (by omega)⟩,λ_=>⟨rfl,rfl⟩⟩
 ·simp at z;obtain⟨rfl,rfl,rfl⟩:=z;refine⟨?_,λh=>by cases h⟩;have ax:len<=m:=by rw[hm];split <;> omega
  have each:∀ i,i<len->∃ q:Int×Int,W.cell? (b.add (i*2))=some (.int .i64 q.1)/\W.cell? (b.add (i*2+1))=some (.int .i64 q.2):=λi hi=>by
   obtain⟨h1,h2,t1,t2⟩:=ae i (by omega);obtain⟨z1,e1,_,_⟩:=aX aO t1;obtain⟨z2,e2,_,_⟩:=aX aO t2;simp only[bJ,and_true] at e1 e2;exact⟨(z1,z2),by rw[h1,e1],by rw[h2,e2]⟩
  obtain⟨f,hf⟩:=Deep.choose_lt each;refine⟨(List.range len).map f,by simp,λag=>?_⟩;obtain⟨Q,off,aj⟩:=b;have ah:aj=none:=by simpa[Addr.add] using World.cell?_spot (hf 0 ag).1
  subst ah;refine⟨Q,off,rfl,λi hi=>?_⟩;have ac:∀ j,(⟨Q,off,none⟩:Addr).add j=⟨Q,off+j,none⟩:=λj=>by unfold Addr.add;split <;> simp_all
  have h1:=hf i hi;rw[ac,ac] at h1;rw[<-Nat.add_assoc] at h1;simpa[hi] using h1
theorem Tryz.cellsTx:Tryz.prog.cellsOf 59=3:=by kernel_rfl
theorem Tryz.cellsIn:Tryz.prog.cellsOf 119=3:=by kernel_rfl
theorem Tryz.cellsOut:Tryz.prog.cellsOf 122=2:=by kernel_rfl
theorem Tryz.cellsPoint:Tryz.prog.cellsOf 117=2:=by kernel_rfl
theorem Tryz.cellsOps:Tryz.prog.cellsOf 48=1:=by kernel_rfl
theorem Tryz.cellsIns:Tryz.prog.cellsOf 56=1:=by kernel_rfl
theorem Tryz.cellsOuts:Tryz.prog.cellsOf 57=1:=by kernel_rfl
theorem list_two{cs:List Value}(h:cs.length=2):∃ a b,cs=[a,b]:=by
 match cs,h with
 | [a,b],_=>exact⟨a,b,rfl⟩
theorem list_three{cs:List Value}(h:cs.length=3):∃ a b c,cs=[a,b,c]:=by
 match cs,h with
 | [a,b,c],_=>exact⟨a,b,c,rfl⟩
section
variable {H : Type} {enc : TypeId × Value -> H} {W : World} {sp : Nat -> Bool} {held : Bool} {fuel : Nat}
theorem ops_full{v:Value}{x:cM H×List bU}(h:aT enc aB W 0 sp held fuel 48 [v]=some x):∃ a n c l,v = F a n c/\OpsAt W a n l/\SlOk a n c:=by
 have h':=h
 rcases Deep.open_slice cS h with ⟨z,_⟩|⟨b,l,c,m,n,D,Pl,z,_,hl,hm,_⟩
 ·simp at z;subst z;exact⟨none,0,0,[],rfl,⟨rfl,λh=>absurd h (by omega)⟩,aH _,aQ _,λ_=>⟨rfl,rfl⟩⟩
 ·simp at z;subst z;obtain⟨⟨L,Q⟩,_⟩:=Rr h';exact⟨some b,l,c,L,rfl,Q,hl,hm,λh=>by cases h⟩
theorem C8{cs:List Value}{x:cM H×List bU}(h:aT enc aB W 0 sp held fuel 119 cs=some x):∃ z Q a n c l,cs=[.int .i64 z,.int .i64 Q,F a n c]/\OpsAt W a n l/\SlOk a n c:=by
 obtain⟨y0,y1,k,_,hl,h0,h1⟩:=trod_struct2 underlying119 h;rw[Tryz.cellsIn] at hl;obtain⟨c0,c1,c2,rfl⟩:=list_three hl;simp[Tryz.cellsPoint,Tryz.cellsOps] at h0 h1;obtain⟨z0,z1,k2,_,_,g0,g1⟩:=trod_struct2 underlying117 h0;simp[Tryz.cells3] at g0 g1;obtain⟨z,e1,_,_⟩:=aX aO g0;obtain⟨Q,e2,_,_⟩:=aX aO g1;obtain⟨a,n,c,l,rfl,hO,hS⟩:=ops_full h1;simp only[bJ,and_true] at e1 e2;subst e1 e2;exact⟨z,Q,a,n,c,l,rfl,hO,hS⟩
theorem Dc{cs:List Value}{x:cM H×List bU}(h:aT enc aB W 0 sp held fuel 122 cs=some x):∃ z a n c l,cs=[.int .i64 z,F a n c]/\OpsAt W a n l/\SlOk a n c:=by
 obtain⟨y0,y1,k,_,hl,h0,h1⟩:=trod_struct2 underlying122 h;rw[Tryz.cellsOut] at hl;obtain⟨c0,c1,rfl⟩:=list_two hl;simp[Tryz.cells3,Tryz.cellsOps] at h0 h1;obtain⟨z,Q,_,_⟩:=aX aO h0;obtain⟨a,n,c,l,rfl,hO,hS⟩:=ops_full h1;simp only[bJ,and_true] at Q;subst Q;exact⟨z,a,n,c,l,rfl,hO,hS⟩
end
namespace Bk
open Go.ChangeShapes Go.WideShapes Go.ChangeAt Go.RowKit
theorem own:ownKnob Tryz.prog.godebug=none:=by kernel_rfl
theorem S8:laidOutB aB=true:=by kernel_rfl
theorem Tryz.cells9:Tryz.prog.cellsOf 9=1:=by kernel_rfl
theorem Tryz.cellsStrs:Tryz.prog.cellsOf 22=1:=by kernel_rfl
theorem Tryz.cellsBook:Tryz.prog.cellsOf 24=1:=by kernel_rfl
section
variable {H : Type} {enc : TypeId × Value -> H} {W : World} {sp : Nat -> Bool} {held : Bool} {fuel : Nat}
theorem Eu{v:Value}{x:cM H×List bU}(h:aT enc aB W 0 sp held fuel 22 [v]=some x) :
  ∃ a n c L,v = F a n c/\TextsAt W a n L/\SlOk a n c/\(n=0\/∃ aa aj,x.1 = .slice aa aj/\aa.length=n):=by
 rcases Deep.open_strs underlying22 underlying9 Tryz.cells9 h with ⟨z,_⟩|⟨b,l,c,m,Sx,z,_,hl,hm,ag,hx,ab⟩
 ·simp at z;subst z;exact⟨none,0,0,[],rfl,TextsAt.nil _ _,SlOk.nil,Or.inl rfl⟩
 ·simp at z;subst z;have an:l<=m:=by rw[ag];split <;> omega
  refine⟨some b,l,c,(List.range l).map Sx,rfl,⟨by simp,λap=>?_⟩,⟨hl,hm,λh=>by cases h⟩,Or.inr ⟨_,_,by rw[hx],by simp⟩⟩;obtain⟨Q,off,ak⟩:=b;have z0:=(ab 0 (by omega)).1;have ah:ak=none:=by simpa[Addr.add] using World.cell?_spot z0
  subst ah;have ad:∀ j,(⟨Q,off,none⟩:Addr).add j=⟨Q,off+j,none⟩:=λj=>by unfold Addr.add;split <;> simp_all
  refine⟨Q,off,rfl,λi hi=>?_⟩;have am:i<l:=by simpa using hi
  have q:=(ab i (by omega)).1;rw[ad] at q;rw[List.getElem_map,List.getElem_range];exact q
theorem book_full{cs:List Value}{x:cM H×List bU}(h:aT enc aB W 0 sp held fuel 24 cs=some x):∃ a n c L,cs=[F a n c]/\TextsAt W a n L/\SlOk a n c:=by
 obtain⟨y0,k,_,z,h0⟩:=trod_struct1 underlying24 h;rw[Tryz.cellsBook] at z;obtain⟨c0,rfl⟩:=List.length_eq_one_iff.1 z;simp[Tryz.cellsStrs] at h0;obtain⟨a,n,c,L,rfl,hT,Q,_⟩:=Eu h0;exact⟨a,n,c,L,rfl,hT,Q⟩
end
end Bk
open Go.ChangeShapes Go.WideShapes Go.ChangeAt Go.RowKit
theorem Tryz.cellsBlk:Tryz.prog.cellsOf 39=5:=by kernel_rfl
theorem Tryz.cellsTxs:Tryz.prog.cellsOf 37=1:=by kernel_rfl
theorem list_five{cs:List Value}(h:cs.length=5):∃ a b c d e,cs=[a,b,c,d,e]:=by
 match cs,h with
 | [a,b,c,d,e],_=>exact⟨a,b,c,d,e,rfl⟩
section
variable {H : Type} {enc : TypeId × Value -> H} {W : World} {sp : Nat -> Bool} {held : Bool} {fuel : Nat}
theorem Rf{t:bO}{z Q f2 f3 f4:Field}{cs:List Value}{x:cM H×List bU}(ht:Tryz.prog.underlying t=some (.struct #[z,Q,f2,f3,f4]))(h:aT enc aB W 0 sp held fuel t cs=some x) :
  ∃ y0 y1 y2 y3 y4 n,cs.length=Tryz.prog.cellsOf t/\aT enc aB W 0 sp held n z.type ((cs.drop z.offset).take (Tryz.prog.cellsOf z.type))=some y0 /\
   aT enc aB W 0 sp held n Q.type ((cs.drop Q.offset).take (Tryz.prog.cellsOf Q.type))=some y1/\aT enc aB W 0 sp held n f2.type ((cs.drop f2.offset).take (Tryz.prog.cellsOf f2.type))=some y2 /\
   aT enc aB W 0 sp held n f3.type ((cs.drop f3.offset).take (Tryz.prog.cellsOf f3.type))=some y3/\aT enc aB W 0 sp held n f4.type ((cs.drop f4.offset).take (Tryz.prog.cellsOf f4.type))=some y4:=by
 obtain⟨xs,n,_,rfl,hl,al,hf⟩:=DataW.trod_struct ht h
 match xs,al with
 | [y0,y1,y2,y3,y4],_=>exact⟨y0,y1,y2,y3,y4,n,hl,by simpa using hf 0 z rfl,by simpa using hf 1 Q rfl,by simpa using hf 2 f2 rfl,by simpa using hf 3 f3 rfl,by simpa using hf 4 f4 rfl⟩
end
set_option maxRecDepth 100000 in
theorem Mb{H:Type}{enc:bO×Value->H}{os:Os}{f:FuncId}{fn:Func}{s:ChangeSpec}{X:World->Prop}(hX:∀ w w':World,w.heap=w'.heap->X w->X w')
  (ap:os.Started) (an:Tryz.checked.prog.inits.idxOf? f=none) (ag:Tryz.checked.prog.funcs[f]? = some fn)
  (aq:∃ (w:World) (tape:Tape) (i:Input),w.os=os/\(w.forCall tape i).Shaped Tryz.checked.prog/\i.vars=[]/\Input.okWide Tryz.checked.prog (w.forCall tape i) .any w.heap.size f i /\
   ((s.pre enc Tryz.checked.prog fn [] false (w.forCall tape i).memory i.args/\X (w.forCall tape i).memory)/\sizedMet enc Tryz.checked.prog fn (OpenSpec.ofChange s) false (w.forCall tape i).memory i.args)/\({}:Assume).holds Tryz.checked.prog (lone (Frame.enter Tryz.checked.prog f i.args .normal) [] (w.forCall tape i)))
  (ac:∀ (W:World) (base:Nat) (args:Array Value) (z Q:List (cM H)) (aa:List bU),
   (∀ (j:Nat) t v,fn.params[j]? = some t->args[j]? = some v->Value.okWide Tryz.checked.prog W .any base t v) ->
   DataW.Whole enc Tryz.checked.prog fn.params.toList s.vars false W args.toList z Q aa->X W->(DataW.weightsEach Tryz.checked.prog (fn.params.toList++s.plain.varTypes Tryz.checked.prog) (z++Q)).all (·<=reachBytes)=true ->
   Calls Tryz.checked.prog f args W λe W'=>∃ v,e = cY v/\s.post enc Tryz.checked.prog fn false true false false W args v W') :
  ReturnsInHanded {} Tryz.checked os f .any (λw args=>(s.pre enc Tryz.checked.prog fn [] false w args/\X w)/\sizedMet enc Tryz.checked.prog fn (OpenSpec.ofChange s) false w args) (s.post enc Tryz.checked.prog fn false true false false):=by
 refine returnsInHanded_of_calls own ap an aq ?_;intro w tape i _ _ _ aj ak _;obtain⟨_,_,_,ad,ah,_,_,_,_,al⟩:=aj;obtain rfl:ad=fn:=Option.some.inj (ah.symm.trans ag);obtain⟨⟨⟨z,Q,aa,hw,_⟩,hx⟩,hz⟩:=ak;refine (ac (w.forCall tape i) w.heap.size i.args z Q aa al (DataW.Whole.of_heap (w':=w.forCall tape i) (by rfl) hw) (hX _ _ (by rfl) hx) (hz.weights hw)).mono λe W' ⟨v,he,hp⟩=>?_;subst he;exact ChangeSpec.post_blind hp
namespace Lf
open Go.ChangeShapes Go.WideShapes Go.ChangeAt Go.RowKit
theorem own:ownKnob Tryz.prog.godebug=none:=by kernel_rfl
theorem S8:laidOutB aB=true:=by kernel_rfl
theorem Lv{H:Type}{enc:bO×Value->H}{w:World}{base:Nat}{sp:Nat->Bool}{held:Bool}{fuel:Nat}{t:bO}{n:Nat}{cs:List Value}{ss:List (List UInt8)}{p:List bU}
  (ht:Tryz.prog.underlying t=some (.array n 9)) (ac:Tryz.prog.cellsOf t=n) (h9:Tryz.prog.cellsOf 9=1)
  (h:aT enc aB w base sp held fuel t cs=some (.agg (ss.map λb=>.lit (.string b)),p)):cs=ss.map λb=>Value.string ⟨b.toArray⟩:=by
 obtain⟨xs,m,rfl,hx,hl,hn,ad⟩:=DataW.trod_array ht h;rw[ac] at hl;simp only[Prod.mk.injEq,DataW.agg.injEq] at hx
 have aj:ss.length=n:=by
  have:=congrArg List.length hx.1;simp at this;omega
 apply List.ext_getElem?
 intro i;by_cases hi:i<n
 ·have z:=ad i hi;rw[h9,Nat.mul_one] at z;have aa:i<xs.length:=by omega
  rw[bI aa] at z;obtain⟨s,hc,hy,_⟩:=DataW.trod_string underlying9 z
  have h1:cs[i]? = some (.string s):=by
   have:=congrArg (·[0]?) hc;simpa[List.getElem?_take,List.getElem?_drop] using this
  have h2:(xs.map (·.1))[i]? = some (.lit (.string s.data.toList)):=by
   rw[List.getElem?_map,bI aa,hy];rfl
  rw[<-hx.1] at h2;have Q:i<ss.length:=by omega
  simp only[List.getElem?_map,bI Q,Option.map_some,Option.some.injEq,DataW.lit.injEq,Lit.string.injEq] at h2;rw[h1,List.getElem?_map,bI Q,h2];rfl
 ·rw[List.getElem?_eq_none (by omega),List.getElem?_eq_none (by simp;omega)]
def namesBytes:List (List UInt8):=namesL.map (·.data.toList)
theorem Tryz.tNam:(Tryz.prog.globals[1]?).map (·.type)=some 378:=by kernel_rfl
theorem Tryz.tTab:(Tryz.prog.globals[2]?).map (·.type)=some 381:=by kernel_rfl
theorem Tryz.cellsNam:Tryz.prog.cellsOf 378=14:=by kernel_rfl
theorem Tryz.cellsTab:Tryz.prog.cellsOf 381=20:=by kernel_rfl
theorem Tryz.cells9:Tryz.prog.cellsOf 9=1:=by kernel_rfl
theorem Tryz.cellsU64:Tryz.prog.cellsOf 284=1:=by kernel_rfl
theorem names_of_laid{H:Type}{enc:bO×Value->H}{w:World}{base:Nat}{sp:Nat->Bool}{held:Bool}{fuel:Nat}{cs:Array Value}{p:List bU}(Q:w.var? aB "cairn/lock.names" = some cs)
  (h:aT enc aB w base sp held fuel 378 cs.toList=some (Rows.laid_cairn_lock_names,p)):w.var? aB "cairn/lock.names" = some Az:=by
 have e:=Lv (ss:=namesBytes) underlying378 Tryz.cellsNam Tryz.cells9 h;rw[Q]
 congr 1
 obtain⟨l⟩:=cs;have z:l=namesBytes.map λb=>Value.string ⟨b.toArray⟩:=e;rw[z];rfl
theorem tab_of_laid{H:Type}{enc:bO×Value->H}{w:World}{base:Nat}{sp:Nat->Bool}{held:Bool}{fuel:Nat}{cs:Array Value}{p:List bU}(Q:w.var? aB "internal/strconv.uint64pow10" = some cs)
  (h:aT enc aB w base sp held fuel 381 cs.toList=some (Rows.laid_internal_strconv_uint64pow10,p)):Lib.TabIs aB w "internal/strconv.uint64pow10" .u64 Lib.pow10Tab:=by
 have e:=Lib.cells_of_tab (zs:=Lib.pow10Tab) underlying381 underlying284 Tryz.cellsU64 Tryz.cellsTab h;unfold Lib.TabIs;rw[Q]
 congr 1
 obtain⟨l⟩:=cs;have z:l=Lib.pow10Tab.map λab=>Value.int .u64 ab:=e;rw[z]
theorem Tryz.cellsOp:Tryz.prog.cellsOf 164=2:=by kernel_rfl
theorem Tryz.cells3:Tryz.prog.cellsOf 3=1:=by kernel_rfl
theorem Rr{H:Type}{enc:bO×Value->H}{W:World}{sp:Nat->Bool}{held:Bool}{fuel:Nat}{a:Option Addr}{len cap:Nat}{x:cM H×List bU}
  (h:aT enc aB W 0 sp held fuel 48 [F a len cap]=some x):(∃ l,OpsAt W a len l)/\(a=none->len=0/\cap=0):=by
 rcases Deep.open_slice_pairs cS underlying164 Tryz.cellsOp rfl rfl Tryz.cells3 Tryz.cells3 h with ⟨z,_⟩|⟨b,l,c,m,n,V0,V1,D0,D1,P0,P1,z,_,hl,_,hm,_,ae⟩
 ·simp at z;obtain⟨rfl,rfl,rfl⟩:=z;exact⟨⟨[],rfl,λh=>absurd h (by omega)⟩,λ_=>⟨rfl,rfl⟩⟩
 ·simp at z;obtain⟨rfl,rfl,rfl⟩:=z;refine⟨?_,λh=>by cases h⟩;have ax:len<=m:=by rw[hm];split <;> omega
  have each:∀ i,i<len->∃ q:Int×Int,W.cell? (b.add (i*2))=some (.int .i64 q.1)/\W.cell? (b.add (i*2+1))=some (.int .i64 q.2):=λi hi=>by
   obtain⟨h1,h2,t1,t2⟩:=ae i (by omega);obtain⟨z1,e1,_,_⟩:=aX aO t1;obtain⟨z2,e2,_,_⟩:=aX aO t2;simp only[bJ,and_true] at e1 e2;exact⟨(z1,z2),by rw[h1,e1],by rw[h2,e2]⟩
  obtain⟨f,hf⟩:=Deep.choose_lt each;refine⟨(List.range len).map f,by simp,λag=>?_⟩;obtain⟨Q,off,aj⟩:=b;have ah:aj=none:=by simpa[Addr.add] using World.cell?_spot (hf 0 ag).1
  subst ah;refine⟨Q,off,rfl,λi hi=>?_⟩;have ac:∀ j,(⟨Q,off,none⟩:Addr).add j=⟨Q,off+j,none⟩:=λj=>by unfold Addr.add;split <;> simp_all
  have h1:=hf i hi;rw[ac,ac] at h1;rw[<-Nat.add_assoc] at h1;simpa[hi] using h1
end Go.Proofs.YtmomfkikogbdeaaGreatDoor.Lf
namespace Go.Proofs.YtmomfkikogbdeaaGreatDoor.Tr
open Go.ChangeShapes Go.WideShapes Go.ChangeAt Go.RowKit
theorem own:ownKnob Tryz.prog.godebug=none:=by kernel_rfl
theorem S8:laidOutB aB=true:=by kernel_rfl
theorem Tryz.cellsOp:Tryz.prog.cellsOf 164=2:=by kernel_rfl
theorem Tryz.cells3:Tryz.prog.cellsOf 3=1:=by kernel_rfl
theorem Rr{H:Type}{enc:bO×Value->H}{W:World}{sp:Nat->Bool}{held:Bool}{fuel:Nat}{a:Option Addr}{len cap:Nat}{x:cM H×List bU}
  (h:aT enc aB W 0 sp held fuel 48 [F a len cap]=some x):(∃ l,OpsAt W a len l)/\(a=none->len=0/\cap=0):=by
 rcases Deep.open_slice_pairs cS underlying164 Tryz.cellsOp rfl rfl Tryz.cells3 Tryz.cells3 h with ⟨z,_⟩|⟨b,l,c,m,n,V0,V1,D0,D1,P0,P1,z,_,hl,_,hm,_,ae⟩
 ·simp at z;obtain⟨rfl,rfl,rfl⟩:=z;exact⟨⟨[],rfl,λh=>absurd h (by omega)⟩,λ_=>⟨rfl,rfl⟩⟩
 ·simp at z;obtain⟨rfl,rfl,rfl⟩:=z;refine⟨?_,λh=>by cases h⟩;have ax:len<=m:=by rw[hm];split <;> omega
  have each:∀ i,i<len->∃ q:Int×Int,W.cell? (b.add (i*2))=some (.int .i64 q.1)/\W.cell? (b.add (i*2+1))=some (.int .i64 q.2):=λi hi=>by
   obtain⟨h1,h2,t1,t2⟩:=ae i (by omega);obtain⟨z1,e1,_,_⟩:=aX aO t1;obtain⟨z2,e2,_,_⟩:=aX aO t2;simp only[bJ,and_true] at e1 e2;exact⟨(z1,z2),by rw[h1,e1],by rw[h2,e2]⟩
  obtain⟨f,hf⟩:=Deep.choose_lt each;refine⟨(List.range len).map f,by simp,λag=>?_⟩;obtain⟨Q,off,aj⟩:=b;have ah:aj=none:=by simpa[Addr.add] using World.cell?_spot (hf 0 ag).1
  subst ah;refine⟨Q,off,rfl,λi hi=>?_⟩;have ac:∀ j,(⟨Q,off,none⟩:Addr).add j=⟨Q,off+j,none⟩:=λj=>by unfold Addr.add;split <;> simp_all
  have h1:=hf i hi;rw[ac,ac] at h1;rw[<-Nat.add_assoc] at h1;simpa[hi] using h1
theorem Tryz.cellsTx:Tryz.prog.cellsOf 59=3:=by kernel_rfl
theorem Tryz.cellsIn:Tryz.prog.cellsOf 119=3:=by kernel_rfl
theorem Tryz.cellsOut:Tryz.prog.cellsOf 122=2:=by kernel_rfl
theorem Tryz.cellsPoint:Tryz.prog.cellsOf 117=2:=by kernel_rfl
theorem Tryz.cellsOps:Tryz.prog.cellsOf 48=1:=by kernel_rfl
theorem Tryz.cellsIns:Tryz.prog.cellsOf 56=1:=by kernel_rfl
theorem Tryz.cellsOuts:Tryz.prog.cellsOf 57=1:=by kernel_rfl
theorem list_two{cs:List Value}(h:cs.length=2):∃ a b,cs=[a,b]:=by
 match cs,h with
 | [a,b],_=>exact⟨a,b,rfl⟩
theorem list_three{cs:List Value}(h:cs.length=3):∃ a b c,cs=[a,b,c]:=by
 match cs,h with
 | [a,b,c],_=>exact⟨a,b,c,rfl⟩
theorem Tryz.cellsBlk:Tryz.prog.cellsOf 39=5:=by kernel_rfl
theorem Tryz.cellsTree:Tryz.prog.cellsOf 28=2:=by kernel_rfl
theorem Tryz.cellsTxs:Tryz.prog.cellsOf 37=1:=by kernel_rfl
theorem Tryz.cellsBlks:Tryz.prog.cellsOf 26=1:=by kernel_rfl
theorem Tryz.cellsInts:Tryz.prog.cellsOf 25=1:=by kernel_rfl
theorem list_five{cs:List Value}(h:cs.length=5):∃ a b c d e,cs=[a,b,c,d,e]:=by
 match cs,h with
 | [a,b,c,d,e],_=>exact⟨a,b,c,d,e,rfl⟩
section
variable {H : Type} {enc : TypeId × Value -> H} {W : World} {sp : Nat -> Bool} {held : Bool} {fuel : Nat}
theorem ops_full{v:Value}{x:cM H×List bU}(h:aT enc aB W 0 sp held fuel 48 [v]=some x):∃ a n c l,v = F a n c/\OpsAt W a n l/\SlOk a n c:=by
 have h':=h
 rcases Deep.open_slice cS h with ⟨z,_⟩|⟨b,l,c,m,n,D,Pl,z,_,hl,hm,_⟩
 ·simp at z;subst z;exact⟨none,0,0,[],rfl,⟨rfl,λh=>absurd h (by omega)⟩,aH _,aQ _,λ_=>⟨rfl,rfl⟩⟩
 ·simp at z;subst z;obtain⟨⟨L,Q⟩,_⟩:=Rr h';exact⟨some b,l,c,L,rfl,Q,hl,hm,λh=>by cases h⟩
theorem C8{cs:List Value}{x:cM H×List bU}(h:aT enc aB W 0 sp held fuel 119 cs=some x):∃ z Q a n c l,cs=[.int .i64 z,.int .i64 Q,F a n c]/\OpsAt W a n l/\SlOk a n c:=by
 obtain⟨y0,y1,k,_,hl,h0,h1⟩:=trod_struct2 underlying119 h;rw[Tryz.cellsIn] at hl;obtain⟨c0,c1,c2,rfl⟩:=list_three hl;simp[Tryz.cellsPoint,Tryz.cellsOps] at h0 h1;obtain⟨z0,z1,k2,_,_,g0,g1⟩:=trod_struct2 underlying117 h0;simp[Tryz.cells3] at g0 g1;obtain⟨z,e1,_,_⟩:=aX aO g0;obtain⟨Q,e2,_,_⟩:=aX aO g1;obtain⟨a,n,c,l,rfl,hO,hS⟩:=ops_full h1;simp only[bJ,and_true] at e1 e2;subst e1 e2;exact⟨z,Q,a,n,c,l,rfl,hO,hS⟩
theorem Dc{cs:List Value}{x:cM H×List bU}(h:aT enc aB W 0 sp held fuel 122 cs=some x):∃ z a n c l,cs=[.int .i64 z,F a n c]/\OpsAt W a n l/\SlOk a n c:=by
 obtain⟨y0,y1,k,_,hl,h0,h1⟩:=trod_struct2 underlying122 h;rw[Tryz.cellsOut] at hl;obtain⟨c0,c1,rfl⟩:=list_two hl;simp[Tryz.cells3,Tryz.cellsOps] at h0 h1;obtain⟨z,Q,_,_⟩:=aX aO h0;obtain⟨a,n,c,l,rfl,hO,hS⟩:=ops_full h1;simp only[bJ,and_true] at Q;subst Q;exact⟨z,a,n,c,l,rfl,hO,hS⟩
theorem Q8{α : Type}[Inhabited α](Z:Rec α){ts t:bO}(hu:Tryz.prog.underlying ts=some (.slice t))(hc:Tryz.prog.cellsOf t=Z.sz)(ag:0<Z.sz)
  (ar:∀ (fuel:Nat) (cs:List Value) (x:cM H×List bU),aT enc aB W 0 sp held fuel t cs=some x->∃ y,Z.C W cs y)
  {v:Value} {x:cM H×List bU} (h:aT enc aB W 0 sp held fuel ts [v]=some x):∃ a n c l,v = F a n c/\RowsAt Z.R Z.sz W a n l/\SlOk a n c:=by
 rcases Deep.open_slice hu h with ⟨z,_⟩|⟨b,l,c,m,n,D,Pl,z,_,hl,hm,ay,_,aq⟩
 ·simp at z;subst z;exact⟨none,0,0,[],rfl,RowsAt.nil _ _,aH _,aQ _,λ_=>⟨rfl,rfl⟩⟩
 ·simp at z;subst z;have bi:l<=m:=by rw[ay];split <;> omega
  have each:∀ i,i<l->∃ q : α,∃ cs,(∀ j,j<Z.sz->W.cell? (b.add (i*Z.sz+j))=cs[j]?)/\Z.C W cs q:=λi hi=>by
   obtain⟨aj,h1,h2⟩:=aq i (by omega);rw[hc] at h1;obtain⟨_,_,ap⟩:=World.cells?_some h1;obtain⟨y,hy⟩:=ar _ _ _ h2;exact⟨y,aj,λj Q=>by rw[<-ap j Q,Deep.add_add],hy⟩
  obtain⟨f,hf⟩:=Deep.choose_lt each;refine⟨some b,l,c,(List.range l).map f,rfl,⟨by simp,λaz=>?_⟩,hl,hm,λh=>by cases h⟩;obtain⟨bj,off,bg⟩:=b;have ae:∀ j,(⟨bj,off,none⟩:Addr).add j=⟨bj,off+j,none⟩:=λj=>by unfold Addr.add;split <;> simp_all
  obtain⟨ac,an,al⟩:=hf 0 az;have be:=Z.wide _ _ _ al;have z0:=an 0 ag;have e0:ac[0]? = some (ac[0]'(by omega)):=by simp[be,ag]
  rw[e0] at z0;have bb:bg=none:=by simpa[Addr.add] using World.cell?_spot z0
  subst bb;refine⟨bj,off,rfl,by rw[ae] at z0;exact aF _ _ z0,λi hi=>?_⟩;have au:i<l:=by simpa using hi
  obtain⟨cs,z,hC⟩:=hf i au;rw[List.getElem_map,List.getElem_range];refine Z.cr _ _ _ cs _ (λj u Q=>?_) hC;have av:j<Z.sz:=by rw[<-Z.wide _ _ _ hC];exact (List.getElem?_eq_some_iff.1 Q).1
  have:=z j av;rw[ae,<-Nat.add_assoc,Q] at this;exact this
theorem Zga{cs:List Value}{x:cM H×List bU}(h:aT enc aB W 0 sp held fuel 59 cs=some x):∃ y,txR.C W cs y:=by
 obtain⟨y0,y1,y2,k,_,hl,h0,h1,h2⟩:=Deep.trod_struct3 underlying59 h;rw[Tryz.cellsTx] at hl;obtain⟨c0,c1,c2,rfl⟩:=list_three hl;simp[Tryz.cells3,Tryz.cellsIns,Tryz.cellsOuts] at h0 h1 h2;obtain⟨hh,e0,_,_⟩:=aX aO h0
 obtain⟨ai,ni,ci,I,rfl,hI,sI⟩:=Q8 inR underlying56 Tryz.cellsIn (by decide) (λ_ _ _ q=>by
  obtain⟨x1,x2,a,n,c,l,rfl,z,Q⟩:=C8 q;exact⟨(x1,x2,l),a,n,c,rfl,z,Q⟩) h1
 obtain⟨ao,no,co,O,rfl,z,sO⟩:=Q8 outR underlying57 Tryz.cellsOut (by decide) (λ_ _ _ q=>by
  obtain⟨x1,a,n,c,l,rfl,z,Q⟩:=Dc q;exact⟨(x1,l),a,n,c,rfl,z,Q⟩) h2
 simp only[bJ,and_true] at e0;subst e0;exact⟨(hh,I,O),ai,ni,ci,ao,no,co,rfl,hI,sI,z,sO⟩
theorem Rf{t:bO}{z Q f2 f3 f4:Field}{cs:List Value}{x:cM H×List bU}(ht:Tryz.prog.underlying t=some (.struct #[z,Q,f2,f3,f4]))(h:aT enc aB W 0 sp held fuel t cs=some x) :
  ∃ y0 y1 y2 y3 y4 n,cs.length=Tryz.prog.cellsOf t/\aT enc aB W 0 sp held n z.type ((cs.drop z.offset).take (Tryz.prog.cellsOf z.type))=some y0 /\
   aT enc aB W 0 sp held n Q.type ((cs.drop Q.offset).take (Tryz.prog.cellsOf Q.type))=some y1/\aT enc aB W 0 sp held n f2.type ((cs.drop f2.offset).take (Tryz.prog.cellsOf f2.type))=some y2 /\
   aT enc aB W 0 sp held n f3.type ((cs.drop f3.offset).take (Tryz.prog.cellsOf f3.type))=some y3/\aT enc aB W 0 sp held n f4.type ((cs.drop f4.offset).take (Tryz.prog.cellsOf f4.type))=some y4:=by
 obtain⟨xs,n,_,rfl,hl,al,hf⟩:=DataW.trod_struct ht h
 match xs,al with
 | [y0,y1,y2,y3,y4],_=>exact⟨y0,y1,y2,y3,y4,n,hl,by simpa using hf 0 z rfl,by simpa using hf 1 Q rfl,by simpa using hf 2 f2 rfl,by simpa using hf 3 f3 rfl,by simpa using hf 4 f4 rfl⟩
theorem Zfh{cs:List Value}{x:cM H×List bU}(h:aT enc aB W 0 sp held fuel 39 cs=some x):∃ y,blkR.C W cs y:=by
 obtain⟨y0,y1,y2,y3,y4,k,hl,h0,h1,h2,h3,h4⟩:=Rf underlying39 h;rw[Tryz.cellsBlk] at hl;obtain⟨c0,c1,c2,c3,c4,rfl⟩:=list_five hl;simp[Tryz.cells3,Tryz.cellsTxs] at h0 h1 h2 h3 h4;obtain⟨x0,z,_,_⟩:=aX aO h0;obtain⟨x1,Q,_,_⟩:=aX aO h1;obtain⟨x2,e2,_,_⟩:=aX aO h2;obtain⟨x3,e3,_,_⟩:=aX aO h3;obtain⟨a,n,c,T,rfl,hT,sT⟩:=Q8 txR underlying37 Tryz.cellsTx (by decide) (λ_ _ _ q=>Zga q) h4;simp only[bJ,and_true] at z Q e2 e3;subst z Q e2 e3;exact⟨(x0,x1,x2,x3,T),a,n,c,rfl,hT,sT⟩
theorem Zau{v:Value}{x:cM H×List bU}(h:aT enc aB W 0 sp held fuel 25 [v]=some x):∃ a n c l,v = F a n c/\IntsAt W a n l/\SlOk a n c:=by
 rcases open_ints underlying25 aO (by kernel_rfl) h with ⟨z,_⟩|⟨b,l,c,zs,z,_,hl,hm,hz,_,ac,_⟩
 ·simp at z;subst z;exact⟨none,0,0,[],rfl,IntsAt.nil _ _,aH _,aQ _,λ_=>⟨rfl,rfl⟩⟩
 ·simp at z;subst z;have aj:l<=zs.length:=by rw[hz];split <;> omega
  refine⟨some b,l,c,zs.take l,rfl,⟨by rw[bL];omega,λak=>?_⟩,hl,hm,λh=>by cases h⟩;obtain⟨Q,off,ah⟩:=b;have z0:=ac 0 (by omega);have af:ah=none:=by simpa[Addr.add] using World.cell?_spot z0
  subst af;have ab:∀ j,(⟨Q,off,none⟩:Addr).add j=⟨Q,off+j,none⟩:=λj=>by unfold Addr.add;split <;> simp_all
  refine⟨Q,off,rfl,by rw[ab] at z0;exact aF _ _ z0,λi hi=>?_⟩;rw[bL] at hi;have:=ac i (by omega);rw[ab] at this;rw[this,List.getElem_take];simp[List.getD,(by omega:i<zs.length)]
theorem tree_full{cs:List Value}{x:cM H×List bU}(h:aT enc aB W 0 sp held fuel 28 cs=some x):∃ a n c b m d N T,cs=[F a n c,F b m d]/\IntsAt W a n N/\SlOk a n c/\BlksAt W b m T/\SlOk b m d:=by
 obtain⟨Q,y1,k,_,z,h0,h1⟩:=trod_struct2 underlying28 h;rw[Tryz.cellsTree] at z;obtain⟨c0,c1,rfl⟩:=list_two z;simp[Tryz.cellsInts,Tryz.cellsBlks] at h0 h1;obtain⟨a,n,c,N,rfl,hN,sN⟩:=Zau h0;obtain⟨b,m,d,T,rfl,hT,sT⟩:=Q8 blkR underlying26 Tryz.cellsBlk (by decide) (λ_ _ _ q=>Zfh q) h1;exact⟨a,n,c,b,m,d,N,T,rfl,hN,sN,hT,sT⟩
end
