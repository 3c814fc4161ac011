import Derived.Test.YtmomfkikogbdeaaGreatDoorH
import Derived.Test.YtmomfkikogbdeaaGreatDoorG37
open Decidable renaming not_not->aK
open Go renaming lt_of_block->aA
open Go.Ending renaming returned->dA
open Go.IntKind renaming i64->J
open Go.Obj renaming cells->cZ
open Go.Value renaming int->E,slice->F,tuple->dB,pointer->dC
open List renaming length_append->bW,mem_cons->aU,mem_append->bA,mem_map->cP,map_cons->bO
open Prod renaming fst->bI
open Prod.mk renaming injEq->aN
set_option maxHeartbeats 12800000
set_option maxRecDepth 10000
namespace Go.Proofs.YtmomfkikogbdeaaGreatDoor
open Go.RowKit
theorem Znh{D:Dsk}{b:Zl}(h:(tkR D b).1≠0):(tkR D b).2.1=0:=by
 unfold tkR at h ⊢;split
 ·rfl
 rename_i h1;rw[if_neg h1] at h;split
 ·rfl
 rename_i h2;rw[if_neg h2] at h;split
 ·rfl
 rename_i h3;rw[if_neg h3] at h;split
 ·rfl
 rename_i h4;rw[if_neg h4] at h;simp only at h ⊢;split
 ·rfl
 rename_i h5;rw[if_neg h5] at h;exact absurd rfl h
def Zmu(z:Nat)(nm:Int)(_B:Nat)(V:World):Prop:=V.heap[z]? = some (cZ [E J nm].toArray 3 (0,0))
theorem Znj(w:World)(b1 z:Nat)(p hh k o:Int)(a n c L K N T P)(tip:Int)(β : Int->List Zj)(x nm:Int)(D':Dsk)(hE:Env w)(hL:TxsAt w a n L)(sL:SlOk a n c)
  (Q:w.heap[b1]? = some (cZ [E J p,E J hh,E J k,E J o,F a n c].toArray 39 (0,0))) (aa:w.heap[z]? = some (cZ [E J 0].toArray 3 (0,0))) (hx:tkR ⟨K,N,T,P,tip,β⟩ (p,hh,k,o,L)=(x,nm,D')) :
  DoC 99 #[dC (some ⟨b1,0,none⟩),dC (some ⟨z,0,none⟩)] w (λq=>q=z) ⟨K,N,T,P,tip,β⟩ x D' (Zmu z nm) where
 enters:=enters_of (fn:=Tryz.f99) (by kernel_rfl) (by kernel_rfl) rfl
 old q e:=by have e:q=z:=e;exact e ▸ aA aa
 on B V V':=by
  intro h1 g;have lb:=aA aa;exact g.heap h1 (λe=>by have:=e.1;omega)
 call B V d bm m hB hV hD hd hbm hm:=by
  obtain⟨k1,bd,bb,n1,bf,be,t1,br,bq,p1,bi,bh,f,hq⟩:=hD;have lb:=aA aa
  have C1:=Zd (C9 hq w hV hE (by omega) (by omega) (by omega) p hh k o a n c L (λW g=>by
   have gW:Gr w W (λ_=>False):=((Gr.of hV:Gr w V (λ_=>False))).far g (λq e=>.inl (by rcases e with e|e <;> omega));exact hL.later (gW.below (Below.refl _ _) (Nat.le_refl _) (λ_ q=>q.elim))) sL x nm D' hx)
  have ah:=(hV.block _ lb).trans aa;have ag:=ZE hV Q;obtain⟨q0,q1,q2,q3,q4,ql⟩:=kc5 ag;obtain⟨ad,ax,aw⟩:=kh3 ah hV.size (aA hq.box);clear hq hE hL sL hx ah aa Q ag;show Calls Tryz.prog 99 #[dC (some ⟨d,0,none⟩),dC (some ⟨b1,0,none⟩),dC (some ⟨z,0,none⟩)] V _;go_enter Tryz.func99,Tryz.ntmps99;go_wp2_with fail;refine C1.mono ?_;rintro e w1 ⟨rfl,g1,hk⟩;have Q:=g1.heap ad (by rintro (e|e) <;> omega);obtain⟨r0,f0,rl⟩:=kf1 Q
  have al:Hid (∀ W,W=w1.setCell ⟨z,0,none⟩ (E J nm)->Gr V W (λq=>q=d\/q=bm\/q=z)/\(x=0->KeptOn (λq=>q<B) W d bm D')/\Zmu z nm B W):=λW hW=>by
   have g2:Gr w1 W (λq=>q=z):=(by rw[hW];exact (Gr.refl w1 (λq=>q=z)).one z 0 (.inl rfl) _);refine⟨(g1.mono (λq _ e=>?_)).trans (g2.mono (λq _ e=>.inr (.inr e))),λe=>(hk e).kept.on g2 (λq e=>?_) (λe=>?_),?_⟩
   ·rcases e with e|e
    ·exact .inl e
    ·exact .inr (.inl e)
   ·have e:q=z:=e;show q<B;omega
   ·have e:d=z:=e;omega
   ·rw[hW];exact Tr.set_cells Q 0 _
  clear g1 hk Q C1 ad q0 q1 q2 q3 q4 ql;go_wp2;go_ret;exact⟨rfl,al _ rfl⟩
def ntR(K:List ByteArray)(N:List Int)(T:List Zl)(P:List TxD)(tip:Int)(b:Zl):Int×Int×Dsk:=
 if opE K N T P tip≠0 then (opE K N T P tip,0,Dsk.none) else
 if (tkR ⟨K,N,T,P,tip,(Z0 K N T noB).2⟩ b).1≠0 then ((tkR ⟨K,N,T,P,tip,(Z0 K N T noB).2⟩ b).1,0,Dsk.none) else
 (0,(tkR ⟨K,N,T,P,tip,(Z0 K N T noB).2⟩ b).2.1,(tkR ⟨K,N,T,P,tip,(Z0 K N T noB).2⟩ b).2.2)
def NtkR(w w':World)(x nm:Int)(D:Dsk)(e:Ending):Prop:=
 ∃ ka kn kc na nn nc ba bn bc pa pn pc,e = dA (dB #[.agg #[F ka kn kc],.agg #[F na nn nc,F ba bn bc,F pa pn pc,E J D.tip],E J nm,E J x]) /\
  Fresh w.heap.size w' (λw2=>Ri w2 ka kn D.k na nn D.n ba bn D.t pa pn D.p)/\SlOk ka kn kc/\SlOk na nn nc/\SlOk ba bn bc/\SlOk pa pn pc/\ZD w w'
theorem Zkq(ka kn kc K na ba pa nn nc bn bc pn pc N T P)(tip:Int)(w)(hE:Env w)(hK:Bk.TextsAt w ka kn K)(hN:Tr.IntsAt w na nn N)(hT:Tr.BlksAt w ba bn T)(hP:TxsAt w pa pn P)(sN:SlOk na nn nc)(sT:SlOk ba bn bc)(sP:SlOk pa pn pc)(hp:pn<=2513169434916)(hq:∀ t∈P,Tr.TxSmall t)
  (p hh k o:Int) (a n c L) (hL:TxsAt w a n L) (sL:SlOk a n c) (x nm:Int) (D:Dsk) (hx:ntR K N T P tip (p,hh,k,o,L)=(x,nm,D)) :
  Calls Tryz.prog 32 #[.agg #[F ka kn kc],.agg #[F na nn nc,F ba bn bc,F pa pn pc,E J tip],.agg #[E J p,E J hh,E J k,E J o,F a n c]] w λe w'=>NtkR w w' x nm D e:=by
 obtain⟨X,hX⟩:=ZG (Yw w [cZ #[F ka kn kc] 24,cZ #[F na nn nc,F ba bn bc,F pa pn pc,E J tip] 67,cZ #[E J p,E J hh,E J k,E J o,F a n c] 39,cZ #[F none 0 0] 24,cZ #[F none 0 0,F none 0 0,F none 0 0,E J 0] 67,cZ #[E J 0] 3]);have cc:X=(((((w.alloc (cZ #[F ka kn kc] 24)).alloc (cZ #[F na nn nc,F ba bn bc,F pa pn pc,E J tip] 67)).alloc (cZ #[E J p,E J hh,E J k,E J o,F a n c] 39)).alloc (cZ #[F none 0 0] 24)).alloc (cZ #[F none 0 0,F none 0 0,F none 0 0,E J 0] 67)).alloc (cZ #[E J 0] 3):=hX;have ap:ZD w X:=by rw[hX];exact Zs _ _
 have cd:X.heap.size=w.heap.size+6:=by rw[hX];exact Z3 _ _
 have bf:=kl0 hX _ _ rfl;have bh:=kl hX 1 _ _ rfl;have da:=kl hX 2 _ _ rfl;have db:=kl hX 3 _ _ rfl;have dc:=kl hX 4 _ _ rfl;have bi:=kl hX 5 _ _ rfl;obtain⟨x0,be⟩:=ZF (opE K N T P tip);obtain⟨⟨x1,m1,D1⟩,az⟩:=ZF (tkR ⟨K,N,T,P,tip,(Z0 K N T noB).2⟩ (p,hh,k,o,L))
 have cg:x1≠0->m1=0:=λe=>by
  have:=Znh (D:=⟨K,N,T,P,tip,(Z0 K N T noB).2⟩) (b:=(p,hh,k,o,L)) (by rw[az];exact e);rw[az] at this;exact this
 unfold ntR at hx;simp only[be,az] at hx
 have C1:=Zd (Tv ka kn kc K na ba pa nn nc bn bc pn pc N T P tip x0 X (hE.later ap) (hK.later ap) (hN.later ap) (hT.later ap) (hP.later ap) sN sT sP hp hq be 99 #[dC (some ⟨w.heap.size+2,0,none⟩),dC (some ⟨w.heap.size+5,0,none⟩)] (λq=>q=w.heap.size+5) x1 D1 (Zmu (w.heap.size+5) m1) (λ_=>
  Znj X (w.heap.size+2) (w.heap.size+5) p hh k o a n c L K N T P tip _ x1 m1 D1 (hE.later ap) (hL.later ap) sL da bi az))
 obtain⟨HX,bk,bo,bz,bu,bv,bx⟩:=kh7 hx cg ap cd db dc bi;have t0:=Zb bf 0 _ rfl;obtain⟨t1,t2,t3,t4,-⟩:=kc4 bh;have tl:=aA bf;have dq:=aA bh;clear hE hK hN hT hP sN sT sP hp hq hx hL sL be az cg ap cd bf bh da db dc bi hX;go_enter Tryz.func32,Tryz.ntmps32;go_wp2_with fail;rw[<-cc];clear cc;(try go_wp2_with fail);refine C1.mono ?_;intro e w1 hr
 obtain⟨z,Q,aa,n5,ae,aj,b5,ac,ah,p5,ag,ak,rfl,hF,s1,s2,s3,s4,cf,g1⟩:∃ z Q aa n5 ae aj b5 ac ah p5 ag ak,e = dA (dB #[.agg #[F z Q aa],.agg #[F n5 ae aj,F b5 ac ah,F p5 ag ak,E J D.tip],E J x]) /\
   Fresh X.heap.size w1 (λw2=>Ri w2 z Q D.k n5 ae D.n b5 ac D.t p5 ag D.p)/\SlOk z Q aa/\SlOk n5 ae aj/\SlOk b5 ac ah/\SlOk p5 ag ak /\
   w1.heap[w.heap.size+5]? = some (cZ [E J nm].toArray 3 (0,0))/\Gr X w1 (λq=>q=w.heap.size+5):=by
  have an:=Za HX
  rcases hr with ⟨h0,⟨z,Q,aa,n5,ae,aj,b5,ac,ah,p5,ag,ak,he,hF,s1,s2,s3,s4⟩,hb⟩|⟨h0,g,cj,hr⟩
  ·rw[if_pos h0] at an;simp only[aN] at an;obtain⟨rfl,rfl,rfl⟩:=an;exact⟨z,Q,aa,n5,ae,aj,b5,ac,ah,p5,ag,ak,he,hF,s1,s2,s3,s4,ZE hb bx,Gr.of hb⟩
  ·rw[if_neg (λq=>q h0)] at an
   rcases hr with ⟨h1,z,Q,aa,n5,ae,aj,b5,ac,ah,p5,ag,ak,he,hF,s1,s2,s3,s4⟩|⟨h1,z,Q,aa,n5,ae,aj,b5,ac,ah,p5,ag,ak,he,hF,s1,s2,s3,s4⟩
   ·rw[if_pos h1] at an;simp only[aN] at an;obtain⟨rfl,rfl,rfl⟩:=an;have di:=bk h1;subst di;exact⟨z,Q,aa,n5,ae,aj,b5,ac,ah,p5,ag,ak,he,hF,s1,s2,s3,s4,cj,g⟩
   ·rw[if_neg (λq=>q h1)] at an;simp only[aN] at an;obtain⟨rfl,rfl,rfl⟩:=an;exact⟨z,Q,aa,n5,ae,aj,b5,ac,ah,p5,ag,ak,he,hF,s1,s2,s3,s4,cj,g⟩
 have h3:=g1.heap bu (λe=>by have e:w.heap.size+3=w.heap.size+5:=e;omega);have h4:=g1.heap bv (λe=>by have e:w.heap.size+4=w.heap.size+5:=e;omega);obtain⟨o0,of,ol⟩:=kf1 h3;obtain⟨p0,p1,p2,p3,cu,cw,cx,cy,pl⟩:=kf4 h4;obtain⟨V,hV⟩:=ZG (((((w1.setCell ⟨w.heap.size+1+1+1,0,none⟩ (F z Q aa)).setCell ⟨w.heap.size+1+1+1+1,0,none⟩ (F n5 ae aj)).setCell ⟨w.heap.size+1+1+1+1,1,none⟩ (F b5 ac ah)).setCell ⟨w.heap.size+1+1+1+1,2,none⟩ (F p5 ag ak)).setCell ⟨w.heap.size+1+1+1+1,3,none⟩ (E J D.tip))
 have gV:Gr w1 V (λq=>q=w.heap.size+3\/q=w.heap.size+4\/q=w.heap.size+5):=by
  rw[hV];exact ((Gr.refl w1 (λq=>q=w.heap.size+3\/q=w.heap.size+4\/q=w.heap.size+5)).one (w.heap.size+3) 0 (.inl (.inl rfl)) _).four (w.heap.size+4) (.inl (.inr (.inl rfl))) _ _ _ _
 have v5:V.heap[w.heap.size+5]? = some (cZ [E J nm].toArray 3 (0,0)):=by
  rw[hV]
  have g:Gr w1 (((((w1.setCell ⟨w.heap.size+1+1+1,0,none⟩ (F z Q aa)).setCell ⟨w.heap.size+1+1+1+1,0,none⟩ (F n5 ae aj)).setCell ⟨w.heap.size+1+1+1+1,1,none⟩ (F b5 ac ah)).setCell ⟨w.heap.size+1+1+1+1,2,none⟩ (F p5 ag ak)).setCell ⟨w.heap.size+1+1+1+1,3,none⟩ (E J D.tip)) (λq=>q=w.heap.size+3\/q=w.heap.size+4):=
   ((Gr.refl w1 (λq=>q=w.heap.size+3\/q=w.heap.size+4)).one (w.heap.size+3) 0 (.inl (.inl rfl)) _).four (w.heap.size+4) (.inl (.inr rfl)) _ _ _ _
  exact g.heap cf (λe=>by omega)
 have v4:V.heap[w.heap.size+4]? = some (cZ [F n5 ae aj,F b5 ac ah,F p5 ag ak,E J D.tip].toArray 67 (0,0)):=by
  rw[hV];have g:Gr w1 (w1.setCell ⟨w.heap.size+1+1+1,0,none⟩ (F z Q aa)) (λq=>q=w.heap.size+3):=(Gr.refl w1 (λq=>q=w.heap.size+3)).one (w.heap.size+3) 0 (.inl rfl) _;exact Tr.set_cells (Tr.set_cells (Tr.set_cells (Tr.set_cells (g.heap h4 (λe=>by have e:w.heap.size+4=w.heap.size+3:=e;omega)) 0 _) 1 _) 2 _) 3 _
 have v3:V.heap[w.heap.size+3]? = some (cZ [F z Q aa].toArray 24 (0,0)):=by
  rw[hV];have g:Gr (w1.setCell ⟨w.heap.size+1+1+1,0,none⟩ (F z Q aa)) (((((w1.setCell ⟨w.heap.size+1+1+1,0,none⟩ (F z Q aa)).setCell ⟨w.heap.size+1+1+1+1,0,none⟩ (F n5 ae aj)).setCell ⟨w.heap.size+1+1+1+1,1,none⟩ (F b5 ac ah)).setCell ⟨w.heap.size+1+1+1+1,2,none⟩ (F p5 ag ak)).setCell ⟨w.heap.size+1+1+1+1,3,none⟩ (E J D.tip)) (λq=>q=w.heap.size+4):=(Gr.refl (w1.setCell ⟨w.heap.size+1+1+1,0,none⟩ (F z Q aa)) (λq=>q=w.heap.size+4)).four (w.heap.size+4) (.inl rfl) _ _ _ _;exact g.heap (Tr.set_cells h3 0 _) (λe=>by have e:w.heap.size+3=w.heap.size+4:=e;omega)
 obtain⟨bq,br,bs,GV⟩:=kh4 v3 v4 v5 gV
 have dd:Hid (∀ W,Gr w1 W (λq=>q=w.heap.size+3\/q=w.heap.size+4\/q=w.heap.size+5)->NtkR w W x nm D (dA (dB #[.agg #[F z Q aa],.agg #[F n5 ae aj,F b5 ac ah,F p5 ag ak,E J D.tip],E J nm,E J x]))):=λW g=>by
  have ds:=Za bz;refine⟨z,Q,aa,n5,ae,aj,b5,ac,ah,p5,ag,ak,rfl,λW2 g2=>hF W2 ((g.mono (λq _ e=>?_)).trans (g2.mono (λq _ e=>?_))),s1,s2,s3,s4,?_⟩
  ·show q<X.heap.size;omega
  ·have e:q<w.heap.size:=e;show q<X.heap.size;omega
  ·have gX:Gr w X (λq=>False):=Gr.of bo;have gW:Gr w W (λ_=>False):=(gX.far g1 (λq e=>.inl (by have e:q=w.heap.size+5:=e;omega))).far g (λq e=>.inl (by omega));exact gW.below (Below.refl _ _) (Nat.le_refl _) (λ_ q=>q.elim)
 clear hr hF s1 s2 s3 s4 cf g1 h3 h4 v3 v4 v5 gV HX bk bu bv bx C1 t0 t1 t2 t3 t4 tl dq bz bo
 go_upto_region 2 with fail
 rw[<-hV];clear hV o0 of ol p0 p1 p2 p3 cu cw cx cy pl;have v3:=Za bq;have v4:=Za br;have v5:=Za bs;obtain⟨o0,of,ol⟩:=kf1 v3;obtain⟨p0,p1,p2,p3,cu,cw,cx,cy,pl⟩:=kf4 v4;obtain⟨q0,du,ql⟩:=kf1 v5;clear v3 v4 v5 bq br bs
 go_region
 all_goals
  go_wp2;(try simp only[Exit.inBlock,Exit.then]);refine bodyPost_ret (v:=dB #[.agg #[F z Q aa],.agg #[F n5 ae aj,F b5 ac ah,F p5 ag ak,E J D.tip],E J nm,E J x]) ?_ rfl ?_
  ·rw[Sf rfl];go_simp
  ·exact dd _ (((((GV.one (w.heap.size+3) 0 (.inl (.inl rfl)) _).four (w.heap.size+4) (.inl (.inr (.inl rfl))) _ _ _ _).one (w.heap.size+5) 0 (.inl (.inr (.inr rfl))) _).trans (Gr.of (Zi _))))
open Bk (Right nm nmGo nameR place)
def Chn(K:List ByteArray)(h:Int):List Zj->List TxD->List Zj->Prop
 | C,[],D=>C=D
 | C,t::l,D=>∃ C' s n,Zu t=0/\t.2.1.length≠0/\nm K (Zw t)=(K,n,0)/\apD C t n h=(0,C',s)/\Chn K h C' l D
theorem Bz{K}(hK:Right K)(s:ByteArray):nameR K s=nm K s:=by unfold Bk.nameR;rw[if_pos ((Bk.right_iff K).2 hK)]
theorem Us{t}(h:Zu t=0):txT t=Zw t:=by unfold txT;rw[if_pos h]
theorem Ka{h:Int}{K}(hK:Right K):∀ (S:List TxD) (C C1:List Zj),Zv h S (K,C)=(S,K,C1)->Chn K h C S C1
 | [],C,C1,e=>by
  rw[Zv] at e;exact (Prod.mk.inj (Prod.mk.inj e).2).2
 | t :: l,C,C1,e=>by
  rw[Zv] at e;by_cases q:(doD h (K,C) t).1=0
  ·rw[if_pos q] at e;injection e with e1 e2;injection e1 with _ e1;have z:Zv h l (doD h (K,C) t).2=(l,K,C1):=Prod.ext e1 e2;obtain⟨⟨x,K',C'⟩,Q⟩:=ZF (doD h (K,C) t);rw[Q] at q z;simp only at q z;subst q;obtain⟨d1,⟨M,rfl⟩,_⟩:=S8 hK Q;obtain⟨_,M2,s2⟩:=W4 (h:=h) l (K++M) C' d1;rw[z] at s2
   have hM:M=[]:=by
    have s3:K=K++M++M2:=s2;have:=congrArg List.length s3;rw[bW,bW] at this;exact List.length_eq_zero_iff.1 (by omega)
   subst hM;rw[List.append_nil] at Q z;obtain⟨p1,p2,n,s,p3,p4⟩:=Sz Q;rw[Bz hK,Us p1] at p3;exact ⟨C',s,n,p1,p2,p3,p4,Ka hK l C' C1 z⟩
  ·rw[if_neg q] at e;have h1:=congrArg (λr=>r.1.length) e;have h2:=Rl h l (K,C);have h3:=congrArg List.length (Qa h l (K,C));rw[List.length_map] at h3;simp only[List.length_cons] at h1;omega
theorem Dk{h:Int}{K C C1 S}(z:Chn K h C S C1):∀ t∈S,(nm K (Zw t)).1=K/\(nm K (Zw t)).2.2=0:=by
 induction S generalizing C with
 |nil=>intro t q;cases q
 |cons t l ih=>
  obtain⟨_,_,_,_,_,h3,_,h5⟩:=z;intro x hx
  rcases aU.1 hx with rfl|hx
  ·rw[h3];exact⟨rfl,rfl⟩
  ·exact ih h5 x hx
theorem Bu{K}:∀ (l:List ByteArray) (z:List Int),(∀ s∈l,s.size<=4000/\0<Bk.place s K)->Bk.nmGo K z l=(K,z++l.map (λs=>(Bk.place s K:Int)),0)
 | [],z,_=>by rw[Bk.nmGo];simp
 | s :: r,z,h=>by
  have Q:=h s (by simp);have e:=Bk.nm_there Q.1 Q.2;rw[Bk.nmGo,e];simp only[if_true];rw[Bu r _ (λx hx=>h x (by simp[hx]))];simp
theorem Wc{K}{s:Int}{b:Zl}(h:kbD K s b=true):Yk b=0/\(Bk.place (Ev b) K:Int)=s/\∀ t∈b.2.2.2.2,Zu t=0/\Bk.place (txT t) K≠0:=by
 unfold kbD at h;simp only[Bool.and_eq_true,decide_eq_true_eq,List.all_eq_true] at h;refine⟨h.1,h.2.1,λt z=>?_⟩;have:=h.2.2 t z;unfold knT at this;simpa using this
theorem Cb{K}{s:Int}{b:Zl}(h1:Yk b=0)(h2:(Bk.place (Ev b) K:Int)=s)(h3:∀ t∈b.2.2.2.2,Zu t=0/\Bk.place (txT t) K≠0):kbD K s b=true:=by
 unfold kbD;simp only[Bool.and_eq_true,decide_eq_true_eq,List.all_eq_true];refine⟨h1,h2,λt z=>?_⟩;unfold knT;simpa using h3 t z
theorem J9{K M}{s:Int}{b:Zl}(h0:s≠0)(h:kbD K s b=true):kbD (K++M) s b=true:=by
 obtain⟨h1,h2,h3⟩:=Wc h;refine Cb h1 ?_ (λt z=>⟨(h3 t z).1,?_⟩)
 ·rw[Bk.place_stays M (by omega)];exact h2
 ·have:=(h3 t z).2;rw[Bk.place_stays M (by omega)];exact this
theorem Gh{b:Zl}(h:Yk b=0):Ev b=Wp b:=by unfold Ev;rw[if_pos h]
theorem Ks{K}(hK:Bk.Right K){s:ByteArray}(h:0<Bk.place s K):s.size<=4000:=by
 have z:s∈K:=Classical.byContradiction λq=>by have:=Bk.place_zero.2 q;omega
 exact hK.2.2 s z
theorem Rq{K}(hK:Bk.Right K){s:Int}{b:Zl}(h0:s≠0)(h:kbD K s b=true):Xl K b=(K,s,b.2.2.2.2.map (λt=>(Bk.place (Zw t) K:Int)),0):=by
 obtain⟨h1,h2,h3⟩:=Wc h
 have z:Bk.allR K (Yf b)=(K,(Yf b).map (λs=>(Bk.place s K:Int)),0):=by
  unfold Bk.allR;rw[if_pos ((Bk.right_iff K).2 hK)]
  have:=Bu (K:=K) (Yf b) [] (λx hx=>by
   have hp:0<Bk.place x K:=by
    unfold Yf at hx
    rcases bA.1 hx with q|q
    ·obtain⟨t,Q,rfl⟩:=cP.1 q;have:=h3 t Q;rw[Us this.1] at this;omega
    ·have e:x=Wp b:=(by simpa using q);rw[e,<-Gh h1];omega
   exact⟨Ks hK hp,hp⟩)
  simpa using this
 unfold Xl;rw[if_neg (by rw[h1];decide),z];simp only[ne_eq,not_true_eq_false,if_false];rw[Gh h1] at h2;refine Prod.ext rfl (Prod.ext ?_ (Prod.ext ?_ rfl))
 ·simp only[Yf,List.map_append,List.map_map,bO,List.map_nil];rw[List.getD_eq_getElem?_getD,List.getElem?_append_right (by simp)];simp[h2]
 ·simp only[Yf,List.map_append,List.map_map,bO,List.map_nil];rw[List.take_append_of_le_length (by simp)];simp[List.take_of_length_le,Function.comp_def]
theorem Zhw{K M}(hK:Bk.Right K)(hM:Bk.Right (K++M)){s:Int}{b:Zl}(h0:s≠0)(h:kbD K s b=true)(C):Vd (K++M) C b=Vd K C b:=by
 have z:=Rq hK h0 h;have Q:=Rq hM h0 (J9 h0 h);obtain⟨_,_,h3⟩:=Wc h
 have e3:b.2.2.2.2.map (λt=>(Bk.place (Zw t) (K++M):Int))=b.2.2.2.2.map (λt=>(Bk.place (Zw t) K:Int)):=List.map_congr_left (λt ht=>by
  have:=h3 t ht;rw[Us this.1] at this;rw[Bk.place_stays M (by omega)])
 have en:nfD (K++M) C b=nfD K C b:=by
  unfold nfD;rw[z,Q,e3]
 unfold Vd;rw[en]
theorem Rg{K M}(hK:Bk.Right K)(Q:Bk.Right (K++M)):∀ (N:List Int) (T:List Zl) (β : Int->List Zj),(∀ x∈N,x≠0)->(Z0 K N T β).1=0->Z0 (K++M) N T β = Z0 K N T β
 | [],_,β,_,_=>rfl
 | _ :: _,[],β,_,_=>rfl
 | s :: N,b :: T,β,hn,h=>by
  have h0:=hn s (by simp);rw[Z0] at h ⊢;rw[Z0];split at h
  ·cases h
  rename_i z;have z:kbD K s b=true:=by simpa using z
  split at h
  ·rename_i q;exact absurd h q
  rename_i q2;rw[J9 h0 z,Zhw hK Q h0 z,z];simp only[Bool.true_eq_false,if_false,if_neg q2];exact Rg hK Q N T _ (λx hx=>hn x (by simp[hx])) h
theorem La:∀ (l L:List ByteArray) (N:List Int) (M:List ByteArray) (N':List Int),Bk.nmGo L N l=(M,N',0)->N'=N++l.map (λs=>(Bk.place s M:Int))/\∀ s∈l,0<Bk.place s M
 | [],L,N,M,N',h=>by
  rw[Bk.nmGo] at h;simp only[aN,and_true] at h;obtain⟨_,rfl⟩:=h;simp
 | s :: r,L,N,M,N',h=>by
  rw[Bk.nmGo] at h;split at h
  ·rename_i q;obtain⟨p1,p2,_⟩:=Bk.nm_place q;obtain⟨e1,e2⟩:=La r _ _ M N' h;have hg:=Bk.nmGo_grows r (Bk.nm L s).1 (N++[(Bk.nm L s).2.1]) (by rw[h]);obtain⟨Q,z⟩:=hg;rw[h] at z;have z:M=(Bk.nm L s).1++Q:=z;have hs:Bk.place s M=Bk.place s (Bk.nm L s).1:=(by rw[z];exact Bk.place_stays Q p2);refine⟨?_,λx hx=>?_⟩
   ·rw[e1,p1,<-hs];simp
   ·rcases aU.1 hx with rfl|hx
    ·rw[hs];exact p2
    ·exact e2 x hx
  ·rename_i q;simp only[aN] at h;exact absurd h.2.2 q
theorem Pz{b:Zl}(h:Yk b=0):∀ t∈b.2.2.2.2,Zu t=0:=by
 obtain⟨p,z,k,n,L⟩:=b;exact (Un h).2.2.2.2
theorem Zgi{K Q}{b:Zl}{s:Int}{Ns}(hK:Bk.Right K)(h:Xl K b=(Q,s,Ns,0)):Bk.Right Q/\(∃ M,Q=K++M)/\kbD Q s b=true/\s≠0:=by
 unfold Xl at h;split at h
 ·rename_i q;simp only[aN] at h;exact absurd h.2.2.2 q
 rename_i hc;have hc:=aK.1 hc;split at h
 ·rename_i q;simp only[aN] at h;exact absurd h.2.2.2 q
 rename_i z;have z:=aK.1 z;simp only[aN] at h;obtain⟨h1,h2,_,_⟩:=h;obtain⟨⟨A,B,ap⟩,hr⟩:=ZF (Bk.allR K (Yf b));rw[hr] at h1 h2 z;have z:ap=0:=z;subst z;have h1:A=Q:=h1;subst h1
 have ac:Bk.nmGo K [] (Yf b)=(A,B,0):=by
  unfold Bk.allR at hr;rw[if_pos ((Bk.right_iff K).2 hK)] at hr;exact hr
 have hg:=Bk.nmGo_grows (Yf b) K [] (by rw[ac]);have hR:=Bk.nmGo_right (Yf b) K [] hK (by rw[ac]);rw[ac] at hg hR;obtain⟨e1,e2⟩:=La _ _ _ _ _ ac;have hb:0<Bk.place (Wp b) A:=e2 _ (by unfold Yf;simp)
 have hs:s=(Bk.place (Wp b) A:Int):=by
  rw[<-h2,e1];simp only[Yf,List.map_append,List.map_map,bO,List.map_nil,List.nil_append];rw[List.getD_eq_getElem?_getD,List.getElem?_append_right (by simp)];simp
 refine⟨hR,hg,Cb hc (by rw[Gh hc];exact hs.symm) (λt ht=>?_),by omega⟩;have ah:=(Pz hc t ht);refine⟨ah,?_⟩;rw[Us ah];have:=e2 (Zw t) (by unfold Yf;simp only[bA,cP];exact .inl ⟨t,ht,rfl⟩);omega
theorem Zej{K}{s:Int}{b:Zl}:∀ (N:List Int) (T:List Zl) (β γ : Int->List Zj),N.length=T.length->Z0 K N T β = (0,γ)->kbD K s b=true->(Vd K (γ b.1) b).1=0->Z0 K (N++[s]) (T++[b]) β = (0,Qk γ s (Vd K (γ b.1) b).2.1)
 | [],[],β,γ,_,h,h1,h2=>by
  rw[Z0] at h;simp only[aN,true_and] at h;subst h;show Z0 K [s] [b] β = _;rw[Z0,h1,Z0];simp[h2]
 | [],_ :: _,β,γ,hl,_,_,_=>by simp at hl
 | _ :: _,[],β,γ,hl,_,_,_=>by simp at hl
 | x :: N,c :: T,β,γ,hl,h,h1,h2=>by
  rw[Z0] at h;show Z0 K (x :: (N++[s])) (c :: (T++[b])) β = _;rw[Z0];split at h
  ·cases h
  rename_i z;rw[if_neg z];split at h
  ·rename_i q;exact absurd (congrArg bI h) q
  rename_i Q;rw[if_neg Q];exact Zej N T _ γ (by simpa using hl) h h1 h2
theorem Zlg{N:List Int}{T:List Zl}(z:Tr.chkTr N T=0):∀ (n k:Nat) (_:k<N.length) (h':k<T.length),k<=n->T[k].2.1<=(k:Int)+1
 | n,k,h,h',hn=>by
  have ok:=Tr.TrOk.of z;obtain⟨a1,a2⟩:=Tr.ahead z k h h';have p:=ok.hgt N[k] (List.getElem_mem h);rw[a1] at p
  rcases a2 with e|e
  ·rw[e,Tr.fnd_out ok.len ok.zero] at p;have:T[k].2.1=0+1:=p;omega
  ·obtain⟨j,hj,Q⟩:=List.getElem_of_mem e;have ae:j<k:=(by rw[List.length_take] at hj;omega);rw[List.getElem_take] at Q;have aa:j<T.length:=(by omega);have b1:=(Tr.ahead z j (by omega) aa).1
   match n,hn with
   | 0,hn=>omega
   | n+1,hn=>
    have ih:=Zlg z n j (by omega) aa (by omega);rw[<-Q,b1] at p;omega
theorem Zni{N T}{t:Int}(h:Tr.bstD N T=(t,0)):0<=Yh N T t/\Yh N T t<=24:=by
 obtain⟨z,ht⟩:=Yb h;have ok:=Tr.TrOk.of z;have hb:=(Rw h).2.1;have h24:=(Vj z).2.1;refine⟨hb,?_⟩;unfold Yh Tr.blockE;rw[if_neg (λq=>q z)];split
 ·rename_i q;have q:t∈N:=by simpa using q
  obtain⟨k,Q,rfl⟩:=List.getElem_of_mem q;have aa:k<T.length:=by rw[<-ok.len];exact Q
  have:=Zlg z k k Q aa (Nat.le_refl _);simp only;rw[(Tr.ahead z k Q aa).1];omega
 ·show (0:Int)<=24;decide
theorem Zaq{K C P}{h:Int}(e:swE K C P h=0){N T}{t:Int}{β : Int->List Zj}(hC : β t=C)(hh:Yh N T t+1=h):poE (Zv h P (K,C)).2.1 N T (Zv h P (K,C)).1 t β = 0:=by
 obtain⟨o,hl⟩:=Ut e;obtain⟨hK,ag,h1,h2⟩:=Vm o;obtain⟨r1,_⟩:=W4 P K C hK (h:=h);have Q:=Jy P K C [] hK (h:=h) (by rw[List.append_nil];exact r1);rw[List.append_nil] at Q;obtain⟨⟨z,K2,C2⟩,hr⟩:=ZF (Zv h P (K,C))
 have ap:z.length<=P.length:=by
  have:=Rl h P (K,C);have e2:=congrArg List.length (Qa h P (K,C));rw[List.length_map,hr] at e2;have e2:(swT h P (K,C)).length=z.length:=e2;omega
 have ac:=(Jx P K C hK ag (h:=h)).2.2;rw[hr] at Q r1 ac ⊢;simp only at Q r1 ac ⊢;have ck:=Dk (Ka r1 z C C2 Q);unfold poE;split
 ·rfl
 have al:z.all (knT K2)=true:=List.all_eq_true.2 (λx hx=>by
  have c1:=(ac x hx).1;have c2:=ck x hx;have c3:=Bk.nm_place c2.2;rw[c2.1] at c3;unfold knT;rw[Us c1];have:=c3.2.1;simp[c1];omega)
 rw[if_neg (by rw[al];decide),hC,hh,Q]
 have am:swE K2 C z h=0:=by
  unfold swE;rw[Sm r1 ag h1 h2];simp;omega
 rw[if_neg (by rw[am];decide)];simp
theorem Rk{K N T P}{tip:Int}{b:Zl}{nm:Int}{D:Dsk}(h:opE K N T P tip=0)(e:tkR ⟨K,N,T,P,tip,(Z0 K N T noB).2⟩ b=(0,nm,D)) :
  opE D.k D.n D.t D.p D.tip=0/\(Z0 D.k D.n D.t noB).2=D.β/\D.n=N++[nm]/\D.t=T++[b]/\kbD D.k nm b=true/\(∃ M,D.k=K++M)/\Tr.addE N T nm b=(D.n,D.t,0):=by
 obtain⟨o1,o2,o3,_⟩:=Yg h;have hK:=(Bk.right_iff K).1 o1;obtain⟨⟨z,s,Ns,x1⟩,h1⟩:=ZF (Xl K b);obtain⟨⟨N1,T1,x2⟩,h2⟩:=ZF (Tr.addE N T s b);obtain⟨⟨x3,C3,U3⟩,h3⟩:=ZF (Vd z ((Z0 K N T noB).2 b.1) b);obtain⟨⟨t,x4⟩,h4⟩:=ZF (Tr.bstD N1 T1);obtain⟨bx,hz⟩:=ZF (Yh N1 T1 t);unfold tkR at e;simp only[h1,h2,h3,h4,hz] at e;split at e
 ·rename_i q;exact absurd (congrArg bI e) q
 rename_i q1;have q1:=aK.1 q1;subst q1;split at e
 ·rename_i q;exact absurd (congrArg bI e) q
 rename_i q2;have q2:=aK.1 q2;subst q2;split at e
 ·rename_i q;exact absurd (congrArg bI e) q
 rename_i q3;have q3:=aK.1 q3;subst q3;split at e
 ·rename_i q;exact absurd (congrArg bI e) q
 rename_i q4;have q4:=aK.1 q4;subst q4;split at e
 ·rename_i q;exact absurd (congrArg bI e) q
 rename_i q5;have q5:=aK.1 q5;obtain⟨k1,⟨M1,af⟩,k3,k4⟩:=Zgi hK h1;obtain⟨hc,_,_,a1,a2⟩:=Tr.addE_ok h2;have ok:=Tr.TrOk.of hc;have bd:∀ x∈N,x≠0:=λx hx=>by have:=(ok.nm x hx).1;omega
 have az:Z0 z N T noB=(0,(Z0 K N T noB).2):=by
  rw[af,Rg hK (af ▸ k1) N T noB bd o3];exact Prod.ext o3 rfl
 have ad:=Zej N T noB _ ok.len az k3 (by rw[h3]);rw[h3,<-a1,<-a2] at ad;have bg:=Zni h4;rw[hz] at bg;have bf:¬1000<bx+1:=by omega
 obtain⟨γ,hγ⟩:∃ γ,Qk (Z0 K N T noB).2 s C3 = γ:=⟨_,rfl⟩;simp only[hγ] at e q5 ad;unfold Zad at e q5;rw[if_neg bf] at e q5;simp only at e q5
 have hF:swF z (γ t) P (bx+1) (swE z (γ t) P (bx+1))=((Zv (bx+1) P (z,γ t)).2.1,(Zv (bx+1) P (z,γ t)).1,(Zv (bx+1) P (z,γ t)).2.2,Zp (γ t) - Zp (Zv (bx+1) P (z,γ t)).2.2):=by
  unfold swF;rw[if_pos q5]
 rw[hF] at e;simp only[aN,true_and] at e;obtain⟨rfl,rfl⟩:=e;simp only;obtain⟨r1,M2,ae⟩:=W4 P z (γ t) k1 (h:=bx+1);have be:∀ x∈N1,x≠0:=λx hx=>by have:=((Tr.TrOk.of (Yb h4).1).nm x hx).1;omega
 have aq:Z0 (Zv (bx+1) P (z,γ t)).2.1 N1 T1 noB=(0,γ):=by
  rw[ae,Rg k1 (ae ▸ r1) N1 T1 noB be (by rw[ad])];exact ad
 have po:=Zaq q5 (N:=N1) (T:=T1) (t:=t) (β:=γ) rfl (by rw[hz]);refine⟨?_,by rw[aq],a1,a2,by rw[ae];exact J9 k4 k3,⟨M1++M2,by rw[ae,af,List.append_assoc]⟩,h2⟩;unfold opE;rw[if_neg (by rw[(Bk.right_iff _).2 r1];decide),h4];simp only[ne_eq,not_true_eq_false,if_false,aq];exact po
theorem mvd{V W:World}{b:Nat}{o:Obj}(z:ZD V W)(h:Hid (V.heap[b]? = some o)):Hid (W.heap[b]? = some o):=ZE z h
theorem onb{U V W:World}(h:Hid (ZD U V))(z:ZD V W):Hid (ZD U W):=Zf h z
section
variable {V : World} {b : Nat} {t : TypeId} {v0 v1 v2 v3 v4 : Value}
theorem cl1(h:Hid (V.heap[b]? = some (cZ [v0].toArray t (0,0)))):V.cell? ⟨b,0,none⟩=some v0/\b<V.heap.size:=⟨Zb h 0 _ rfl,aA h⟩
theorem cl2(h:Hid (V.heap[b]? = some (cZ [v0,v1].toArray t (0,0)))):V.cell? ⟨b,0,none⟩=some v0/\V.cell? ⟨b,1,none⟩=some v1/\b<V.heap.size:=⟨Zb h 0 _ rfl,Zb h 1 _ rfl,aA h⟩
theorem cl3(h:Hid (V.heap[b]? = some (cZ [v0,v1,v2].toArray t (0,0)))):V.cell? ⟨b,0,none⟩=some v0/\V.cell? ⟨b,1,none⟩=some v1/\V.cell? ⟨b,2,none⟩=some v2/\b<V.heap.size:=⟨Zb h 0 _ rfl,Zb h 1 _ rfl,Zb h 2 _ rfl,aA h⟩
theorem cl4(h:Hid (V.heap[b]? = some (cZ [v0,v1,v2,v3].toArray t (0,0)))):V.cell? ⟨b,0,none⟩=some v0/\V.cell? ⟨b,1,none⟩=some v1/\V.cell? ⟨b,2,none⟩=some v2/\V.cell? ⟨b,3,none⟩=some v3/\b<V.heap.size:=⟨Zb h 0 _ rfl,Zb h 1 _ rfl,Zb h 2 _ rfl,Zb h 3 _ rfl,aA h⟩
theorem cl5(h:Hid (V.heap[b]? = some (cZ [v0,v1,v2,v3,v4].toArray t (0,0)))):V.cell? ⟨b,0,none⟩=some v0/\V.cell? ⟨b,1,none⟩=some v1/\V.cell? ⟨b,2,none⟩=some v2/\V.cell? ⟨b,3,none⟩=some v3/\V.cell? ⟨b,4,none⟩=some v4/\b<V.heap.size:=⟨Zb h 0 _ rfl,Zb h 1 _ rfl,Zb h 2 _ rfl,Zb h 3 _ rfl,Zb h 4 _ rfl,aA h⟩
end
