import Derived.Test.YtmomfkikogbdeaaGreatDoorH
import Derived.Test.YtmomfkikogbdeaaGreatDoorG38
open Decidable renaming not_not->aQ
open Go.Ending renaming returned->cS
open Go.IntKind renaming i64->J
open Go.Obj renaming cells->cR
open Go.Value renaming int->E,slice->F,tuple->cT,pointer->cU
open List renaming length_append->bH,mem_cons->bB
open Prod renaming fst->bK
open Prod.mk renaming injEq->aP
set_option maxHeartbeats 12800000
set_option maxRecDepth 10000
namespace Go.Proofs.YtmomfkikogbdeaaGreatDoor
open Go.RowKit
theorem Zjh{D:Dsk}{b:Zl}(h:(tkR D b).1≠0):(tkR D b).2.1=0:=by
 unfold tkR at h ⊢;split
 ·rfl
 rename_i h1;rw[if_neg h1] at h;split
 ·rfl
 rename_i h2;rw[if_neg h2] at h;split
 ·rfl
 rename_i h3;rw[if_neg h3] at h;split
 ·rfl
 rename_i h4;rw[if_neg h4] at h;simp only at h ⊢;split
 ·rfl
 rename_i h5;rw[if_neg h5] at h;exact absurd rfl h
def Ziw(z:Nat)(nm:Int)(_B:Nat)(V:World):Prop:=V.heap[z]? = some (cR [E J nm].toArray 3 (0,0))
theorem Zjj(w:World)(b1 z:Nat)(p hh k o:Int)(a n c L K N T P)(tip:Int)(β : Int->List Zj)(x nm:Int)(D':Dsk)(hE:Env w)(hL:TxsAt w a n L)(sL:SlOk a n c)
  (Q:w.heap[b1]? = some (cR [E J p,E J hh,E J k,E J o,F a n c].toArray 39 (0,0))) (ab:w.heap[z]? = some (cR [E J 0].toArray 3 (0,0))) (hx:tkR ⟨K,N,T,P,tip,β⟩ (p,hh,k,o,L)=(x,nm,D')) :
  DoC 99 #[cU (some ⟨b1,0,none⟩),cU (some ⟨z,0,none⟩)] w (λq=>q=z) ⟨K,N,T,P,tip,β⟩ x D' (Ziw z nm) where
 enters:=enters_of (fn:=Tryz.f99) (by kernel_rfl) (by kernel_rfl) rfl
 old q e:=by have e:q=z:=e;exact e ▸ lt_of_block ab
 on B V V':=by
  intro h1 g;have lb:=lt_of_block ab;exact g.heap h1 (λe=>by have:=e.1;omega)
 call B V d bm m hB hV hD hd hbm hm:=by
  obtain⟨k1,bd,bb,n1,bf,be,t1,br,bq,p1,bi,bh,f,hq⟩:=hD;have lb:=lt_of_block ab
  have C1:=Zd (Au hq w hV hE (by omega) (by omega) (by omega) p hh k o a n c L (λW g=>by
   have gW:Gr w W (λ_=>False):=((Gr.of hV:Gr w V (λ_=>False))).far g (λq e=>.inl (by rcases e with e|e <;> omega));exact hL.later (gW.below (Below.refl _ _) (Nat.le_refl _) (λ_ q=>q.elim))) sL x nm D' hx)
  have ah:=(hV.block _ lb).trans ab;have aa:=ZE hV Q;have q0:=Zb aa 0 _ rfl;have q1:=Zb aa 1 _ rfl;have q2:=Zb aa 2 _ rfl;have q3:=Zb aa 3 _ rfl;have q4:=Zb aa 4 _ rfl;have ql:=lt_of_block aa;have ae:=Zd ah;have ax:=Zd hV.size;have aw:=Zd (lt_of_block hq.box);clear hq hE hL sL hx ah ab Q aa;show Calls Tryz.prog 99 #[cU (some ⟨d,0,none⟩),cU (some ⟨b1,0,none⟩),cU (some ⟨z,0,none⟩)] V _;go_enter Tryz.func99,Tryz.ntmps99;go_wp2_with fail;refine C1.mono ?_;rintro e w1 ⟨rfl,g1,hk⟩;have Q:=g1.heap ae (by rintro (e|e) <;> omega);have r0:=Zb Q 0 _ rfl;have f0:=Zg Q 0;have rl:=lt_of_block Q
  have al:Hid (∀ W,W=w1.setCell ⟨z,0,none⟩ (E J nm)->Gr V W (λq=>q=d\/q=bm\/q=z)/\(x=0->KeptOn (λq=>q<B) W d bm D')/\Ziw z nm B W):=λW hW=>by
   have g2:Gr w1 W (λq=>q=z):=(by rw[hW];exact (Gr.refl w1 (λq=>q=z)).one z 0 (.inl rfl) _);refine⟨(g1.mono (λq _ e=>?_)).trans (g2.mono (λq _ e=>.inr (.inr e))),λe=>(hk e).kept.on g2 (λq e=>?_) (λe=>?_),?_⟩
   ·rcases e with e|e
    ·exact .inl e
    ·exact .inr (.inl e)
   ·have e:q=z:=e;show q<B;omega
   ·have e:d=z:=e;omega
   ·rw[hW];exact Tr.set_cells Q 0 _
  clear g1 hk Q C1 ae q0 q1 q2 q3 q4 ql;go_wp2;go_ret;exact⟨rfl,al _ rfl⟩
def ntR(K:List ByteArray)(N:List Int)(T:List Zl)(P:List TxD)(tip:Int)(b:Zl):Int×Int×Dsk:=
 if opE K N T P tip≠0 then (opE K N T P tip,0,Dsk.none) else
 if (tkR ⟨K,N,T,P,tip,(Z3 K N T noB).2⟩ b).1≠0 then ((tkR ⟨K,N,T,P,tip,(Z3 K N T noB).2⟩ b).1,0,Dsk.none) else
 (0,(tkR ⟨K,N,T,P,tip,(Z3 K N T noB).2⟩ b).2.1,(tkR ⟨K,N,T,P,tip,(Z3 K N T noB).2⟩ b).2.2)
def NtkR(w w':World)(x nm:Int)(D:Dsk)(e:Ending):Prop:=
 ∃ ka kn kc na nn nc ba bn bc pa pn pc,e = cS (cT #[.agg #[F ka kn kc],.agg #[F na nn nc,F ba bn bc,F pa pn pc,E J D.tip],E J nm,E J x]) /\
  Fresh w.heap.size w' (λw2=>Jx w2 ka kn D.k na nn D.n ba bn D.t pa pn D.p)/\SlOk ka kn kc/\SlOk na nn nc/\SlOk ba bn bc/\SlOk pa pn pc/\ZD w w'
theorem Zgt(ka kn kc K na ba pa nn nc bn bc pn pc N T P)(tip:Int)(w)(hE:Env w)(hK:Bk.TextsAt w ka kn K)(hN:Tr.IntsAt w na nn N)(hT:Tr.BlksAt w ba bn T)(hP:TxsAt w pa pn P)(sN:SlOk na nn nc)(sT:SlOk ba bn bc)(sP:SlOk pa pn pc)(hp:pn<=2513169434916)(hq:∀ t∈P,Tr.TxSmall t)
  (p hh k o:Int) (a n c L) (hL:TxsAt w a n L) (sL:SlOk a n c) (x nm:Int) (D:Dsk) (hx:ntR K N T P tip (p,hh,k,o,L)=(x,nm,D)) :
  Calls Tryz.prog 32 #[.agg #[F ka kn kc],.agg #[F na nn nc,F ba bn bc,F pa pn pc,E J tip],.agg #[E J p,E J hh,E J k,E J o,F a n c]] w λe w'=>NtkR w w' x nm D e:=by
 obtain⟨X,hX⟩:=ZG (Yr w [cR #[F ka kn kc] 24,cR #[F na nn nc,F ba bn bc,F pa pn pc,E J tip] 67,cR #[E J p,E J hh,E J k,E J o,F a n c] 39,cR #[F none 0 0] 24,cR #[F none 0 0,F none 0 0,F none 0 0,E J 0] 67,cR #[E J 0] 3]);have cc:X=(((((w.alloc (cR #[F ka kn kc] 24)).alloc (cR #[F na nn nc,F ba bn bc,F pa pn pc,E J tip] 67)).alloc (cR #[E J p,E J hh,E J k,E J o,F a n c] 39)).alloc (cR #[F none 0 0] 24)).alloc (cR #[F none 0 0,F none 0 0,F none 0 0,E J 0] 67)).alloc (cR #[E J 0] 3):=hX;have ap:ZD w X:=by rw[hX];exact Zs _ _
 have cd:X.heap.size=w.heap.size+6:=by rw[hX];exact Zy _ _
 have bg:X.heap[w.heap.size]? = some (cR [F ka kn kc].toArray 24 (0,0)):=by rw[hX];exact Zk _ w 0 _ rfl
 have az:X.heap[w.heap.size+1]? = some (cR [F na nn nc,F ba bn bc,F pa pn pc,E J tip].toArray 67 (0,0)):=by rw[hX];exact Zk _ w 1 _ rfl
 have da:X.heap[w.heap.size+2]? = some (cR [E J p,E J hh,E J k,E J o,F a n c].toArray 39 (0,0)):=by rw[hX];exact Zk _ w 2 _ rfl
 have db:X.heap[w.heap.size+3]? = some (cR [F none 0 0].toArray 24 (0,0)):=by rw[hX];exact Zk _ w 3 _ rfl
 have dc:X.heap[w.heap.size+4]? = some (cR [F none 0 0,F none 0 0,F none 0 0,E J 0].toArray 67 (0,0)):=by rw[hX];exact Zk _ w 4 _ rfl
 have bi:X.heap[w.heap.size+5]? = some (cR [E J 0].toArray 3 (0,0)):=by rw[hX];exact Zk _ w 5 _ rfl
 obtain⟨x0,bf⟩:=ZF (opE K N T P tip);obtain⟨⟨x1,m1,D1⟩,bd⟩:=ZF (tkR ⟨K,N,T,P,tip,(Z3 K N T noB).2⟩ (p,hh,k,o,L))
 have cg:x1≠0->m1=0:=λe=>by
  have:=Zjh (D:=⟨K,N,T,P,tip,(Z3 K N T noB).2⟩) (b:=(p,hh,k,o,L)) (by rw[bd];exact e);rw[bd] at this;exact this
 unfold ntR at hx;simp only[bf,bd] at hx
 have C1:=Zd (R6 ka kn kc K na ba pa nn nc bn bc pn pc N T P tip x0 X (hE.later ap) (hK.later ap) (hN.later ap) (hT.later ap) (hP.later ap) sN sT sP hp hq bf 99 #[cU (some ⟨w.heap.size+2,0,none⟩),cU (some ⟨w.heap.size+5,0,none⟩)] (λq=>q=w.heap.size+5) x1 D1 (Ziw (w.heap.size+5) m1) (λ_=>
  Zjj X (w.heap.size+2) (w.heap.size+5) p hh k o a n c L K N T P tip _ x1 m1 D1 (hE.later ap) (hL.later ap) sL da bi bd))
 have HX:=Zd hx;have bk:=Zd cg;have bo:=Zd ap;have bz:=Zd cd;have bu:=Zd db;have bv:=Zd dc;have bx:=Zd bi;have t0:=Zb bg 0 _ rfl;have t1:=Zb az 0 _ rfl;have t2:=Zb az 1 _ rfl;have t3:=Zb az 2 _ rfl;have t4:=Zb az 3 _ rfl;have tl:=lt_of_block bg;have dq:=lt_of_block az;clear hE hK hN hT hP sN sT sP hp hq hx hL sL bf bd cg ap cd bg az da db dc bi hX;go_enter Tryz.func32,Tryz.ntmps32;go_wp2_with fail;rw[<-cc];clear cc;(try go_wp2_with fail);refine C1.mono ?_;intro e w1 hr
 obtain⟨z,Q,aa,n5,ae,aj,b5,ac,ah,p5,ag,ak,rfl,hF,s1,s2,s3,s4,cf,g1⟩:∃ z Q aa n5 ae aj b5 ac ah p5 ag ak,e = cS (cT #[.agg #[F z Q aa],.agg #[F n5 ae aj,F b5 ac ah,F p5 ag ak,E J D.tip],E J x]) /\
   Fresh X.heap.size w1 (λw2=>Jx w2 z Q D.k n5 ae D.n b5 ac D.t p5 ag D.p)/\SlOk z Q aa/\SlOk n5 ae aj/\SlOk b5 ac ah/\SlOk p5 ag ak /\
   w1.heap[w.heap.size+5]? = some (cR [E J nm].toArray 3 (0,0))/\Gr X w1 (λq=>q=w.heap.size+5):=by
  have an:=Za HX
  rcases hr with ⟨h0,⟨z,Q,aa,n5,ae,aj,b5,ac,ah,p5,ag,ak,he,hF,s1,s2,s3,s4⟩,hb⟩|⟨h0,g,cj,hr⟩
  ·rw[if_pos h0] at an;simp only[aP] at an;obtain⟨rfl,rfl,rfl⟩:=an;exact⟨z,Q,aa,n5,ae,aj,b5,ac,ah,p5,ag,ak,he,hF,s1,s2,s3,s4,ZE hb bx,Gr.of hb⟩
  ·rw[if_neg (λq=>q h0)] at an
   rcases hr with ⟨h1,z,Q,aa,n5,ae,aj,b5,ac,ah,p5,ag,ak,he,hF,s1,s2,s3,s4⟩|⟨h1,z,Q,aa,n5,ae,aj,b5,ac,ah,p5,ag,ak,he,hF,s1,s2,s3,s4⟩
   ·rw[if_pos h1] at an;simp only[aP] at an;obtain⟨rfl,rfl,rfl⟩:=an;have di:=bk h1;subst di;exact⟨z,Q,aa,n5,ae,aj,b5,ac,ah,p5,ag,ak,he,hF,s1,s2,s3,s4,cj,g⟩
   ·rw[if_neg (λq=>q h1)] at an;simp only[aP] at an;obtain⟨rfl,rfl,rfl⟩:=an;exact⟨z,Q,aa,n5,ae,aj,b5,ac,ah,p5,ag,ak,he,hF,s1,s2,s3,s4,cj,g⟩
 have h3:=g1.heap bu (λe=>by have e:w.heap.size+3=w.heap.size+5:=e;omega);have h4:=g1.heap bv (λe=>by have e:w.heap.size+4=w.heap.size+5:=e;omega);have o0:=Zb h3 0 _ rfl;have of:=Zg h3 0;have ol:=lt_of_block h3;have p0:=Zb h4 0 _ rfl;have p1:=Zb h4 1 _ rfl;have p2:=Zb h4 2 _ rfl;have p3:=Zb h4 3 _ rfl;have cu:=Zg h4 0;have cw:=Zg h4 1;have cx:=Zg h4 2;have cy:=Zg h4 3;have pl:=lt_of_block h4;obtain⟨V,hV⟩:=ZG (((((w1.setCell ⟨w.heap.size+1+1+1,0,none⟩ (F z Q aa)).setCell ⟨w.heap.size+1+1+1+1,0,none⟩ (F n5 ae aj)).setCell ⟨w.heap.size+1+1+1+1,1,none⟩ (F b5 ac ah)).setCell ⟨w.heap.size+1+1+1+1,2,none⟩ (F p5 ag ak)).setCell ⟨w.heap.size+1+1+1+1,3,none⟩ (E J D.tip))
 have gV:Gr w1 V (λq=>q=w.heap.size+3\/q=w.heap.size+4\/q=w.heap.size+5):=by
  rw[hV];exact ((Gr.refl w1 (λq=>q=w.heap.size+3\/q=w.heap.size+4\/q=w.heap.size+5)).one (w.heap.size+3) 0 (.inl (.inl rfl)) _).four (w.heap.size+4) (.inl (.inr (.inl rfl))) _ _ _ _
 have v5:V.heap[w.heap.size+5]? = some (cR [E J nm].toArray 3 (0,0)):=by
  rw[hV]
  have g:Gr w1 (((((w1.setCell ⟨w.heap.size+1+1+1,0,none⟩ (F z Q aa)).setCell ⟨w.heap.size+1+1+1+1,0,none⟩ (F n5 ae aj)).setCell ⟨w.heap.size+1+1+1+1,1,none⟩ (F b5 ac ah)).setCell ⟨w.heap.size+1+1+1+1,2,none⟩ (F p5 ag ak)).setCell ⟨w.heap.size+1+1+1+1,3,none⟩ (E J D.tip)) (λq=>q=w.heap.size+3\/q=w.heap.size+4):=
   ((Gr.refl w1 (λq=>q=w.heap.size+3\/q=w.heap.size+4)).one (w.heap.size+3) 0 (.inl (.inl rfl)) _).four (w.heap.size+4) (.inl (.inr rfl)) _ _ _ _
  exact g.heap cf (λe=>by omega)
 have v4:V.heap[w.heap.size+4]? = some (cR [F n5 ae aj,F b5 ac ah,F p5 ag ak,E J D.tip].toArray 67 (0,0)):=by
  rw[hV];have g:Gr w1 (w1.setCell ⟨w.heap.size+1+1+1,0,none⟩ (F z Q aa)) (λq=>q=w.heap.size+3):=(Gr.refl w1 (λq=>q=w.heap.size+3)).one (w.heap.size+3) 0 (.inl rfl) _;exact Tr.set_cells (Tr.set_cells (Tr.set_cells (Tr.set_cells (g.heap h4 (λe=>by have e:w.heap.size+4=w.heap.size+3:=e;omega)) 0 _) 1 _) 2 _) 3 _
 have v3:V.heap[w.heap.size+3]? = some (cR [F z Q aa].toArray 24 (0,0)):=by
  rw[hV];have g:Gr (w1.setCell ⟨w.heap.size+1+1+1,0,none⟩ (F z Q aa)) (((((w1.setCell ⟨w.heap.size+1+1+1,0,none⟩ (F z Q aa)).setCell ⟨w.heap.size+1+1+1+1,0,none⟩ (F n5 ae aj)).setCell ⟨w.heap.size+1+1+1+1,1,none⟩ (F b5 ac ah)).setCell ⟨w.heap.size+1+1+1+1,2,none⟩ (F p5 ag ak)).setCell ⟨w.heap.size+1+1+1+1,3,none⟩ (E J D.tip)) (λq=>q=w.heap.size+4):=(Gr.refl (w1.setCell ⟨w.heap.size+1+1+1,0,none⟩ (F z Q aa)) (λq=>q=w.heap.size+4)).four (w.heap.size+4) (.inl rfl) _ _ _ _;exact g.heap (Tr.set_cells h3 0 _) (λe=>by have e:w.heap.size+3=w.heap.size+4:=e;omega)
 have bq:=Zd v3;have br:=Zd v4;have bs:=Zd v5;have GV:=Zd gV
 have dd:Hid (∀ W,Gr w1 W (λq=>q=w.heap.size+3\/q=w.heap.size+4\/q=w.heap.size+5)->NtkR w W x nm D (cS (cT #[.agg #[F z Q aa],.agg #[F n5 ae aj,F b5 ac ah,F p5 ag ak,E J D.tip],E J nm,E J x]))):=λW g=>by
  have ds:=Za bz;refine⟨z,Q,aa,n5,ae,aj,b5,ac,ah,p5,ag,ak,rfl,λW2 g2=>hF W2 ((g.mono (λq _ e=>?_)).trans (g2.mono (λq _ e=>?_))),s1,s2,s3,s4,?_⟩
  ·show q<X.heap.size;omega
  ·have e:q<w.heap.size:=e;show q<X.heap.size;omega
  ·have gX:Gr w X (λq=>False):=Gr.of bo;have gW:Gr w W (λ_=>False):=(gX.far g1 (λq e=>.inl (by have e:q=w.heap.size+5:=e;omega))).far g (λq e=>.inl (by omega));exact gW.below (Below.refl _ _) (Nat.le_refl _) (λ_ q=>q.elim)
 clear hr hF s1 s2 s3 s4 cf g1 h3 h4 v3 v4 v5 gV HX bk bu bv bx C1 t0 t1 t2 t3 t4 tl dq bz bo
 go_upto_region 2 with fail
 rw[<-hV];clear hV o0 of ol p0 p1 p2 p3 cu cw cx cy pl;have v3:=Za bq;have v4:=Za br;have v5:=Za bs;have o0:=Zb v3 0 _ rfl;have of:=Zg v3 0;have ol:=lt_of_block v3;have p0:=Zb v4 0 _ rfl;have p1:=Zb v4 1 _ rfl;have p2:=Zb v4 2 _ rfl;have p3:=Zb v4 3 _ rfl;have cu:=Zg v4 0;have cw:=Zg v4 1;have cx:=Zg v4 2;have cy:=Zg v4 3;have pl:=lt_of_block v4;have q0:=Zb v5 0 _ rfl;have du:=Zg v5 0;have ql:=lt_of_block v5;clear v3 v4 v5 bq br bs
 go_region
 all_goals
  go_wp2;(try simp only[Exit.inBlock,Exit.then]);refine bodyPost_ret (v:=cT #[.agg #[F z Q aa],.agg #[F n5 ae aj,F b5 ac ah,F p5 ag ak,E J D.tip],E J nm,E J x]) ?_ rfl ?_
  ·rw[Tk rfl];go_simp
  ·exact dd _ (((((GV.one (w.heap.size+3) 0 (.inl (.inl rfl)) _).four (w.heap.size+4) (.inl (.inr (.inl rfl))) _ _ _ _).one (w.heap.size+5) 0 (.inl (.inr (.inr rfl))) _).trans (Gr.of (Zi _))))
open Bk (Right nm nmGo nameR place)
def Chn(K:List ByteArray)(h:Int):List Zj->List TxD->List Zj->Prop
 | C,[],D=>C=D
 | C,t::l,D=>∃ C' s n,Zw t=0/\t.2.1.length≠0/\nm K (Z7 t)=(K,n,0)/\apD C t n h=(0,C',s)/\Chn K h C' l D
theorem F3{K}(hK:Right K)(s:ByteArray):nameR K s=nm K s:=by unfold Bk.nameR;rw[if_pos ((Bk.right_iff K).2 hK)]
theorem Uz{t}(h:Zw t=0):txT t=Z7 t:=by unfold txT;rw[if_pos h]
theorem Gx{h:Int}{K}(hK:Right K):∀ (S:List TxD) (C C1:List Zj),Zu h S (K,C)=(S,K,C1)->Chn K h C S C1
 | [],C,C1,e=>by
  rw[Zu] at e;exact (Prod.mk.inj (Prod.mk.inj e).2).2
 | t :: l,C,C1,e=>by
  rw[Zu] at e;by_cases q:(doD h (K,C) t).1=0
  ·rw[if_pos q] at e;injection e with e1 e2;injection e1 with _ e1;have z:Zu h l (doD h (K,C) t).2=(l,K,C1):=Prod.ext e1 e2;obtain⟨⟨x,K',C'⟩,Q⟩:=ZF (doD h (K,C) t);rw[Q] at q z;simp only at q z;subst q;obtain⟨d1,⟨M,rfl⟩,_⟩:=T7 hK Q;obtain⟨_,M2,s2⟩:=Wm (h:=h) l (K++M) C' d1;rw[z] at s2
   have hM:M=[]:=by
    have s3:K=K++M++M2:=s2;have:=congrArg List.length s3;rw[bH,bH] at this;exact List.length_eq_zero_iff.1 (by omega)
   subst hM;rw[List.append_nil] at Q z;obtain⟨p1,p2,n,s,p3,p4⟩:=T6 Q;rw[F3 hK,Uz p1] at p3;exact ⟨C',s,n,p1,p2,p3,p4,Gx hK l C' C1 z⟩
  ·rw[if_neg q] at e;have h1:=congrArg (λr=>r.1.length) e;have h2:=J1 h l (K,C);have h3:=congrArg List.length (Un h l (K,C));rw[List.length_map] at h3;simp only[List.length_cons] at h1;omega
theorem Mv{h:Int}{K C C1 S}(z:Chn K h C S C1):∀ t∈S,(nm K (Z7 t)).1=K/\(nm K (Z7 t)).2.2=0:=by
 induction S generalizing C with
 |nil=>intro t q;cases q
 |cons t l ih=>
  obtain⟨_,_,_,_,_,h3,_,h5⟩:=z;intro x hx
  rcases bB.1 hx with rfl|hx
  ·rw[h3];exact⟨rfl,rfl⟩
  ·exact ih h5 x hx
theorem Fx{K}:∀ (l:List ByteArray) (z:List Int),(∀ s∈l,s.size<=4000/\0<Bk.place s K)->Bk.nmGo K z l=(K,z++l.map (λs=>(Bk.place s K:Int)),0)
 | [],z,_=>by rw[Bk.nmGo];simp
 | s :: r,z,h=>by
  have Q:=h s (by simp);have e:=Bk.nm_there Q.1 Q.2;rw[Bk.nmGo,e];simp only[if_true];rw[Fx r _ (λx hx=>h x (by simp[hx]))];simp
theorem Wj{K}{s:Int}{b:Zl}(h:kbD K s b=true):Ym b=0/\(Bk.place (Bf b) K:Int)=s/\∀ t∈b.2.2.2.2,Zw t=0/\Bk.place (txT t) K≠0:=by
 unfold kbD at h;simp only[Bool.and_eq_true,decide_eq_true_eq,List.all_eq_true] at h;refine⟨h.1,h.2.1,λt z=>?_⟩;have:=h.2.2 t z;unfold knT at this;simpa using this
theorem F7{K}{s:Int}{b:Zl}(h1:Ym b=0)(h2:(Bk.place (Bf b) K:Int)=s)(h3:∀ t∈b.2.2.2.2,Zw t=0/\Bk.place (txT t) K≠0):kbD K s b=true:=by
 unfold kbD;simp only[Bool.and_eq_true,decide_eq_true_eq,List.all_eq_true];refine⟨h1,h2,λt z=>?_⟩;unfold knT;simpa using h3 t z
theorem Jm{K M}{s:Int}{b:Zl}(h0:s≠0)(h:kbD K s b=true):kbD (K++M) s b=true:=by
 obtain⟨h1,h2,h3⟩:=Wj h;refine F7 h1 ?_ (λt z=>⟨(h3 t z).1,?_⟩)
 ·rw[Bk.place_stays M (by omega)];exact h2
 ·have:=(h3 t z).2;rw[Bk.place_stays M (by omega)];exact this
theorem S9{b:Zl}(h:Ym b=0):Bf b=Ws b:=by unfold Bf;rw[if_pos h]
theorem Hd{K}(hK:Bk.Right K){s:ByteArray}(h:0<Bk.place s K):s.size<=4000:=by
 have z:s∈K:=Classical.byContradiction λq=>by have:=Bk.place_zero.2 q;omega
 exact hK.2.2 s z
theorem Sn{K}(hK:Bk.Right K){s:Int}{b:Zl}(h0:s≠0)(h:kbD K s b=true):Xu K b=(K,s,b.2.2.2.2.map (λt=>(Bk.place (Z7 t) K:Int)),0):=by
 obtain⟨h1,h2,h3⟩:=Wj h
 have z:Bk.allR K (Yk b)=(K,(Yk b).map (λs=>(Bk.place s K:Int)),0):=by
  unfold Bk.allR;rw[if_pos ((Bk.right_iff K).2 hK)]
  have:=Fx (K:=K) (Yk b) [] (λx hx=>by
   have hp:0<Bk.place x K:=by
    unfold Yk at hx
    rcases List.mem_append.1 hx with q|q
    ·obtain⟨t,Q,rfl⟩:=List.mem_map.1 q;have:=h3 t Q;rw[Uz this.1] at this;omega
    ·have e:x=Ws b:=(by simpa using q);rw[e,<-S9 h1];omega
   exact⟨Hd hK hp,hp⟩)
  simpa using this
 unfold Xu;rw[if_neg (by rw[h1];decide),z];simp only[ne_eq,not_true_eq_false,if_false];rw[S9 h1] at h2;refine Prod.ext rfl (Prod.ext ?_ (Prod.ext ?_ rfl))
 ·simp only[Yk,List.map_append,List.map_map,List.map_cons,List.map_nil];rw[List.getD_eq_getElem?_getD,List.getElem?_append_right (by simp)];simp[h2]
 ·simp only[Yk,List.map_append,List.map_map,List.map_cons,List.map_nil];rw[List.take_append_of_le_length (by simp)];simp[List.take_of_length_le,Function.comp_def]
theorem Zee{K M}(hK:Bk.Right K)(hM:Bk.Right (K++M)){s:Int}{b:Zl}(h0:s≠0)(h:kbD K s b=true)(C):Ul (K++M) C b=Ul K C b:=by
 have z:=Sn hK h0 h;have Q:=Sn hM h0 (Jm h0 h);obtain⟨_,_,h3⟩:=Wj h
 have e3:b.2.2.2.2.map (λt=>(Bk.place (Z7 t) (K++M):Int))=b.2.2.2.2.map (λt=>(Bk.place (Z7 t) K:Int)):=List.map_congr_left (λt ht=>by
  have:=h3 t ht;rw[Uz this.1] at this;rw[Bk.place_stays M (by omega)])
 have en:nfD (K++M) C b=nfD K C b:=by
  unfold nfD;rw[z,Q,e3]
 unfold Ul;rw[en]
theorem Jv{K M}(hK:Bk.Right K)(Q:Bk.Right (K++M)):∀ (N:List Int) (T:List Zl) (β : Int->List Zj),(∀ x∈N,x≠0)->(Z3 K N T β).1=0->Z3 (K++M) N T β = Z3 K N T β
 | [],_,β,_,_=>rfl
 | _ :: _,[],β,_,_=>rfl
 | s :: N,b :: T,β,hn,h=>by
  have h0:=hn s (by simp);rw[Z3] at h ⊢;rw[Z3];split at h
  ·cases h
  rename_i z;have z:kbD K s b=true:=by simpa using z
  split at h
  ·rename_i q;exact absurd h q
  rename_i q2;rw[Jm h0 z,Zee hK Q h0 z,z];simp only[Bool.true_eq_false,if_false,if_neg q2];exact Jv hK Q N T _ (λx hx=>hn x (by simp[hx])) h
theorem Hp:∀ (l L:List ByteArray) (N:List Int) (M:List ByteArray) (N':List Int),Bk.nmGo L N l=(M,N',0)->N'=N++l.map (λs=>(Bk.place s M:Int))/\∀ s∈l,0<Bk.place s M
 | [],L,N,M,N',h=>by
  rw[Bk.nmGo] at h;simp only[aP,and_true] at h;obtain⟨_,rfl⟩:=h;simp
 | s :: r,L,N,M,N',h=>by
  rw[Bk.nmGo] at h;split at h
  ·rename_i q;obtain⟨p1,p2,_⟩:=Bk.nm_place q;obtain⟨e1,e2⟩:=Hp r _ _ M N' h;have hg:=Bk.nmGo_grows r (Bk.nm L s).1 (N++[(Bk.nm L s).2.1]) (by rw[h]);obtain⟨Q,z⟩:=hg;rw[h] at z;have z:M=(Bk.nm L s).1++Q:=z;have hs:Bk.place s M=Bk.place s (Bk.nm L s).1:=(by rw[z];exact Bk.place_stays Q p2);refine⟨?_,λx hx=>?_⟩
   ·rw[e1,p1,<-hs];simp
   ·rcases bB.1 hx with rfl|hx
    ·rw[hs];exact p2
    ·exact e2 x hx
  ·rename_i q;simp only[aP] at h;exact absurd h.2.2 q
theorem Zcy{b:Zl}(h:Ym b=0):∀ t∈b.2.2.2.2,Zw t=0:=by
 obtain⟨p,z,k,n,L⟩:=b;exact (V6 h).2.2.2.2
theorem Zcl{K Q}{b:Zl}{s:Int}{Ns}(hK:Bk.Right K)(h:Xu K b=(Q,s,Ns,0)):Bk.Right Q/\(∃ M,Q=K++M)/\kbD Q s b=true/\s≠0:=by
 unfold Xu at h;split at h
 ·rename_i q;simp only[aP] at h;exact absurd h.2.2.2 q
 rename_i hc;have hc:=aQ.1 hc;split at h
 ·rename_i q;simp only[aP] at h;exact absurd h.2.2.2 q
 rename_i z;have z:=aQ.1 z;simp only[aP] at h;obtain⟨h1,h2,_,_⟩:=h;obtain⟨⟨A,B,ap⟩,hr⟩:=ZF (Bk.allR K (Yk b));rw[hr] at h1 h2 z;have z:ap=0:=z;subst z;have h1:A=Q:=h1;subst h1
 have ac:Bk.nmGo K [] (Yk b)=(A,B,0):=by
  unfold Bk.allR at hr;rw[if_pos ((Bk.right_iff K).2 hK)] at hr;exact hr
 have hg:=Bk.nmGo_grows (Yk b) K [] (by rw[ac]);have hR:=Bk.nmGo_right (Yk b) K [] hK (by rw[ac]);rw[ac] at hg hR;obtain⟨e1,e2⟩:=Hp _ _ _ _ _ ac;have hb:0<Bk.place (Ws b) A:=e2 _ (by unfold Yk;simp)
 have hs:s=(Bk.place (Ws b) A:Int):=by
  rw[<-h2,e1];simp only[Yk,List.map_append,List.map_map,List.map_cons,List.map_nil,List.nil_append];rw[List.getD_eq_getElem?_getD,List.getElem?_append_right (by simp)];simp
 refine⟨hR,hg,F7 hc (by rw[S9 hc];exact hs.symm) (λt ht=>?_),by omega⟩;have ah:=(Zcy hc t ht);refine⟨ah,?_⟩;rw[Uz ah];have:=e2 (Z7 t) (by unfold Yk;simp only[List.mem_append,List.mem_map];exact .inl ⟨t,ht,rfl⟩);omega
theorem Zaz{K}{s:Int}{b:Zl}:∀ (N:List Int) (T:List Zl) (β γ : Int->List Zj),N.length=T.length->Z3 K N T β = (0,γ)->kbD K s b=true->(Ul K (γ b.1) b).1=0->Z3 K (N++[s]) (T++[b]) β = (0,Py γ s (Ul K (γ b.1) b).2.1)
 | [],[],β,γ,_,h,h1,h2=>by
  rw[Z3] at h;simp only[aP,true_and] at h;subst h;show Z3 K [s] [b] β = _;rw[Z3,h1,Z3];simp[h2]
 | [],_ :: _,β,γ,hl,_,_,_=>by simp at hl
 | _ :: _,[],β,γ,hl,_,_,_=>by simp at hl
 | x :: N,c :: T,β,γ,hl,h,h1,h2=>by
  rw[Z3] at h;show Z3 K (x :: (N++[s])) (c :: (T++[b])) β = _;rw[Z3];split at h
  ·cases h
  rename_i z;rw[if_neg z];split at h
  ·rename_i q;exact absurd (congrArg bK h) q
  rename_i Q;rw[if_neg Q];exact Zaz N T _ γ (by simpa using hl) h h1 h2
theorem Zhi{N:List Int}{T:List Zl}(z:Tr.chkTr N T=0):∀ (n k:Nat) (_:k<N.length) (h':k<T.length),k<=n->T[k].2.1<=(k:Int)+1
 | n,k,h,h',hn=>by
  have ok:=Tr.TrOk.of z;obtain⟨a1,a2⟩:=Tr.ahead z k h h';have p:=ok.hgt N[k] (List.getElem_mem h);rw[a1] at p
  rcases a2 with e|e
  ·rw[e,Tr.fnd_out ok.len ok.zero] at p;have:T[k].2.1=0+1:=p;omega
  ·obtain⟨j,hj,Q⟩:=List.getElem_of_mem e;have ae:j<k:=(by rw[List.length_take] at hj;omega);rw[List.getElem_take] at Q;have aa:j<T.length:=(by omega);have b1:=(Tr.ahead z j (by omega) aa).1
   match n,hn with
   | 0,hn=>omega
   | n+1,hn=>
    have ih:=Zhi z n j (by omega) aa (by omega);rw[<-Q,b1] at p;omega
theorem Zji{N T}{t:Int}(h:Tr.bstD N T=(t,0)):0<=Yt N T t/\Yt N T t<=24:=by
 obtain⟨z,ht⟩:=Yn h;have ok:=Tr.TrOk.of z;have hb:=(Gk h).2.1;have h24:=(W3 z).2.1;refine⟨hb,?_⟩;unfold Yt Tr.blockE;rw[if_neg (λq=>q z)];split
 ·rename_i q;have q:t∈N:=by simpa using q
  obtain⟨k,Q,rfl⟩:=List.getElem_of_mem q;have aa:k<T.length:=by rw[<-ok.len];exact Q
  have:=Zhi z k k Q aa (Nat.le_refl _);simp only;rw[(Tr.ahead z k Q aa).1];omega
 ·show (0:Int)<=24;decide
theorem Cg{K C P}{h:Int}(e:swE K C P h=0){N T}{t:Int}{β : Int->List Zj}(hC : β t=C)(hh:Yt N T t+1=h):poE (Zu h P (K,C)).2.1 N T (Zu h P (K,C)).1 t β = 0:=by
 obtain⟨o,hl⟩:=Ua e;obtain⟨hK,ag,h1,h2⟩:=W7 o;obtain⟨r1,_⟩:=Wm P K C hK (h:=h);have Q:=Je P K C [] hK (h:=h) (by rw[List.append_nil];exact r1);rw[List.append_nil] at Q;obtain⟨⟨z,K2,C2⟩,hr⟩:=ZF (Zu h P (K,C))
 have ap:z.length<=P.length:=by
  have:=J1 h P (K,C);have e2:=congrArg List.length (Un h P (K,C));rw[List.length_map,hr] at e2;have e2:(swT h P (K,C)).length=z.length:=e2;omega
 have ac:=(Jd P K C hK ag (h:=h)).2.2;rw[hr] at Q r1 ac ⊢;simp only at Q r1 ac ⊢;have ck:=Mv (Gx r1 z C C2 Q);unfold poE;split
 ·rfl
 have al:z.all (knT K2)=true:=List.all_eq_true.2 (λx hx=>by
  have c1:=(ac x hx).1;have c2:=ck x hx;have c3:=Bk.nm_place c2.2;rw[c2.1] at c3;unfold knT;rw[Uz c1];have:=c3.2.1;simp[c1];omega)
 rw[if_neg (by rw[al];decide),hC,hh,Q]
 have am:swE K2 C z h=0:=by
  unfold swE;rw[Tq r1 ag h1 h2];simp;omega
 rw[if_neg (by rw[am];decide)];simp
theorem Jz{K N T P}{tip:Int}{b:Zl}{nm:Int}{D:Dsk}(h:opE K N T P tip=0)(e:tkR ⟨K,N,T,P,tip,(Z3 K N T noB).2⟩ b=(0,nm,D)) :
  opE D.k D.n D.t D.p D.tip=0/\(Z3 D.k D.n D.t noB).2=D.β/\D.n=N++[nm]/\D.t=T++[b]/\kbD D.k nm b=true/\(∃ M,D.k=K++M)/\Tr.addE N T nm b=(D.n,D.t,0):=by
 obtain⟨o1,o2,o3,_⟩:=Yp h;have hK:=(Bk.right_iff K).1 o1;obtain⟨⟨z,s,Ns,x1⟩,h1⟩:=ZF (Xu K b);obtain⟨⟨N1,T1,x2⟩,h2⟩:=ZF (Tr.addE N T s b);obtain⟨⟨x3,C3,U3⟩,h3⟩:=ZF (Ul z ((Z3 K N T noB).2 b.1) b);obtain⟨⟨t,x4⟩,h4⟩:=ZF (Tr.bstD N1 T1);obtain⟨bx,hz⟩:=ZF (Yt N1 T1 t);unfold tkR at e;simp only[h1,h2,h3,h4,hz] at e;split at e
 ·rename_i q;exact absurd (congrArg bK e) q
 rename_i q1;have q1:=aQ.1 q1;subst q1;split at e
 ·rename_i q;exact absurd (congrArg bK e) q
 rename_i q2;have q2:=aQ.1 q2;subst q2;split at e
 ·rename_i q;exact absurd (congrArg bK e) q
 rename_i q3;have q3:=aQ.1 q3;subst q3;split at e
 ·rename_i q;exact absurd (congrArg bK e) q
 rename_i q4;have q4:=aQ.1 q4;subst q4;split at e
 ·rename_i q;exact absurd (congrArg bK e) q
 rename_i q5;have q5:=aQ.1 q5;obtain⟨k1,⟨M1,af⟩,k3,k4⟩:=Zcl hK h1;obtain⟨hc,_,_,a1,a2⟩:=Tr.addE_ok h2;have ok:=Tr.TrOk.of hc;have bd:∀ x∈N,x≠0:=λx hx=>by have:=(ok.nm x hx).1;omega
 have az:Z3 z N T noB=(0,(Z3 K N T noB).2):=by
  rw[af,Jv hK (af ▸ k1) N T noB bd o3];exact Prod.ext o3 rfl
 have ad:=Zaz N T noB _ ok.len az k3 (by rw[h3]);rw[h3,<-a1,<-a2] at ad;have bg:=Zji h4;rw[hz] at bg;have bf:¬1000<bx+1:=by omega
 obtain⟨γ,hγ⟩:∃ γ,Py (Z3 K N T noB).2 s C3 = γ:=⟨_,rfl⟩;simp only[hγ] at e q5 ad;unfold Bu at e q5;rw[if_neg bf] at e q5;simp only at e q5
 have hF:swF z (γ t) P (bx+1) (swE z (γ t) P (bx+1))=((Zu (bx+1) P (z,γ t)).2.1,(Zu (bx+1) P (z,γ t)).1,(Zu (bx+1) P (z,γ t)).2.2,Zr (γ t) - Zr (Zu (bx+1) P (z,γ t)).2.2):=by
  unfold swF;rw[if_pos q5]
 rw[hF] at e;simp only[aP,true_and] at e;obtain⟨rfl,rfl⟩:=e;simp only;obtain⟨r1,M2,ae⟩:=Wm P z (γ t) k1 (h:=bx+1);have be:∀ x∈N1,x≠0:=λx hx=>by have:=((Tr.TrOk.of (Yn h4).1).nm x hx).1;omega
 have aq:Z3 (Zu (bx+1) P (z,γ t)).2.1 N1 T1 noB=(0,γ):=by
  rw[ae,Jv k1 (ae ▸ r1) N1 T1 noB be (by rw[ad])];exact ad
 have po:=Cg q5 (N:=N1) (T:=T1) (t:=t) (β:=γ) rfl (by rw[hz]);refine⟨?_,by rw[aq],a1,a2,by rw[ae];exact Jm k4 k3,⟨M1++M2,by rw[ae,af,List.append_assoc]⟩,h2⟩;unfold opE;rw[if_neg (by rw[(Bk.right_iff _).2 r1];decide),h4];simp only[ne_eq,not_true_eq_false,if_false,aq];exact po
theorem mvd{V W:World}{b:Nat}{o:Obj}(z:ZD V W)(h:Hid (V.heap[b]? = some o)):Hid (W.heap[b]? = some o):=ZE z h
theorem onb{U V W:World}(h:Hid (ZD U V))(z:ZD V W):Hid (ZD U W):=Zf h z
section
variable {V : World} {b : Nat} {t : TypeId} {v0 v1 v2 v3 v4 : Value}
theorem cl1(h:Hid (V.heap[b]? = some (cR [v0].toArray t (0,0)))):V.cell? ⟨b,0,none⟩=some v0/\b<V.heap.size:=⟨Zb h 0 _ rfl,lt_of_block h⟩
theorem cl2(h:Hid (V.heap[b]? = some (cR [v0,v1].toArray t (0,0)))):V.cell? ⟨b,0,none⟩=some v0/\V.cell? ⟨b,1,none⟩=some v1/\b<V.heap.size:=⟨Zb h 0 _ rfl,Zb h 1 _ rfl,lt_of_block h⟩
theorem cl3(h:Hid (V.heap[b]? = some (cR [v0,v1,v2].toArray t (0,0)))):V.cell? ⟨b,0,none⟩=some v0/\V.cell? ⟨b,1,none⟩=some v1/\V.cell? ⟨b,2,none⟩=some v2/\b<V.heap.size:=⟨Zb h 0 _ rfl,Zb h 1 _ rfl,Zb h 2 _ rfl,lt_of_block h⟩
theorem cl4(h:Hid (V.heap[b]? = some (cR [v0,v1,v2,v3].toArray t (0,0)))):V.cell? ⟨b,0,none⟩=some v0/\V.cell? ⟨b,1,none⟩=some v1/\V.cell? ⟨b,2,none⟩=some v2/\V.cell? ⟨b,3,none⟩=some v3/\b<V.heap.size:=⟨Zb h 0 _ rfl,Zb h 1 _ rfl,Zb h 2 _ rfl,Zb h 3 _ rfl,lt_of_block h⟩
theorem cl5(h:Hid (V.heap[b]? = some (cR [v0,v1,v2,v3,v4].toArray t (0,0)))):V.cell? ⟨b,0,none⟩=some v0/\V.cell? ⟨b,1,none⟩=some v1/\V.cell? ⟨b,2,none⟩=some v2/\V.cell? ⟨b,3,none⟩=some v3/\V.cell? ⟨b,4,none⟩=some v4/\b<V.heap.size:=⟨Zb h 0 _ rfl,Zb h 1 _ rfl,Zb h 2 _ rfl,Zb h 3 _ rfl,Zb h 4 _ rfl,lt_of_block h⟩
end
