import Derived.Test.YtmomfkikogbdeaaGreatDoorH
import Derived.Test.YtmomfkikogbdeaaGreatDoorG38
open Go.Proofs.Tryz
open Decidable renaming not_not->aK
open Go renaming lt_of_block->aA,maxLen->cW
open Go.Ending renaming returned->dA
open Go.IntKind renaming i64->J
open Go.Obj renaming cells->cZ
open Go.Proofs.Tryz renaming prog->aB
open Go.Value renaming int->E,slice->F,tuple->dB,bool->dD
open List renaming length_append->bW,getElem?_eq_getElem->cF,getElem_mem->aQ,take_succ_eq_append_getElem->aS,mem_append->bA,getElem?_eq_some_iff->cT,length_cons->cL,map_cons->bO,mem_map->cP,mem_singleton->bX,flatten_cons->bJ,append_assoc->bZ
open Nat renaming lt_of_lt_of_le->aD,le_refl->aF,zero_le->aL
open Prod.mk renaming injEq->aN
set_option maxHeartbeats 12800000
set_option maxRecDepth 10000
namespace Go.Proofs.YtmomfkikogbdeaaGreatDoor
open Go.RowKit
def kn1:Int×Zl×Dsk:=nmR [] [] [] [] 0 2 0 []
def kn2:Int×Zl×Dsk:=nmR kn1.2.2.k kn1.2.2.n kn1.2.2.t kn1.2.2.p kn1.2.2.tip 3 0 []
def knC:List Zj:=(Z0 kn2.2.2.k kn2.2.2.n kn2.2.2.t noB).2 kn2.2.2.tip
theorem kn1_x:kn1.1=0:=by kernel_rfl
theorem kn1_h:kn1.2.1.2.1=1:=by kernel_rfl
theorem kn1_p:kn1.2.2.p=[]:=by kernel_rfl
theorem kn2_x:kn2.1=0:=by kernel_rfl
theorem kn2_q:kn2.2.1.1≠0:=by
 have h:kn2.2.1.1=2:=by kernel_rfl
 rw[h];decide
theorem kn2_h:kn2.2.1.2.1=2:=by kernel_rfl
theorem kn2_p:kn2.2.2.p=[]:=by kernel_rfl
theorem kn2_o:opE kn2.2.2.k kn2.2.2.n kn2.2.2.t kn2.2.2.p kn2.2.2.tip=0:=by kernel_rfl
theorem Zok:knC.length=2:=by kernel_rfl
theorem Zrq:Z4 knC=0:=by kernel_rfl
theorem Zoj:Zp (knC.filter (ofK []))=128:=by kernel_rfl
theorem Ca(w:World)(hE:Env w):ZH 33 #[] w (dD true):=by
 obtain⟨⟨x1,⟨q1,h1,r1,o1,L1⟩,D⟩,az⟩:=ZF (kn1);obtain⟨⟨x2,⟨q2,h2,r2,o2,L2⟩,Q⟩,af⟩:=ZF (kn2);obtain⟨C,hC⟩:=ZF (knC);obtain rfl:0=x1:=by rw[<-kn1_x,az]
 obtain rfl:1=h1:=by rw[<-kn1_h,az]
 have ea:D.p=[]:=by have:=kn1_p;rw[az] at this;exact this
 obtain rfl:0=x2:=by rw[<-kn2_x,af]
 obtain rfl:2=h2:=by rw[<-kn2_h,af]
 have ec:Q.p=[]:=by have:=kn2_p;rw[af] at this;exact this
 have en:q2≠0:=by have:=kn2_q;rw[af] at this;exact this
 have eb:opE Q.k Q.n Q.t Q.p Q.tip=0:=by have:=kn2_o;rw[af] at this;exact this
 have el:nmR D.k D.n D.t D.p D.tip 3 0 []=(0,(q2,2,r2,o2,L2),Q):=by
  have:=af;unfold kn2 at this;rw[az] at this;exact this
 have dw:(Z0 Q.k Q.n Q.t noB).2 Q.tip=C:=by
  have:=hC;unfold knC at this;rw[af] at this;exact this
 have dy:C.length=2:=hC ▸ Zok;have dx:Z4 C=0:=hC ▸ Zrq;have dz:Zp (C.filter (ofK []))=128:=hC ▸ Zoj;obtain⟨C1,HE,dr,bg,ca,fc,dq,fa⟩:=kh8 (Le none 0 0 [] none none none 0 0 0 0 0 0 [] [] [] 0 w hE (Bk.TextsAt.nil _ _) ⟨rfl,λh=>absurd h (by decide)⟩ (RowsAt.nil _ _) (RowsAt.nil _ _) Zq Zq Zq (by decide) (λt h=>by cases h) 2 0 none 0 0 [] ⟨rfl,λh=>absurd h (by decide)⟩ Zq (by decide) 0 (q1,1,r1,o1,L1) D az) hE ea ec eb el dw dy;obtain⟨ez,fb⟩:=kh2 dx dz;have ga:(q2 != 0)=true:=by simp[en]
 clear hE az af hC ea ec en eb el dw dy dx dz;go_enter func33,ntmps33;go_wp2_with fail;refine C1.mono ?_;rintro e z ⟨k1,cm,cl,n1,cp,cn,t1,df,de,p1,br,cu,a1,l1,c1,rfl,ed,fo,eq,er,es,fp,ce⟩;dsimp only[Jn];obtain⟨X,hX⟩:=ZG (Yw z [cZ #[F k1 cm cl] 24,cZ #[F n1 cp cn,F t1 df de,F p1 br cu,E J D.tip] 67,cZ #[E J q1,E J 1,E J r1,E J o1,F a1 l1 c1] 39]);have eg:X=((z.alloc (cZ #[F k1 cm cl] 24)).alloc (cZ #[F n1 cp cn,F t1 df de,F p1 br cu,E J D.tip] 67)).alloc (cZ #[E J q1,E J 1,E J r1,E J o1,F a1 l1 c1] 39):=hX;have cf:ZD z X:=by rw[hX];exact Zs _ _
 have eh:X.heap.size=z.heap.size+3:=by rw[hX];exact Z3 _ _
 have x0:=kl0 hX _ _ rfl;have x1:=kl hX 1 _ _ rfl;have x2:=kl hX 2 _ _ rfl;have D1:=(ed X (Gr.of cf)).1;have fk:br=0:=by have:=D1.p.1;rw[Za dr] at this;exact this.symm
 have cg:=Zf ce cf;obtain⟨C2,dp,fe,ff,fg,fh,fd⟩:=kh7 (Le k1 cm cl D.k n1 t1 p1 cp cn df de br cu D.n D.t D.p D.tip X (HE.later cg) D1.k D1.n D1.b D1.p eq er es (by omega) (λt h=>by rw[Za dr] at h;cases h) 3 0 none 0 0 [] ⟨rfl,λh=>absurd h (by decide)⟩ Zq (by decide) 0 (q2,2,r2,o2,L2) Q fc) cg x0 x1 x2 eh ce.size;have t0:=Zb x0 0 _ rfl;obtain⟨da,db,dc,dd,-⟩:=kc4 x1;have dg:=aA x0;have dh:=aA x1;clear hX ed fo eq er es fp D1 fk cg cf eh x0 x1 x2 C1 ce
 go_upto_region 2 with fail
 rw[<-eg];clear eg;go_wp2_with fail;refine C2.mono ?_;rintro e w2 ⟨k2,ae,ad,n2,am,al,t2,av,au,p2,ag,ap,a2,l2,c2,rfl,ee,fq,bt,bu,bv,fs,ay⟩;dsimp only[Jn];have y0:=ZE ay fe;have y1:=ZE ay ff;have y2:=ZE ay fg;clear t0 da db dc dd dg dh C2;have t0:=Zb y0 0 _ rfl;obtain⟨da,db,dc,dd,-⟩:=kc4 y1;have ft:=Zg y0 0;have fu:=Zg y1 0;have fv:=Zg y1 1;have fw:=Zg y1 2;have fx:=Zg y1 3;have dg:=aA y0;have dh:=aA y1;obtain⟨U,hU⟩:=ZG (((((w2.setCell ⟨z.heap.size,0,none⟩ (F k2 ae ad)).setCell ⟨z.heap.size+1,0,none⟩ (F n2 am al)).setCell ⟨z.heap.size+1,1,none⟩ (F t2 av au)).setCell ⟨z.heap.size+1,2,none⟩ (F p2 ag ap)).setCell ⟨z.heap.size+1,3,none⟩ (E J Q.tip))
 have gU:Gr w2 U (λq=>q=z.heap.size\/q=z.heap.size+1):=by
  rw[hU];exact ((Gr.refl w2 (λq=>q=z.heap.size\/q=z.heap.size+1)).one z.heap.size 0 (.inl (.inl rfl)) _).four (z.heap.size+1) (.inl (.inr rfl)) _ _ _ _
 have ef:U.heap.size=w2.heap.size:=by rw[hU];simp[World.setCell]
 have u1:U.heap[z.heap.size+1]? = some (cZ [F n2 am al,F t2 av au,F p2 ag ap,E J Q.tip].toArray 67 (0,0)):=by
  rw[hU];have g:Gr w2 (w2.setCell ⟨z.heap.size,0,none⟩ (F k2 ae ad)) (λq=>q=z.heap.size):=(Gr.refl w2 (λq=>q=z.heap.size)).one z.heap.size 0 (.inl rfl) _;exact Tr.set_cells (Tr.set_cells (Tr.set_cells (Tr.set_cells (g.heap y1 (λe=>by have e:z.heap.size+1=z.heap.size:=e;omega)) 0 _) 1 _) 2 _) 3 _
 have u0:U.heap[z.heap.size]? = some (cZ [F k2 ae ad].toArray 24 (0,0)):=by
  rw[hU];have g:Gr (w2.setCell ⟨z.heap.size,0,none⟩ (F k2 ae ad)) (((((w2.setCell ⟨z.heap.size,0,none⟩ (F k2 ae ad)).setCell ⟨z.heap.size+1,0,none⟩ (F n2 am al)).setCell ⟨z.heap.size+1,1,none⟩ (F t2 av au)).setCell ⟨z.heap.size+1,2,none⟩ (F p2 ag ap)).setCell ⟨z.heap.size+1,3,none⟩ (E J Q.tip)) (λq=>q=z.heap.size+1):=(Gr.refl (w2.setCell ⟨z.heap.size,0,none⟩ (F k2 ae ad)) (λq=>q=z.heap.size+1)).four (z.heap.size+1) (.inl rfl) _ _ _ _;exact g.heap (Tr.set_cells y0 0 _) (λe=>by have e:z.heap.size=z.heap.size+1:=e;omega)
 have u2:=gU.heap y2 (λe=>by rcases e with e|e <;> omega);obtain⟨V,hV⟩:=ZG (U.alloc (cZ #[E J q2,E J 2,E J r2,E J o2,F a2 l2 c2] 39));have be:ZD U V:=by rw[hV];exact Zh _ _
 have v3:V.heap[w2.heap.size]? = some (cZ [E J q2,E J 2,E J r2,E J o2,F a2 l2 c2].toArray 39 (0,0)):=by rw[hV,<-ef];exact Zz _ _ _ _ _ _ _
 have v0:=ZE be u0;have v1:=ZE be u1;have v2:=ZE be u2;have gV:Gr w2 V (λq=>q=z.heap.size\/q=z.heap.size+1):=gU.trans (Gr.of be);have fm:=Za fh;have DD:=(ee V (gV.mono (λq _ e=>by rcases e with e|e <;> (show q<X.heap.size;omega)))).1;have fl:ag=0:=by have:=DD.p.1;rw[Za bg] at this;exact this.symm
 have bV:ZD w V:=gV.below (Zf dp ay) (Zf dp ay).size (λq e=>by have:=Za fd;rcases e with e|e <;> omega);have bi:=HE.later bV;have C3:=Zd (Rr k2 ae ad Q.k n2 t2 p2 am al av au ag ap Q.n Q.t Q.p Q.tip 0 V bi DD.k DD.n DD.b DD.p bt bu bv (by omega) (λt h=>by rw[Za bg] at h;cases h) ca C ((if_pos rfl).trans dq));have C4:=Zd (λW (hw:ZD V W)=>B8 k2 ae ad Q.k n2 t2 p2 am al av au ag ap Q.n Q.t Q.p Q.tip 0 W (bi.later hw) (DD.k.later hw) (DD.n.later hw) (DD.b.later hw) (DD.p.later hw) bt bu bv (by omega) (λt h=>by rw[Za bg] at h;cases h) ca none 0 0 [] ⟨rfl,λh=>absurd h (by decide)⟩ C ((if_pos rfl).trans dq) 0 128 ((if_pos rfl).trans ez) ((if_pos rfl).trans fb));have C5:=Zd (λW (hw:ZD V W)=>Nx k2 ae ad Q.k n2 t2 p2 am al av au ag ap Q.n Q.t Q.p Q.tip 0 W (bi.later hw) (DD.k.later hw) (DD.n.later hw) (DD.b.later hw) (DD.p.later hw) bt bu bv (by omega) (λt h=>by rw[Za bg] at h;cases h) ca)
 have KV:Hid (∀ W,ZD V W->(W.cell? ⟨z.heap.size,0,none⟩=some (F k2 ae ad)/\W.cell? ⟨z.heap.size+1,0,none⟩=some (F n2 am al)/\W.cell? ⟨z.heap.size+1,1,none⟩=some (F t2 av au)/\W.cell? ⟨z.heap.size+1,2,none⟩=some (F p2 ag ap)/\W.cell? ⟨z.heap.size+1,3,none⟩=some (E J Q.tip)/\W.cell? ⟨z.heap.size+2,1,none⟩=some (E J 1)/\W.cell? ⟨w2.heap.size,0,none⟩=some (E J q2)/\W.cell? ⟨w2.heap.size,1,none⟩=some (E J 2))/\z.heap.size<W.heap.size/\z.heap.size+1<W.heap.size/\z.heap.size+2<W.heap.size/\w2.heap.size<W.heap.size):=λW hw=>
  ⟨⟨Ze hw (Zb v0 0 _ rfl),Ze hw (Zb v1 0 _ rfl),Ze hw (Zb v1 1 _ rfl),Ze hw (Zb v1 2 _ rfl),Ze hw (Zb v1 3 _ rfl),Ze hw (Zb v2 1 _ rfl),Ze hw (Zb v3 0 _ rfl),Ze hw (Zb v3 1 _ rfl)⟩,aD (aA v0) hw.size,aD (aA v1) hw.size,aD (aA v2) hw.size,aD (aA v3) hw.size⟩
 have ey:=Zd bV;clear ee fq bt bu bv fs ay y0 y1 y2 gU u0 u1 u2 be v0 v1 v2 v3 gV fm DD fl bV bi ef
 go_upto_region 3 with fail
 rw[<-hU,<-hV];clear hU hV t0 da db dc dd ft fu fv fw fx dg dh;obtain⟨⟨m0,m1,m2,m3,m4,m5,m6,m7⟩,m8,m9,m10,m11⟩:=KV V (Below.refl _ _);go_wp2_with fail;refine C3.mono ?_;rintro e w3 ⟨gc,gb,cc,rfl,ek,-,bk⟩;have fj:gb=2:=ek.1.symm.trans fa;subst fj;obtain⟨eu,D4⟩:=kh2 bk (C4 w3 bk);clear m0 m1 m2 m3 m4 m5 m6 m7 m8 m9 m10 m11 ek C3 C4;obtain⟨⟨m0,m1,m2,m3,m4,m5,m6,m7⟩,m8,m9,m10,m11⟩:=KV w3 bk;clear bk;go_wp2_with fail;refine D4.mono ?_;rintro e w4 ⟨rfl,ei⟩;have bo:=Zf eu ei;obtain⟨ev,D5⟩:=kh2 bo (C5 w4 bo);clear m0 m1 m2 m3 m4 m5 m6 m7 m8 m9 m10 m11 D4 C5 ei;obtain⟨⟨m0,m1,m2,m3,m4,m5,m6,m7⟩,m8,m9,m10,m11⟩:=KV w4 bo;clear bo KV;go_wp2_with fail;refine D5.mono ?_;rintro e w5 ⟨rfl,ej⟩;have ew:=Zd (Zf ey (Zf ev ej));clear ej D5;go_wp2;go_ret;exact⟨rfl,Za ew⟩
def Jz:Nat->Int
 | 0=>0
 | n+1=>Jz n+(rwD ((n:Int)+1)).1
def Pq:Nat->List Int
 | 0=>[]
 | n+1=>Pq n++[(rwD ((n:Int)+1)).1]
theorem Np(h:Int):0<=(rwD h).1/\(rwD h).1<=64:=by
 unfold rwD;split
 ·have:=Pn ((h - 1).toNat / 8);simp only;omega
 ·simp
theorem Zqt{h:Int}(h1:1<=h)(h2:h<=1000):(rwD h).2=0:=by
 unfold rwD;rw[if_pos (by simp;omega)]
theorem Tl:∀ n,0<=Jz n/\Jz n<=64*n
 | 0=>by simp[Jz]
 | n+1=>by
  have h1:=Tl n;have h2:=Np ((n:Int)+1);unfold Jz;omega
theorem J2:∀ n,(Pq n).length=n
 | 0=>rfl
 | n+1=>by rw[Pq,bW,J2 n];rfl
theorem A7:∀ (n i:Nat) (hi:i<(Pq n).length),(Pq n)[i]=(rwD ((i:Int)+1)).1
 | n+1,i,hi=>by
  have z:=J2 n;have Q:i<n+1:=by rw[J2] at hi;exact hi
  by_cases e:i<n
  ·simp only[Pq];rw[List.getElem_append_left (by omega)];exact A7 n i (by omega)
  ·have e:i=n:=(by omega);subst e;simp only[Pq];rw[List.getElem_append_right (by omega)];simp[z]
theorem Zdp:∀ (l:List Int) (s x t:Int),sm s l=(t,0)->0<=x->x<=1000000000->t+x<=1000000000->sm s (l++[x])=(t+x,0)
 | [],s,x,t,h,h1,h2,h3=>by
  simp only[sm,aN,and_true] at h;subst h;simp[sm,h1,h2,h3]
 | y :: l,s,x,t,h,h1,h2,h3=>by
  simp only[List.cons_append,sm] at h ⊢;split at h
  ·rename_i q;rw[if_pos q];split at h
   ·rename_i z;rw[if_pos z];exact Zdp l _ x t h h1 h2 h3
   ·simp at h
  ·simp at h
theorem Zdq:∀ n:Nat,n<=1000->sm 0 (Pq n)=(Jz n,0)
 | 0,_=>rfl
 | n+1,hn=>by
  have h1:=Np ((n:Int)+1);have h2:=Tl n;rw[Pq,Jz];exact Zdp _ _ _ _ (Zdq n (by omega)) (by omega) (by omega) (by omega)
def FilS(B p:Nat)(f:Nat->Int)(w wr:World)(k:Nat):Prop:=
 ∃ xs:List Value,wr.ownsRow B 3 1 (F (some ⟨B,0,none⟩) p p) p xs/\(∀ j,j<k->xs[j]? = some (E J (f j)))/\Below B w wr
theorem FilS.later{B p:Nat}{f:Nat->Int}{w wr w':World}{k:Nat}(h:FilS B p f w wr k)(hB:B<=wr.heap.size)(z:ZD wr w'):FilS B p f w w' k:=by
 obtain⟨xs,ho,Q,hw⟩:=h;exact⟨xs,(Gr.of z:Gr wr w' (λ_=>False)).own ho (λ_ _ q=>q),Q,hw.trans (z.mono hB)⟩
theorem FilS.step{B p:Nat}{f:Nat->Int}{w wr:World}{k:Nat}(h:FilS B p f w wr k)(hk:k<p){x:Int}(hx:x=f k):FilS B p f w (wr.setCell ⟨B,k,none⟩ (E J x)) (k+1):=by
 obtain⟨xs,z,hf,Q⟩:=h;have hl:xs.length=p:=by simpa using z.1
 refine⟨xs.set k (E J x),(z.stored k _).1,λj hj=>?_,Q.setCell (aF _) _⟩;by_cases e:j=k
 ·subst e;simp[hl,hk,hx]
 ·rw[List.getElem?_set_ne (by omega)];exact hf j (by omega)
theorem FilS.old{B p:Nat}{f:Nat->Int}{w wr:World}{k:Nat}(h:FilS B p f w wr k)(Q:k<p):∃ v,wr.cell? ⟨B,k,none⟩=some v:=by
 obtain⟨xs,z,_,_⟩:=h;have hl:xs.length=p:=by simpa using z.1
 exact⟨xs[k]'(by omega),by rw[z.cellAt k (by omega)];simp[hl,Q]⟩
theorem FilS.free{B p:Nat}{f:Nat->Int}{w wr:World}{k:Nat}(h:FilS B p f w wr k)(j:Nat):wr.frozen? ⟨B,j,none⟩=false:=by
 obtain⟨xs,z,_,_⟩:=h;exact z.frozenAt j
theorem FilS.row{B n:Nat}{w wr}(h:FilS B n (λi=>(rwD ((i:Int)+1)).1) w wr n)(hn:n<=1000):RowAt wr (some ⟨B,0,none⟩) n (Pq n):=by
 obtain⟨xs,Q,hf,_⟩:=h;have hl:xs.length=n:=by simpa using Q.1
 refine⟨J2 n,by unfold cW;omega,λ_=>⟨B,0,rfl,λi hi=>?_⟩⟩;have z:i<(Pq n).length:=by rw[J2];exact hi
 have e:(Pq n).getD i 0=(rwD ((i:Int)+1)).1:=by
  rw[List.getD_eq_getElem?_getD,cF z,Option.getD_some];exact A7 n i z
 rw[e,Nat.zero_add,Q.cellAt i (by omega)];exact hf i hi
theorem Zfc(n:Nat)(w:World)(h2:n<=1000) :
  ZH 41 #[E J n] w (dB #[E J (Jz n),E J 0]):=by
 obtain⟨i0,hi,au,av,aw⟩:=info_parts Tryz.infoInt;go_enter func41,ntmps41
 go_wp2_with (first|(go_at_call 103;refine (Ws _ _ _ _ (by omega) (by omega)).mono ?_;rintro e w' ⟨rfl,rfl⟩)|(at_make;refine wpList_make_full _ rfl _ _ 25 rfl w.heap.size 3 i0 (E J 0) 1 underlying25 hi au av .i64 .i64 _ _ n rfl rfl rfl rfl (by rw[aw];omega) (by unfold cW;omega) (aF _) ?_;intro w0 ah ag))
 have ak:FilS w.heap.size n (λi=>(rwD ((i:Int)+1)).1) w w0 0:=⟨_,ah,λj hj=>absurd hj (by omega),(Below.refl _ _).grown ag (aF _) (λk h=>by cases h)⟩;clear ah ag;have ae:=Zd ak;clear ak
 go_loopw [14] (λi wr=>∃ k:Nat,k<=n/\i = E J k/\Hid (FilS w.heap.size n (λi=>(rwD ((i:Int)+1)).1) w wr k)) (λi _=>n - (intOf i).toNat)
 case atStart=>exact⟨0,aL _,rfl,ae⟩
 case round=>
  obtain⟨k,hk,rfl,z⟩:=hrel;clear ae;by_cases ab:k<n
  ·obtain⟨r,hr⟩:=ZF ((rwD ((k:Int)+1)).1);obtain⟨HR,an⟩:=kh2 (Pp ((k:Int)+1) r 0 wr (Prod.ext hr (Zqt (by omega) (by omega)))) hr;clear hr;go_wp2_with fail;refine HR.mono ?_;rintro e w' ⟨rfl,hb⟩;have Q:=z.later (z.choose_spec.2.2.size) hb;obtain⟨v,ar⟩:=Q.old ab;have ay:=Q.free k;have hl:=World.block_lt_of_cell? _ _ ar;have am:=Zd (Q.step ab an.symm);clear HR hb Q z;go_wp2_with fail;go_roundw
   case rel=>exact⟨k+1,by omega,by go_num,am⟩
   case measure=>simp[intOf];omega
  ·have e:k=n:=(by omega);subst e;clear hk ab;have HS:=Zd (Zdk (some ⟨w.heap.size,0,none⟩) k k (Pq k) wr (z.row h2));have aj:=Zdq k h2;rw[aj] at HS;clear aj;go_wp2_with fail;refine HS.mono ?_;rintro e w' ⟨rfl,rfl⟩;have HB:=Zd (z.choose_spec.2.2);clear HS z;go_wp2;go_ret2;exact⟨rfl,Za HB⟩
theorem Zlf{N T}(z:Tr.chkTr N T=0)(x:Int):0<=(Tr.fnd x N T).2.1/\(Tr.fnd x N T).2.1<=1000:=by
 have ok:=Tr.TrOk.of z;by_cases e:x∈N
 ·have:=Qw (ok.chk _ (Tr.fnd_at ok.len e));omega
 ·rw[Tr.fnd_out ok.len e];exact⟨Int.le_refl _,by decide⟩
theorem Zfd{h:Int}(h0:0<=h):Jz (h+1).toNat=Jz h.toNat+(rwD (h+1)).1:=by
 obtain⟨n,rfl⟩:=Int.eq_ofNat_of_zero_le h0;show Jz (((n:Int)+1).toNat)=Jz ((n:Int).toNat)+_;have z:((n:Int)+1).toNat=n+1:=by omega
 have Q:((n:Int)).toNat=n:=by omega
 rw[z,Q,Jz]
def Zpt(N:List Int)(T:List Zl)(β : Int->List Zj)(x:Int):Prop:=Ys (β x)/\Zp (β x)<=Jz (Tr.fnd x N T).2.1.toNat
theorem Zmf{K}{N:List Int}{T:List Zl}(z:Tr.chkTr N T=0):∀ (n k:Nat) (β γ : Int->List Zj),N.length - k=n->k<=N.length->Z0 K (N.drop k) (T.drop k) β = (0,γ) ->
  (∀ x,(x=0\/x∈N.take k)->Zpt N T β x)->∀ x,(x=0\/x∈N)->Zpt N T γ x
 | 0,k,β,γ,hn,hk,h,hi=>by
  rw[Zct (by omega)] at h;simp only[aN,true_and] at h;subst h;have e:k=N.length:=by omega
  subst e;rw[List.take_length] at hi;exact hi
 | n+1,k,β,γ,hn,hk,h,hi=>by
  have ok:=Tr.TrOk.of z;have h1:k<N.length:=by omega
  have h2:k<T.length:=by rw[<-ok.len];exact h1
  rw[Zmg h1 h2] at h;split at h
  ·simp at h
  split at h
  ·rename_i q;exact absurd (congrArg Prod.fst h) q
  rename_i q;have q:=aK.1 q;refine Zmf z n (k+1) _ γ (by omega) (by omega) h (λx hx=>?_);obtain⟨a1,a2⟩:=Tr.ahead z k h1 h2;obtain⟨c,M,S,ac⟩:∃ c M S,Vd K (β T[k].1) T[k]=(c,M,S):=⟨_,_,_,rfl⟩;rw[ac] at q ⊢;have q:c=0:=q;subst q;obtain⟨_,r2,_,_,_,r6,_⟩:=Zpf ac;by_cases e:x=N[k]
  ·have Q:Qk β N[k] M x=M:=(by unfold Qk;rw[if_pos e]);unfold Zpt;rw[Q,e,a1];refine⟨r2,?_⟩;have p1:=(hi T[k].1 a2).2;have p2:=ok.hgt N[k] (aQ h1);rw[a1] at p2;have p3:=(Zlf z T[k].1).1;rw[p2,Zfd p3,<-p2];omega
  ·have Q:Qk β N[k] M x = β x:=(by unfold Qk;rw[if_neg e]);unfold Zpt;rw[Q];refine hi x ?_
   rcases hx with hx|hx
   ·exact .inl hx
   ·right
    rw[aS h1,bA] at hx
    rcases hx with hx|hx
    ·exact hx
    ·exact absurd (by simpa using hx) e
theorem Br{K N T P}{tip:Int}(h:opE K N T P tip=0):Z4 ((Z0 K N T noB).2 tip)=0/\Zp ((Z0 K N T noB).2 tip)<=Jz (Yh N T tip).toNat/\0<=Yh N T tip/\Yh N T tip<=1000/\(tip=0->Yh N T tip=0)/\(tip≠0->(Tr.blockE N T tip).2=0):=by
 obtain⟨_,h2,h3,_⟩:=Yg h;obtain⟨z,ht⟩:=Yb h2;have ok:=Tr.TrOk.of z;have R0:Ys []:=(Z6 []).1 (by kernel_rfl)
 have hS:=Zmf z (K:=K) N.length 0 noB (Z0 K N T noB).2 (by omega) (aL _) (by
  rw[List.drop_zero,List.drop_zero]
  exact Prod.ext h3 rfl) (λx _=>⟨R0,by
   have:=(Tl (Tr.fnd x N T).2.1.toNat).1;simpa[noB,Zp] using this⟩) tip ht
 have hb:=Rw h2
 have e:Yh N T tip=(Tr.fnd tip N T).2.1:=by
  unfold Yh Tr.blockE;rw[if_neg (λq=>q z)];split
  ·rfl
  ·rename_i q;rw[Tr.fnd_out ok.len (by simpa using q)]
 refine⟨(Z6 _).2 hS.1,by rw[e];exact hS.2,hb.2.1,hb.2.2,λQ=>?_,λQ=>?_⟩
 ·rw[e,Q,Tr.fnd_out ok.len ok.zero];rfl
 ·unfold Tr.blockE;rw[if_neg (λq=>q z)]
  have hm:tip∈N:=by
   rcases ht with q|q
   ·exact absurd q Q
   ·exact q
  rw[if_pos (by simpa using hm)]
namespace Tr
open Go.RowKit
theorem TrOk.pth_zero{N T}(h:TrOk N T):pthD N T 0=[]:=by
 unfold pthD;rw[fnd_out h.len h.zero];rfl
theorem TrOk.pth_step{N T}(h:TrOk N T){x:Int}(hx:x∈N):pthD N T x=pthD N T (fnd x N T).1++[x]:=by
 have e:=h.hgt x hx;have h0:=(Qh h.heads (fnd x N T).1 N).1;unfold pthD;rw[show (fnd x N T).2.1.toNat=(fnd (fnd x N T).1 N T).2.1.toNat+1 by omega];rfl
theorem pth_length(N T)(x:Int):(pthD N T x).length=(fnd x N T).2.1.toNat:=Hn _ _ _ _
theorem TrOk.pth_at{N T}(h:TrOk N T):∀ (d:Nat) (x:Int),(x=0\/x∈N)->(fnd x N T).2.1.toNat=d->∀ (i:Nat) (af:Int),(pthD N T x)[i]? = some af->af∈N/\(fnd af N T).2.1=i+1:=by
 intro d
 induction d with
 | zero=>
  intro x _ hd i af z;have hl:=pth_length N T x;have:=(cT.1 z).1;omega
 | succ d ih=>
  intro x hx hd i af z
  have aa:x∈N:=by
   rcases hx with rfl|hx
   ·rw[fnd_out h.len h.zero] at hd;simp[Ym] at hd
   ·exact hx
  have e:=h.hgt x aa;have h0:=(Qh h.heads (fnd x N T).1 N).1;have hl:=pth_length N T (fnd x N T).1;rw[h.pth_step aa,List.getElem?_append] at z;split at z
  ·exact ih _ (h.par x aa) (by omega) i af z
  ·next q=>
   obtain⟨ad,z⟩:=cT.1 z;simp only[cL,List.length_nil] at ad;have hi:i=(pthD N T (fnd x N T).1).length:=(by omega);have ae:x=af:=(by simpa using z);subst ae;exact⟨aa,by omega⟩
theorem TrOk.pth_in{N T}(h:TrOk N T){x:Int}(hx:x=0\/x∈N){i:Nat}{z:Int}(Q:(pthD N T x)[i]? = some z):z∈N/\(fnd z N T).2.1=i+1:=h.pth_at _ x hx rfl i z Q
theorem TrOk.pth_sub{N T}(h:TrOk N T){x:Int}(hx:x=0\/x∈N):∀ z∈pthD N T x,z∈N:=by
 intro z Q;obtain⟨i,hi,rfl⟩:=List.getElem_of_mem Q;exact (h.pth_in hx (cF hi)).1
def srt(N:List Int):List Int:=N.mergeSort λx y=>decide (x<=y)
end Tr
open Go.RowKit
def spT(t:TxD):List PtD:=t.2.1.map (λx=>(x.1,x.2.1))
def Y4(l:List TxD):List PtD:=(l.map spT).flatten
def spP(N:List Int)(T:List Zl)(l:List Int):List PtD:=(l.map (λs=>Y4 (Tr.fnd s N T).2.2.2.2)).flatten
structure Once(K:List ByteArray)(h:Int)(A:List TxD)(Sp:List PtD)(C:List Zj):Prop where
 nd:Sp.Nodup
 out:∀ p∈Sp,Y3 p C=false
 ok:∀ t∈A,Zu t=0/\0<Bk.place (Zw t) K
 own:∀ p,(p∈Sp\/Y3 p C=true)->∃ t∈A,p.1=(Bk.place (Zw t) K:Int)
 ins:∀ t∈A,∀ p∈spT t,p∈Sp
 hgt:∀ t∈A,t.2.1=[]->t.1<=h
theorem At(h:Int):∀ (I:List InD) (Q L S M:List Zj),Zr h I Q L=(0,S,M)->(I.map (λx=>((x.1,x.2.1):PtD))).Nodup
 | [],_,_,_,_,_=>List.nodup_nil
 | x :: r,Q,L,S,M,e=>by
  unfold Zr at e;split at e
  ·injection e with e _;cases e
  ·rename_i c L' ht;split at e
   ·injection e with e _;cases e
   ·split at e
    ·injection e with e _;cases e
    ·rw[bO,List.nodup_cons];refine⟨λq=>?_,At h r _ _ _ _ e⟩;obtain⟨y,hy,z⟩:=cP.1 q;have:=(Tm h r _ L' S M e).2.1 y hy;obtain⟨d,hd,e3⟩:=(Y5 _ _).1 this;rw[(Vk ht).2.2,List.mem_filter] at hd;have z:(y.1,y.2.1)=((x.1,x.2.1):PtD):=z;rw[z] at e3;exact absurd e3 (of_decide_eq_true hd.2)
theorem Once.step{K}{h:Int}{A Sp C}(q:Once K h A Sp C){t:TxD}{h' hx:Int}{C' S}(ht:Zu t=0)(hp:0<Bk.place (Zw t) K)(hh:h<=h')(hr:t.2.1=[]->h<t.1/\t.1<=h')(e:apD C t (Bk.place (Zw t) K:Int) hx=(0,C',S)):Once K h' (A++[t]) (Sp++spT t) C':=by
 obtain⟨_,M2,e1,_,e2,_⟩:=Rh e;obtain⟨a1,a2,a3⟩:=Tm _ _ _ _ _ _ e1;have b1:=Dd _ _ _ _ _ _ _ e2;have nd:=At _ _ _ _ _ _ e1
 have ab:∀ p∈spT t,Y3 p C=true:=λp hp=>by
  obtain⟨x,hx,rfl⟩:=cP.1 hp;exact a2 x hx
 have hA:t∉A:=λhm=>by
  by_cases Q:t.2.1=[]
  ·have:=q.hgt t hm Q;have:=(hr Q).1;omega
  ·obtain⟨x,r,Q⟩:=List.exists_cons_of_ne_nil Q;have al:((x.1,x.2.1):PtD)∈spT t:=(by unfold spT;rw[Q];simp);have:=q.out _ (q.ins t hm _ al);rw[ab _ al] at this;cases this
 have hN:∀ u∈A,(Bk.place (Zw u) K:Int)≠(Bk.place (Zw t) K:Int):=λu z e=>by
  obtain⟨k1,k2⟩:=q.ok u z;have:=Zet u t k1 ht (Bk.place_one k2 (by omega));exact hA (this ▸ z)
 have nw:∀ p,Y3 p C'=true->Y3 p M2=true\/p.1=(Bk.place (Zw t) K:Int):=λp h=>by
  obtain⟨c,hc,e⟩:=(Y5 _ _).1 h
  rcases b1 c hc with h|h
  ·exact .inl ((Y5 _ _).2 ⟨c,h,e⟩)
  ·exact .inr (by rw[<-e];exact h)
 have old:∀ p,Y3 p M2=true->Y3 p C=true:=λp h=>by
  obtain⟨c,hc,e⟩:=(Y5 _ _).1 h;exact (Y5 _ _).2 ⟨c,a1 c hc,e⟩
 have far:∀ p,(p∈Sp\/Y3 p C=true)->p.1≠(Bk.place (Zw t) K:Int):=λp h e=>by
  obtain⟨u,z,e2⟩:=q.own p h;exact hN u z (e2 ▸ e)
 refine⟨?_,?_,?_,?_,?_,?_⟩
 ·rw[List.nodup_append];refine⟨q.nd,nd,λa ha b hb e=>?_⟩;have h1:=q.out a ha;rw[e,ab b hb] at h1;cases h1
 ·intro p hp;cases hc:Y3 p C' with
  | false=>rfl
  | true=>
   exfalso
   rcases bA.1 hp with hp|hp
   ·rcases nw p hc with h|h
    ·have:=q.out p hp;rw[old p h] at this;cases this
    ·exact far p (.inl hp) h
   ·rcases nw p hc with h|h
    ·obtain⟨x,hx,rfl⟩:=cP.1 hp;have:=a3 x hx;rw[h] at this;cases this
    ·exact far p (.inr (ab p hp)) h
 ·intro u z
  rcases bA.1 z with z|z
  ·exact q.ok u z
  ·rw[bX.1 z];exact⟨ht,hp⟩
 ·intro p h
  have ad:(p∈Sp\/Y3 p C=true)->∃ u∈A++[t],p.1=(Bk.place (Zw u) K:Int):=λh=>by
   obtain⟨u,z,e⟩:=q.own p h;exact⟨u,List.mem_append_left _ z,e⟩
  rcases h with h|h
  ·rcases bA.1 h with h|h
   ·exact ad (.inl h)
   ·exact ad (.inr (ab p h))
  ·rcases nw p h with h|h
   ·exact ad (.inr (old p h))
   ·exact⟨t,by simp,h⟩
 ·intro u z p hp
  rcases bA.1 z with z|z
  ·exact List.mem_append_left _ (q.ins u z p hp)
  ·rw[bX.1 z] at hp;exact List.mem_append_right _ hp
 ·intro u z Q
  rcases bA.1 z with z|z
  ·have:=q.hgt u z Q;omega
  ·rw[bX.1 z] at Q ⊢;exact (hr Q).2
theorem Nj(h:Int):∀ (T:List TxD) (i:Nat),We h i T=0->∀ j (z:j<T.length),Vr T[j] ((i+j:Nat):Int) h=true
 | [],_,_,j,z=>absurd z (Nat.not_lt_zero j)
 | t :: r,i,e,j,z=>by
  rw[We] at e;split at e
  ·rename_i q;exact absurd e q
  split at e
  ·cases e
  rename_i q;cases j with
  | zero=>simpa using q
  | succ j=>
   have:=Nj h r (i+1) e j (by simpa using z);rw[show i+(j+1)=i+1+j by omega];exact this
theorem Zfi(l t):Y4 (l++[t])=Y4 l++spT t:=by simp[Y4]
theorem Ee{K}{h r:Int}{T:List TxD}(hT:∀ t∈T,Zu t=0/\0<Bk.place (Zw t) K)(h0:0<T.length)(hs:∀ j (hj:j<T.length),Vr T[j] (j:Int) h=true){A Sp}:∀ (q k:Nat) (C M:List Zj) (S S':List (List Zj)),Xo h r T (T.map (λt=>(Bk.place (Zw t) K:Int))) q k C S=(0,M,S')->q+k=T.length->0<q ->
  Once K (h - 1) (A++(T.drop 1).take k) (Sp++Y4 ((T.drop 1).take k)) C->∃ A',Once K h A' (Sp++Y4 T) M
 | 0,_,_,_,_,_,_,_,hq,_=>absurd hq (Nat.lt_irrefl 0)
 | q+1,k,C,M,S,S',e,hk,_,o=>by
  obtain⟨_,C1,s,ha,e2⟩:=Yv e;by_cases hq:q=0
  ·subst hq;have z:k+1=T.length:=(by omega);rw[z,Nat.mod_self] at ha;have eT:T.getD 0 Yz=T[0]:=(by simp[List.getD,h0]);have eN:(T.map (λt=>(Bk.place (Zw t) K:Int))).getD 0 0=(Bk.place (Zw T[0]) K:Int):=(by simp[List.getD,h0]);rw[eT,eN] at ha;rw[Xo] at e2;simp only[aN,true_and] at e2;obtain⟨rfl,_⟩:=e2;have Q:=hs 0 h0;unfold Vr at Q;simp at Q;have:=o.step (h':=h) (hT _ (aQ h0)).1 (hT _ (aQ h0)).2 (by omega) (λ_=>⟨by omega,by omega⟩) ha;have ek:(T.drop 1).take k=T.drop 1:=List.take_of_length_le (by simp;omega);rw[ek] at this;have eS:spT T[0]=[]:=by unfold spT;rw[Q.1];rfl
   have ak:Y4 T=Y4 (T.drop 1):=by
    have:T=T[0] :: T.drop 1:=(by rw[<-List.drop_eq_getElem_cons h0,List.drop_zero]);rw[this];show (List.map spT (T[0] :: T.drop 1)).flatten=(List.map spT (T.drop 1)).flatten;rw[bO,bJ,eS,List.nil_append]
   rw[eS,List.append_nil,<-ak] at this;exact⟨_,this⟩
  ·have z:k+1<T.length:=(by omega);rw[Nat.mod_eq_of_lt z] at ha e2;have eT:T.getD (k+1) Yz=T[k+1]:=(by simp[List.getD,z]);have eN:(T.map (λt=>(Bk.place (Zw t) K:Int))).getD (k+1) 0=(Bk.place (Zw T[k+1]) K:Int):=(by simp[List.getD,z]);rw[eT,eN] at ha;have Q:=hs (k+1) z;unfold Vr at Q;rw[if_pos (by omega)] at Q
   have al:T[k+1].2.1≠[]:=by
    intro q;rw[q] at Q;simp at Q
   have:=o.step (h':=h - 1) (hT _ (aQ z)).1 (hT _ (aQ z)).2 (Int.le_refl _) (λq=>absurd q al) ha
   have ek:(T.drop 1).take (k+1)=(T.drop 1).take k++[T[k+1]]:=by
    rw[aS (by simp;omega)];simp
   refine Ee (A:=A) hT h0 hs q (k+1) C1 M _ S' e2 (by omega) (by omega) ?_;rw[ek,Zfi,<-bZ,<-bZ];exact this
theorem Zcu{K}(hK:Bk.Right K){s:Int}{b:Zl}(h0:s≠0)(hk:kbD K s b=true){C M S}(e:Vd K C b=(0,M,S)){A Sp}(o:Once K (b.2.1 - 1) A Sp C):∃ A',Once K b.2.1 A' (Sp++Y4 b.2.2.2.2) M:=by
 obtain⟨z,_,ht⟩:=Wc hk;have hn:=Rq hK h0 hk;unfold Vd at e;split at e
 ·rename_i q;exact absurd (congrArg Prod.fst e) q
 rename_i q;obtain⟨_,_,X,n,Ns,hN,ad⟩:=Bw (aK.1 q);rw[ad] at e;rw[hn] at hN;simp only[aN,and_true] at hN;obtain⟨_,_,rfl⟩:=hN;have Q:=(Qw z).1;refine Ee (A:=A) (λt h=>?_) Q (λj hj=>?_) b.2.2.2.2.length 0 C M _ S e (by omega) Q ?_
 ·obtain⟨t1,t2⟩:=ht t h;rw[Us t1] at t2;exact⟨t1,by omega⟩
 ·unfold Yk at z;split at z
  ·cases z
  split at z
  ·cases z
  split at z
  ·cases z
  have:=Nj _ _ _ z j hj;simpa using this
 ·simpa[Y4] using o
theorem Zek{K}(hK:Bk.Right K){N:List Int}{T:List Zl}(Q:Tr.chkTr N T=0):∀ (n k:Nat) (β γ : Int->List Zj),N.length - k=n->k<=N.length->Z0 K (N.drop k) (T.drop k) β = (0,γ) ->
  (∀ x,(x=0\/x∈N.take k)->∃ A,Once K (Tr.fnd x N T).2.1 A (spP N T (Tr.pthD N T x)) (β x))->∀ x,(x=0\/x∈N)->∃ A,Once K (Tr.fnd x N T).2.1 A (spP N T (Tr.pthD N T x)) (γ x)
 | 0,k,β,γ,hn,hk,h,hi=>by
  rw[Zct (by omega)] at h;simp only[aN,true_and] at h;subst h;have e:k=N.length:=by omega
  subst e;rw[List.take_length] at hi;exact hi
 | n+1,k,β,γ,hn,hk,h,hi=>by
  have ok:=Tr.TrOk.of Q;have h1:k<N.length:=by omega
  have h2:k<T.length:=by rw[<-ok.len];exact h1
  rw[Zmg h1 h2] at h;split at h
  ·simp at h
  rename_i q0;split at h
  ·rename_i q;exact absurd (congrArg Prod.fst h) q
  rename_i q;have q:=aK.1 q;refine Zek hK Q n (k+1) _ γ (by omega) (by omega) h (λx hx=>?_);obtain⟨z,a2⟩:=Tr.ahead Q k h1 h2;obtain⟨c,M,S,ab⟩:∃ c M S,Vd K (β T[k].1) T[k]=(c,M,S):=⟨_,_,_,rfl⟩;rw[ab] at q ⊢;have q:c=0:=q;subst q;by_cases e:x=N[k]
  ·have hu:Qk β N[k] M x=M:=(by unfold Qk;rw[if_pos e]);rw[hu,e,z];have p2:=ok.hgt N[k] (aQ h1);rw[z] at p2;obtain⟨A,o⟩:=hi T[k].1 a2;rw[show (Tr.fnd T[k].1 N T).2.1=T[k].2.1 - 1 by omega] at o
   have ad:spP N T (Tr.pthD N T N[k])=spP N T (Tr.pthD N T T[k].1)++Y4 T[k].2.2.2.2:=by
    rw[ok.pth_step (aQ h1),z];unfold spP;rw[List.map_append,List.flatten_append];simp[z]
   rw[ad];exact Zcu hK (s:=N[k]) (by have:=(ok.nm _ (aQ h1)).1;omega) (by simpa using q0) ab o
  ·have hu:Qk β N[k] M x = β x:=(by unfold Qk;rw[if_neg e]);rw[hu];refine hi x ?_
   rcases hx with hx|hx
   ·exact .inl hx
   ·right
    rw[aS h1,bA] at hx
    rcases hx with hx|hx
    ·exact hx
    ·exact absurd (by simpa using hx) e
theorem Zgh{K N T P}{tip:Int}(h:opE K N T P tip=0):(spP N T (Tr.pthD N T tip)).Nodup/\∀ p∈spP N T (Tr.pthD N T tip),Y3 p ((Z0 K N T noB).2 tip)=false:=by
 obtain⟨o1,o2,o3,_⟩:=Yg h;obtain⟨Q,z⟩:=Yb o2;have ok:=Tr.TrOk.of Q
 obtain⟨A,o⟩:=Zek ((Bk.right_iff K).1 o1) Q N.length 0 noB (Z0 K N T noB).2 (Nat.sub_zero _) (aL _) (by
  rw[List.drop_zero,List.drop_zero]
  exact Prod.ext o3 rfl) (λx hx=>by
   rcases hx with rfl|hx
   ·rw[Tr.fnd_out ok.len ok.zero,ok.pth_zero]
    exact⟨[],List.nodup_nil,λp hp=>(by cases hp),λt z=>(by cases z),λp hp=>(by
     rcases hp with hp|hp
     ·cases hp
     ·exact absurd hp (by simp[noB,Y3])),λt z=>(by cases z),λt z=>(by cases z)⟩
   ·simp at hx) tip z
 exact⟨o.nd,o.out⟩
open Go.RowKit Go.Maps
abbrev Zla(p:PtD):Value:=.agg #[E J p.1,E J p.2]
theorem lawPt:Keyed aB 117:=Keyed.of_law (deep_law (m:=2) (by decide) (by kernel_rfl) (by kernel_rfl) (by kernel_rfl))
theorem Zqg(w):(zeroValue 4).run aB w = .ok (dD false) w:=by kernel_rfl
theorem Zkz{p:PtD}(h1:(Lit.int .i64 p.1).wf=true)(h2:(Lit.int .i64 p.2).wf=true):∃ l,keyOf aB 117 (Zla p)=some l:=by
 have Q:Tryz.prog.keyType 117=true:=by kernel_rfl
 have e1:(Zla p).formed aB 117=true:=by kernel_rfl
 obtain⟨n,hn⟩:∃ n,Tryz.prog.types.size=n+1:=⟨Tryz.prog.types.size - 1,by kernel_rfl⟩;unfold keyOf;rw[underlying117,Q,e1,hn];have c1:Tryz.prog.cellsOf 117=2:=by kernel_rfl
 have z:Tryz.prog.cellsOf 3=1:=by kernel_rfl
 have e2:Tryz.prog.keyLits (n+1+1) 117 [.int .i64 p.1,.int .i64 p.2]=some [.int .i64 p.1,.int .i64 p.2]:=by
  unfold Program.keyLits;rw[underlying117];simp[Program.keyLits,underlying3,c1,z,h1,h2]
 refine⟨.string (keyBytes [.int .i64 p.1,.int .i64 p.2]),?_⟩;show (if (true && true)=true then Option.map (λls=>Lit.string (keyBytes ls)) (Tryz.prog.keyLits (n+1+1) 117 [.int .i64 p.1,.int .i64 p.2]) else none)=_;rw[e2];rfl
def PMap(bm n:Nat)(L:List PtD)(w:World):Prop:=∃ D,w.ownsMap aB 117 Zef bm n D/\IsMap D/\∀ (p:PtD) l,keyOf aB 117 (Zla p)=some l->D.atKey l (.held (.bool false)) = .held (.bool (decide (p∈L)))
theorem PMap.heap{bm n:Nat}{L}{w w':World}(h:PMap bm n L w)(hb:w'.heap[bm]? = w.heap[bm]?):PMap bm n L w':=by
 obtain⟨D,⟨Q,z,h1,r⟩,r2⟩:=h;exact⟨D,⟨Q,z,hb.trans h1,r⟩,r2⟩
theorem PMap.lt{bm n:Nat}{L}{w:World}(h:PMap bm n L w):bm<w.heap.size:=by
 obtain⟨D,h1,_⟩:=h;exact h1.lt
theorem PMap.keep{bm n:Nat}{L}{w w':World}(h:PMap bm n L w)(z:ZD w w'):PMap bm n L w':=h.heap (z.block bm h.lt)
theorem PMap.made(w:World):PMap w.heap.size 0 [] (w.alloc (.map #[] 0)):=
 ⟨.map [],World.ownsMap_made w aB 117 Zef,⟨_,rfl⟩,λ_ _ _=>rfl⟩
theorem PMap.look{bm n:Nat}{L w}(h:PMap bm n L w)(p:PtD)(h1:(Lit.int .i64 p.1).wf=true)(h2:(Lit.int .i64 p.2).wf=true):(Instr.lookup 115 (.map (some bm)) (Zla p) false).run aB w = .ok (.bool (decide (p∈L))) w:=by
 obtain⟨D,d1,_,d3⟩:=h;obtain⟨l,z⟩:=Zkz h1 h2;obtain⟨v,ps,Q,hv⟩:=d1.lookup lawPt underlying115 (Zqg w) (zd:=.held (.bool false)) (zp:=[]) rfl z;rw[d3 p l z] at hv;have ad:v = .bool (decide (p∈L)):=DataW.held.inj (Prod.mk.inj (Option.some.inj hv)).1;rw[ad] at Q;exact Q
theorem PMap.put{bm n:Nat}{L}{w:World}(h:PMap bm n L w)(hn:n<1000000)(p:PtD)(h1:(Lit.int .i64 p.1).wf=true)(h2:(Lit.int .i64 p.2).wf=true) :
  ∃ w',(Instr.mapUpdate 115 (.map (some bm)) (Zla p) (.bool true)).run aB w = .ok () w'/\PMap bm (n+1) (L++[p]) w'/\w.grownBy w' (some bm):=by
 obtain⟨D,d1,d2,d3⟩:=h;obtain⟨l,z⟩:=Zkz h1 h2;obtain⟨w',ae,r1,r2⟩:=d1.update lawPt underlying115 (by unfold cW;omega) z (val:=.bool true) (d:=.held (.bool true)) (ps:=[]) rfl;refine⟨w',ae,⟨_,r1,?_,λq lq hq=>?_⟩,r2⟩
 ·obtain⟨es,rfl⟩:=d2;exact⟨_,rfl⟩
 ·by_cases e:lq=l
  ·subst e
   have Q:q=p:=by
    have:=lawPt.inj hq z;simp at this;exact Prod.ext this.1 this.2
   rw[atKey_put_same d2 (lawPt.key z),Q];simp
  ·have ne:q≠p:=λQ=>e (by rw[Q,z] at hq;exact (Option.some.inj hq).symm);rw[atKey_put_other e,d3 q lq hq];simp[ne]
theorem Zlc:∀ (I pre:List InD),Ya pre I=0->∀ x∈I,Tp x=true
 | [],_,_,x,hx=>by cases hx
 | y :: r,pre,h,x,hx=>by
  rw[Ya] at h;split at h
  ·rename_i q
   rcases List.mem_cons.1 hx with rfl|hx
   ·unfold Wf at q;split at q
    ·cases q
    ·rename_i z;simpa using z
   ·exact Zlc r _ h x hx
  ·rename_i q;exact absurd h q
theorem Ziu{t:TxD}(h:Zu t=0):t.2.1.length<=6/\∀ x∈t.2.1,(Lit.int .i64 x.1).wf=true/\(Lit.int .i64 x.2.1).wf=true:=by
 unfold Zu at h;split at h
 ·cases h
 rename_i q;split at h
 ·cases h
 split at h
 ·cases h
 split at h
 ·rename_i q;exact absurd h q
 rename_i z;refine⟨by omega,λx hx=>?_⟩;have:=Zlc _ _ (aK.1 z) x hx;unfold Tp at this;simp at this;exact⟨Ur (by omega) (by omega),Ur (by omega) (by omega)⟩
theorem Aw:∀ (l:List TxD),(∀ t∈l,Zu t=0)->(Y4 l).length<=6*l.length
 | [],_=>aF _
 | t :: l,h=>by
  have h1:=(Ziu (h t (by simp))).1;have h2:=Aw l (λu z=>h u (by simp[z]));show (List.map spT (t :: l)).flatten.length<=_;rw[bO,bJ,bW];have e:(spT t).length=t.2.1.length:=by simp[spT]
  have Q:(List.map spT l).flatten.length<=6*l.length:=h2;simp only[cL];omega
theorem Zdm{N T}:∀ (l:List Int),(∀ s∈l,Yk (Tr.fnd s N T)=0)->(spP N T l).length<=24*l.length
 | [],_=>aF _
 | s :: l,h=>by
  have z:=h s (by simp);have h1:=Aw _ (Pz z);have h3:=(Qw z).2.1;have h2:=Zdm l (λu Q=>h u (by simp[Q]));show (List.map (λs=>Y4 (Tr.fnd s N T).2.2.2.2) (s :: l)).flatten.length<=_;rw[bO,bJ,bW];have e2:(List.map (λs=>Y4 (Tr.fnd s N T).2.2.2.2) l).flatten.length<=24*l.length:=h2;simp only[cL];omega
theorem Zdn(N T x y):spP N T (x++y)=spP N T x++spP N T y:=by simp[spP]
theorem Ax(x y):Y4 (x++y)=Y4 x++Y4 y:=by simp[Y4]
theorem Ay{N T}{P:List Int}{a:Nat}(z:a<P.length):spP N T (P.take (a+1))=spP N T (P.take a)++Y4 (Tr.fnd P[a] N T).2.2.2.2:=by
 rw[aS z,Zdn]
 congr 1
 simp[spP]
theorem Nl{l:List TxD}{t:Nat}(z:t<l.length):Y4 (l.take (t+1))=Y4 (l.take t)++spT l[t]:=by
 rw[aS z,Ax]
 congr 1
 simp[Y4]
theorem Zjf{N T}(P:List Int)(a:Nat):spP N T P=spP N T (P.take a)++spP N T (P.drop a):=by
 rw[<-Zdn,List.take_append_drop]
theorem Zfj(l:List TxD)(t:Nat):Y4 l=Y4 (l.take t)++Y4 (l.drop t):=by
 rw[<-Ax,List.take_append_drop]
theorem Zfy{N T}{P:List Int}{a t k:Nat}(Q:(spP N T P).Nodup)(ha:a<P.length){l:List TxD}(hl:(Tr.fnd P[a] N T).2.2.2.2=l)(ht:t<l.length){I:List InD}(hI:l[t].2.1=I)(hk:k<I.length) :
  ((I[k].1,I[k].2.1):PtD)∉spP N T (P.take a)++Y4 (l.take t)++(spT l[t]).take k/\(spP N T (P.take a)++Y4 (l.take t)++(spT l[t]).take k).length<=(spP N T P).length/\(spT l[t]).take (k+1)=(spT l[t]).take k++[(I[k].1,I[k].2.1)]:=by
 subst hI;have ag:k<(spT l[t]).length:=by simpa[spT] using hk
 have z:(spT l[t]).take (k+1)=(spT l[t]).take k++[(l[t].2.1[k].1,l[t].2.1[k].2.1)]:=by
  rw[aS ag];simp[spT]
 have e4:spT l[t]=(spT l[t]).take k++((l[t].2.1[k].1,l[t].2.1[k].2.1) :: (spT l[t]).drop (k+1)):=by
  conv=>lhs;rw[<-List.take_append_drop (k+1) (spT l[t]),z]
  simp
 have e2:Y4 l=Y4 (l.take t)++(spT l[t]++Y4 (l.drop (t+1))):=by
  rw[Zfj l (t+1),Nl ht,bZ]
 have e1:spP N T P=spP N T (P.take a)++(Y4 l++spP N T (P.drop (a+1))):=by
  rw[Zjf P (a+1),Ay ha,hl,bZ]
 have e:spP N T P=(spP N T (P.take a)++Y4 (l.take t)++(spT l[t]).take k)++((l[t].2.1[k].1,l[t].2.1[k].2.1) :: ((spT l[t]).drop (k+1)++Y4 (l.drop (t+1))++spP N T (P.drop (a+1)))):=by
  rw[e1,e2]
  conv=>lhs;rw[e4]
  simp[bZ]
 refine⟨λhm=>?_,?_,z⟩
 ·rw[e] at Q;exact (List.nodup_append.1 Q).2.2 _ hm _ (by simp) rfl
 ·have:=congrArg List.length e;rw[bW] at this;omega
theorem PMap.noc{bm n:Nat}{L}{w:World}(h:PMap bm n L w){o:Nat}{v}(z:w.cell? ⟨bm,o,none⟩=some v):False:=by
 obtain⟨D,⟨es,Q,h1,_⟩,_⟩:=h;unfold World.cell? at z;simp[h1] at z
structure Zdc(f:Nat)(caps:Array Value)(W0:World)(C:List Zj):Prop where
 enters:∀ args w,(callFunc f args).run aB w = .ok (.enter f args) w
 call:∀ w,ZD W0 w->∀ x∈C,∀ (a:Option Addr) (n c:Nat),Calls aB f (#[.agg #[E J x.1,E J x.2.1,E J (cv x),F a n c,E J (ch x),dD (cr x)]]++caps) w λe w'=>e = dA (dD false)/\ZD w w'
theorem Fk(f:Nat)(caps a n c C)(w:World)(hT:Zdc f caps w C)(Q:CoinsAt w a n C)(hn:n<=cW) :
  ZH 132 #[F a n c,.func (.func f) #[] caps] w (E J (-1)):=by
 obtain⟨HT,HL,HZ⟩:=kh3 hT Q Q.1;have ay:n<=9223372036854775807:=hn;clear hT Q hn;go_enter func132,ntmps132;go_wp2
 go_loopw [5,8] (λ_ i wr=>∃ k:Nat,k<=n/\i = E J k/\ZD w wr) (λ_ i _=>n - (intOf i).toNat)
 case atStart=>exact⟨0,aL _,rfl,Below.refl _ _⟩
 case round=>
  obtain⟨k,hk,rfl,z⟩:=hrel;have HB:=Zd z;by_cases ar:k<n
  ·have ak:k<C.length:=(by rw[Za HZ];exact ar);obtain⟨b,off,rfl,aj,am⟩:=HL.2 (by omega);obtain⟨c0,c1,c2,⟨oa,on,oc,c3,_,_⟩,c4,c5⟩:=am k ak;have c0:=Ze z c0;have c1:=Ze z c1;have c2:=Ze z c2;have c3:=Ze z c3;have c4:=Ze z c4;have c5:=Ze z c5;have aj:b<wr.heap.size:=aD aj z.size;have CC:=Zd (HT.call wr z C[k] (aQ ak) oa on oc);have eg:=HT.enters;clear am z;go_wp2_with fail;refine CC.mono ?_;rintro e w2 ⟨rfl,ah⟩;have an:=Zd (Zf HB ah);clear ah CC;go_wp2;go_roundw
   case rel=>exact⟨k+1,by omega,by go_num,Za an⟩
   case measure=>simp[intOf];omega
  ·clear z;go_wp2;go_ret;exact⟨rfl,Za HB⟩
theorem Hk(f:Nat)(caps a n c C)(w:World)(hT:Zdc f caps w C)(z:CoinsAt w a n C)(hn:n<=cW) :
  ZH 57 #[F a n c,.func (.func f) #[] caps] w (dD false):=by
 have C1:=Zd (Fk f caps a n c C w hT z hn);clear hT z hn;go_enter func57,ntmps57;go_wp2_with fail;refine C1.mono ?_;rintro e w1 ⟨rfl,Q⟩;have HB:=Zd Q;clear Q C1;go_wp2;go_ret;exact⟨rfl,Za HB⟩
theorem Zaf{bm n mb:Nat}{L C}{w:World}(hm:PMap bm n L w)(Q:w.heap[mb]? = some (cZ [.map (some bm)].toArray 115 (0,0)))(hC:∀ x∈C,(x.1,x.2.1)∉L/\(Lit.int .i64 x.1).wf=true/\(Lit.int .i64 x.2.1).wf=true):Zdc 58 #[.pointer (some ⟨mb,0,none⟩)] w C where
 enters:=enters_of (fn:=Tryz.f58) (by kernel_rfl) (by kernel_rfl) rfl
 call V hV x hx a n c:=by
  obtain⟨q1,q2,q3⟩:=hC x hx;obtain⟨X,hX,z,ac⟩:=ka00 V [.int .i64 x.1,.int .i64 x.2.1,.int .i64 (cv x),F a n c,.int .i64 (ch x),.bool (cr x)] 124;have ad:=(z.block _ (aD (aA Q) hV.size)).trans (ZE hV Q);have lk:=PMap.look ((hm.keep hV).keep z) (x.1,x.2.1) q2 q3;have e:decide (((x.1,x.2.1):PtD)∈L)=false:=by simp[q1]
  rw[e] at lk;obtain⟨v0,vl⟩:=kc1 ad;obtain⟨t0,t1,tl⟩:=kc2 ac;have HB:=Zd z;clear hm Q hC hV z ac ad q1 q2 q3 e hx;go_enter func58,ntmps58
  go_upto_region 1 with fail
  rw[<-hX];clear hX;go_wp2;go_ret;exact⟨rfl,Za HB⟩
