import Derived.Test.YtmomfkikogbdeaaGreatDoorH
import Derived.Test.YtmomfkikogbdeaaGreatDoorG42
open Go renaming bodyPost_ret->bB,lt_of_block->aA,wp_region_held_drew->dD,wpAnyH_ready->cM
open Go.Act renaming put->aQ
open Go.Ending renaming returned->dF
open Go.IntKind renaming i64->J
open Go.Obj renaming cells->dE
open Go.Value renaming int->E,slice->F,tuple->dG,pointer->dH
open List renaming drop_eq_getElem_cons->aJ,drop_of_length_le->bU,replicate->aR
open Nat renaming le_refl->aF,zero_le->aI,lt_of_lt_of_le->aD,le_trans->aN
set_option maxHeartbeats 12800000
set_option maxRecDepth 10000
namespace Go.Proofs.YtmomfkikogbdeaaGreatDoor
open Go.RowKit
def TkS(S:Nat->Prop)(B:Nat)(q:Nat):Prop:=(q<B/\S q)\/(B<=q/\q<B+4)
structure Zrn(w:World)(S:Nat->Prop)(K:List ByteArray)(y:Ye)(wr:World)(ka:Option Addr)(kn kc:Nat)(na:Option Addr)(nn nc:Nat)(ba:Option Addr)(bn bc:Nat)(pa:Option Addr)(pn pc:Nat):Prop where
 b0:wr.heap[w.heap.size]? = some (dE [F ka kn kc].toArray 24 (0,0))
 b1:wr.heap[w.heap.size+1]? = some (dE [F none 0 0].toArray 24 (0,0))
 b2:wr.heap[w.heap.size+2]? = some (dE [F none 0 0,F none 0 0,F none 0 0,E J 0].toArray 67 (0,0))
 b3:wr.heap[w.heap.size+3]? = some (dE [F na nn nc,F ba bn bc,F pa pn pc,E J y.2.2.2].toArray 67 (0,0))
 dat:∀ V,Gr wr V (TkS S w.heap.size)->Uo V ka kn K na nn y.1 ba bn y.2.1 pa pn y.2.2.1
 sk:SlOk ka kn kc
 sn:SlOk na nn nc
 sb:SlOk ba bn bc
 sp:SlOk pa pn pc
 bel:ZD w wr
 pl:y.2.2.1.length<=8/\∀ t∈y.2.2.1,Tr.TxSmall t
def TkaR(w w':World)(S:Nat->Prop)(x:Int)(K:List ByteArray)(y:Ye)(e:Ending):Prop:=
 ∃ ka kn kc na nn nc ba bn bc pa pn pc,e = dF (dG #[.agg #[F ka kn kc],.agg #[F na nn nc,F ba bn bc,F pa pn pc,E J y.2.2.2],E J x]) /\
  (∀ V,Gr w' V (λq=>q<w.heap.size/\S q)->Uo V ka kn K na nn y.1 ba bn y.2.1 pa pn y.2.2.1)/\SlOk ka kn kc/\SlOk na nn nc/\SlOk ba bn bc/\SlOk pa pn pc/\ZD w w'
theorem Zha(V):Uo V none 0 [] none 0 [] none 0 [] none 0 []:=⟨Bk.TextsAt.nil _ _,Tr.IntsAt.nil _ _,RowsAt.nil _ _,RowsAt.nil _ _⟩
theorem Vc:SlOk none 0 0:=⟨aF _,aI _,λ_=>⟨rfl,rfl⟩⟩
theorem Zii{K}{y:Ye}{Q:List Wd}{i:Nat}(h:i<Q.length){x nm:Int}{D:Dsk}(e:ntR K y.1 y.2.1 y.2.2.1 y.2.2.2 Q[i].2=(x,nm,D)):Wo K y (Q.drop i)=if x≠0 then (x,[],([],[],[],0)) else Wo D.k (D.n,D.t,D.p,D.tip) (Q.drop (i+1)):=by
 rw[aJ h,Wo];simp only[e]
theorem Znn{K}{y:Ye}{b:Zk}{nm:Int}{D:Dsk}(e:ntR K y.1 y.2.1 y.2.2.1 y.2.2.2 b=(0,nm,D)):D.p.length<=8/\∀ t∈D.p,Tr.TxSmall t:=by
 obtain⟨q1,q2⟩:=Zpi e;exact Wh (Nc q1 q2).1
theorem Zao(S:Nat->Prop)(ka kn kc K)(base n:Nat)(v)(D:List Yn)(x:Int)(K')(y':Ye)(w:World)(hE:Env w)(hK:∀ V,Gr w V S->Bk.TextsAt V ka kn K)(sK:SlOk ka kn kc)(hn:D.length=n)(hm:n<=4096)(hv:w.ownsRow base 322 6 v n (Z9 D))(hD:∀ z∈D,NamAt w z)(hx:Wo K ([],[],[],0) (D.map (·.1))=(x,K',y')) :
  Calls Tryz.prog 189 #[.agg #[F ka kn kc],v] w λe w'=>TkaR w w' S x K' y' e:=by
 obtain⟨X,hX⟩:=ZG (Yv w [dE #[F ka kn kc] 24,dE #[F none 0 0] 24,dE #[F none 0 0,F none 0 0,F none 0 0,E J 0] 67,dE #[F none 0 0,F none 0 0,F none 0 0,E J 0] 67]);have cp:X=(((w.alloc (dE #[F ka kn kc] 24)).alloc (dE #[F none 0 0] 24)).alloc (dE #[F none 0 0,F none 0 0,F none 0 0,E J 0] 67)).alloc (dE #[F none 0 0,F none 0 0,F none 0 0,E J 0] 67):=hX;have bu:ZD w X:=by rw[hX];exact Zs _ _
 have fe:X.heap.size=w.heap.size+4:=by rw[hX];exact Z0 _ _
 obtain⟨a,c,rfl⟩:∃ a c,v = F a n c:=by
  rcases hv.2 with ⟨rfl,rfl⟩|⟨g,cap,_,rfl,_⟩
  ·exact⟨none,0,rfl⟩
  ·exact⟨_,cap,rfl⟩
 have T0:Hid (Zrn w S K ([],[],[],0) X ka kn kc none 0 0 none 0 0 none 0 0):=by
  refine⟨by rw[hX];exact Zl _ w 0 _ rfl,by rw[hX];exact Zl _ w 1 _ rfl,by rw[hX];exact Zl _ w 2 _ rfl,by rw[hX];exact Zl _ w 3 _ rfl,λV g=>⟨hK V ((Gr.of bu).far g (λq e=>?_)),Tr.IntsAt.nil _ _,RowsAt.nil _ _,RowsAt.nil _ _⟩,sK,Vc,Vc,Vc,bu,aI _,λ_ h=>absurd h (by simp)⟩
  rcases e with e|e
  ·exact .inr e.2
  ·exact .inl e.1
 obtain⟨HE,HV,HD,HN⟩:=kh4 hE hv hD hn;have cg:Hid (Wo K ([],[],[],0) ((D.map (·.1)).drop 0)=(x,K',y')):=by rw[List.drop_zero];exact hx
 clear hE hK sK hn hv hD hx hX bu;go_enter Tryz.func189,Tryz.ntmps189
 go_upto_region 2 with fail
 rw[<-cp];clear cp;go_wp2_with fail
 go_loopw [13] (λiv wr=>∃ (i:Nat) (Kc:List ByteArray) (yc:Ye) (ka':Option Addr) (kn' kc':Nat) (na:Option Addr) (nn nc:Nat) (ba:Option Addr) (bn bc:Nat) (pa:Option Addr) (pn pc:Nat),i<=n/\iv = E J i/\Hid (Zrn w S Kc yc wr ka' kn' kc' na nn nc ba bn bc pa pn pc)/\Hid (Wo Kc yc ((D.map (·.1)).drop i)=(x,K',y'))) (λi _=>n - (intOf i).toNat)
 case atStart=>exact⟨0,K,_,_,_,_,_,_,_,_,_,_,_,_,_,aI _,rfl,T0,cg⟩
 case round=>
  obtain⟨i,Kc,yc,k1,k1n,k1c,n1,n1n,n1c,b1,b1n,b1c,p1,p1n,p1c,hi,rfl,HT,HX⟩:=hrel;clear T0 cg;have hT:=Za HT;obtain⟨d0,f0,dl⟩:=kf1 hT.b0;obtain⟨e0,e1,e2,e3,gc⟩:=kc4 hT.b3;by_cases cy:i<n
  ·have hI:(i:Int)<(n:Int):=(by omega);have bd:=(Gr.of (S:=λ_=>False) hT.bel).own HV (λ_ _ q=>q)
   obtain⟨g,rfl⟩:∃ g,a=some ⟨g,0,none⟩:=by
    rcases bd.2 with ⟨_,q⟩|⟨g,cap,_,q,_⟩
    ·omega
    ·injection q with q;exact⟨g,q⟩
   have cx:i<D.length:=(by rw[Za HN];exact cy);obtain⟨⟨⟨zs,zp,zh,zk,zo,zT⟩,ta,tn,tc⟩,hz⟩:∃ z,D[i]? = some z:=⟨_,List.getElem?_eq_getElem cx⟩;obtain⟨z0,z1,z2,z3,z4,z5⟩:=Pa bd HN hz;have zl:g<wr.heap.size:=(bd.lt g rfl).2;obtain⟨cw,cu⟩:=HD _ (List.mem_of_getElem? hz);obtain⟨Y,hY,ak,ct⟩:=ka00 wr [E J zs,E J zp,E J zh,E J zk,E J zo,F ta tn tc] 322;have bv:=Zf hT.bel ak;obtain⟨⟨x1,nm,ab⟩,be⟩:=ZF (ntR Kc yc.1 yc.2.1 yc.2.2.1 yc.2.2.2 (zp,zh,zk,zo,zT));have dY:=hT.dat Y (Gr.of ak);have CT:=Zd (Ch k1 k1n k1c Kc n1 b1 p1 n1n n1c b1n b1c p1n p1c yc.1 yc.2.1 yc.2.2.1 yc.2.2.2 Y (HE.later bv) dY.k dY.n dY.b dY.p hT.sn hT.sb hT.sp (by have:=dY.p.1;have:=hT.pl.1;omega) hT.pl.2 zp zh zk zo ta tn tc zT (cw.later bv) cu x1 nm ab be);have ej:i<(D.map (λz:Yn=>z.1)).length:=(by rw[List.length_map];exact cx);have da:((D.map (λz:Yn=>z.1))[i]'ej).2=(zp,zh,zk,zo,zT):=(by rw[List.getElem_map,(List.getElem?_eq_some_iff.1 hz).2]);have EQ:=Zd (Zii (K:=Kc) (y:=yc) (x:=x1) (nm:=nm) (D:=ab) ej (by rw[da];exact be));rw[Za HX] at EQ;obtain⟨dt,cf⟩:=kh2 be ak;obtain⟨-,m1,m2,m3,m4,m5,ml⟩:=kc6 ct;have az:=(ak.block _ dl).trans hT.b0;have bb:=(ak.block _ gc).trans hT.b3;obtain⟨q0,ql⟩:=kc1 az;obtain⟨r0,r1,r2,r3,rl⟩:=kc4 bb;clear bd hz cw cu ak ct bv dY be da HX d0 f0 e0 e1 e2 e3
   go_upto_region 5 with fail
   rw[<-hY];clear hY z0 z1 z2 z3 z4 z5;go_wp2_with fail;refine CT.mono ?_;rintro e w5 ⟨k2,dd,dc,n2,dg,df,b2,cm,cl,p2,dj,di,rfl,hF,s1,s2,s3,s4,ar⟩;have ax:=(ar.block _ ql).trans az;have ay:=(ar.block _ rl).trans bb;obtain⟨j0,jf,jl⟩:=kf1 ax;obtain⟨t0,t1,t2,t3,fw,fx,fy,fz,tl⟩:=kf4 ay;obtain⟨w6,ae⟩:∃ u,u=((((w5.setCell ⟨w.heap.size,0,none⟩ (F k2 dd dc)).setCell ⟨w.heap.size+3,0,none⟩ (F n2 dg df)).setCell ⟨w.heap.size+3,1,none⟩ (F b2 cm cl)).setCell ⟨w.heap.size+3,2,none⟩ (F p2 dj di)).setCell ⟨w.heap.size+3,3,none⟩ (E J ab.tip):=⟨_,rfl⟩;have ah:Gr w5 w6 (λq=>q=w.heap.size\/q=w.heap.size+3):=(by rw[ae];exact ((Gr.refl w5 _).one _ 0 (.inl (.inl rfl)) _).four _ (.inl (.inr rfl)) _ _ _ _);have aj:=Zf cf ar;have an:=ah.heap (ZE aj hT.b1) (by show ¬(_=_\/_=_);omega);have ap:=ah.heap (ZE aj hT.b2) (by show ¬(_=_\/_=_);omega);have af:ZD w w6:=ah.below (Zf hT.bel aj) (Zf hT.bel aj).size (λq e=>by rcases e with e|e <;> omega);obtain⟨fc,fd,fb⟩:=kh3 an ap af;have ff:=cf.size;by_cases bz:x1=0
   ·subst bz;have gz:((0:Int) != 0)=false:=rfl
    have NT:Hid (Zrn w S ab.k (ab.n,ab.t,ab.p,ab.tip) w6 k2 dd dc n2 dg df b2 cm cl p2 dj di):=by
     refine⟨?_,an,ap,?_,λV gV=>hF V ((ah.mono (λq _ e=>by show q<_;rcases e with e|e <;> omega)).trans (gV.mono (λq _ e=>by show q<_;unfold TkS at e;omega))),s1,s2,s3,s4,af,Znn dt⟩
     ·rw[ae];refine (((Gr.refl _ (λq=>q=w.heap.size+3)).four _ (.inl rfl) _ _ _ _)).heap (Tr.set_cells ax 0 _) (by show ¬_=_;omega)
     ·rw[ae];exact Tr.set_cells (Tr.set_cells (Tr.set_cells (Tr.set_cells (((Gr.refl w5 (λq=>q=w.heap.size)).one _ 0 (.inl rfl) _).heap ay (by show ¬_=_;omega)) 0 _) 1 _) 2 _) 3 _
    have dp:Hid (Wo ab.k (ab.n,ab.t,ab.p,ab.tip) ((D.map (·.1)).drop (i+1))=(x,K',y')):=by
     have:=Za EQ;rw[if_neg (λq=>q rfl)] at this;exact this.symm
    clear hF s1 s2 s3 s4 ar ax ay az bb ah aj an ap af hT HT EQ CT
    go_upto_region 7 with fail
    rw[<-ae];clear ae;go_wp2;go_roundw
    case rel=>exact⟨i+1,ab.k,_,_,_,_,_,_,_,_,_,_,_,_,_,cy,by go_num,NT,dp⟩
    case measure=>simp[intOf];omega
   ·have gz:(x1 != 0)=true:=(by simp[bz]);have:=Za EQ;rw[if_pos bz] at this;obtain⟨ex,this⟩:=Prod.mk.inj this;obtain⟨eK,ey⟩:=Prod.mk.inj this;subst ex eK ey;obtain⟨g0,gf,gl⟩:=kf1 an;obtain⟨h0,h1,h2,h3,ek,el,en,eo,hl⟩:=kf4 ap
    have bo:Hid (∀ W,Gr w6 W (λq=>q=w.heap.size+1\/q=w.heap.size+2)->TkaR w W S x [] ([],[],[],0) (dF (dG #[.agg #[F none 0 0],.agg #[F none 0 0,F none 0 0,F none 0 0,E J 0],E J x]))):=λW gW=>
     ⟨none,0,0,none,0,0,none,0,0,none,0,0,rfl,λV _=>Zha V,Vc,Vc,Vc,Vc,gW.below af af.size (λq e=>by rcases e with e|e <;> omega)⟩
    clear hF s1 s2 s3 s4 ar ax ay az bb ah aj an ap af hT HT EQ CT this
    go_upto_region 7 with fail
    rw[<-ae];clear ae;go_wp2;(try simp only[Exit.inBlock,Exit.then]);refine bB (v:=dG #[.agg #[F none 0 0],.agg #[F none 0 0,F none 0 0,F none 0 0,E J 0],E J x]) ?_ rfl ?_
    ·rw[Xm rfl];go_simp
    ·exact bo _ (((Gr.refl w6 (λq=>q=w.heap.size+1\/q=w.heap.size+2)).one (w.heap.size+1) 0 (.inl (.inl rfl)) _).four (w.heap.size+2) (.inl (.inr rfl)) _ _ _ _)
  ·have e:i=n:=(by omega);have hI:¬(i:Int)<(n:Int):=(by omega);have eQ:=Za HX;rw[bU (by rw[List.length_map,Za HN];omega),Wo] at eQ;obtain⟨ex,eQ⟩:=Prod.mk.inj eQ;obtain⟨eK,ey⟩:=Prod.mk.inj eQ;subst ex eK ey;obtain⟨g0,gf,gl⟩:=kf1 hT.b1;obtain⟨h0,h1,h2,h3,ek,el,en,eo,hl⟩:=kf4 hT.b2
   have bo:Hid (∀ W,Gr wr W (λq=>q=w.heap.size+1\/q=w.heap.size+2)->TkaR w W S 0 Kc yc (dF (dG #[.agg #[F k1 k1n k1c],.agg #[F n1 n1n n1c,F b1 b1n b1c,F p1 p1n p1c,E J yc.2.2.2],E J 0]))):=λW g=>
    ⟨k1,k1n,k1c,n1,n1n,n1c,b1,b1n,b1c,p1,p1n,p1c,rfl,λV gV=>hT.dat V ((g.mono (λq _ e=>.inr (by rcases e with e|e <;> omega))).trans (gV.mono (λq _ e=>.inl e))),hT.sk,hT.sn,hT.sb,hT.sp,g.below hT.bel hT.bel.size (λq e=>by rcases e with e|e <;> omega)⟩
   clear hT HT HX eQ;go_wp2_with fail
   go_region
   all_goals
    go_wp2;(try simp only[Exit.inBlock,Exit.then]);refine bB (v:=dG #[.agg #[F k1 k1n k1c],.agg #[F n1 n1n n1c,F b1 b1n b1c,F p1 p1n p1c,E J yc.2.2.2],E J 0]) ?_ rfl ?_
    ·rw[Xm rfl];go_simp
    ·exact bo _ ((((Gr.refl wr (λq=>q=w.heap.size+1\/q=w.heap.size+2)).one (w.heap.size+1) 0 (.inl (.inl rfl)) _).four (w.heap.size+2) (.inl (.inr rfl)) _ _ _ _).trans (Gr.of (Zi _)))
theorem Jf{w v:World}(hb:ZD w v)(c:List Value)(t:TypeId):∃ b v',b=v.heap.size/\v'=v.alloc (dE c.toArray t)/\ZD v v'/\v'.heap[b]? = some (dE c.toArray t (0,0))/\w.heap.size<=b/\ZD w v':=
 ⟨_,_,rfl,rfl,Zh _ _,heap_alloc_new _ _,hb.size,Zf hb (Zh _ _)⟩
def RowD(L:List Ye)(V:World)(v:Value)(n:Nat)(D:List Yn):Prop:=D.length=n/\n<=4096/\(∃ base,V.ownsRow base 322 6 v n (Z9 D))/\Stl L (D.map (·.1))/\∀ x∈D,NamAt V x
theorem RowD.later{L}{V V':World}{v}{n:Nat}{D}(h:RowD L V v n D)(hb:ZD V V'):RowD L V' v n D:=by
 obtain⟨h1,h2,⟨b,h3⟩,h4,h5⟩:=h;exact⟨h1,h2,⟨b,(Gr.of (S:=λ_=>False) hb).own h3 (λ_ _ q=>q)⟩,h4,λx hx=>(h5 x hx).later hb⟩
def PostS(w:World)(S:Nat->Prop)(K:List ByteArray)(y:Ye)(lo hi:Nat)(k1:Option Addr)(k1n k1c:Nat)(n1:Option Addr)(n1n n1c:Nat)(b1:Option Addr)(b1n b1c:Nat)(p1:Option Addr)(p1n p1c:Nat)(U:World):Prop:=
 ZD w U/\(∀ V,Gr U V (λq=>(S q/\q<lo)\/hi<=q)->Uo V k1 k1n K n1 n1n y.1 b1 b1n y.2.1 p1 p1n y.2.2.1)/\SlOk k1 k1n k1c/\SlOk n1 n1n n1c/\SlOk b1 b1n b1c/\SlOk p1 p1n p1c
section
variable {w U U' : World} {S : Nat -> Prop} {K : List ByteArray} {y : Ye} {lo hi : Nat} {k1 : Option Addr} {k1n k1c : Nat} {n1 : Option Addr} {n1n n1c : Nat} {b1 : Option Addr} {b1n b1c : Nat} {p1 : Option Addr} {p1n p1c : Nat}
theorem PostS.on(h:PostS w S K y lo hi k1 k1n k1c n1 n1n n1c b1 b1n b1c p1 p1n p1c U)(hb:ZD U U'):PostS w S K y lo hi k1 k1n k1c n1 n1n n1c b1 b1n b1c p1 p1n p1c U':=
 ⟨Zf h.1 hb,λV g=>h.2.1 V ((Gr.of hb).trans g),h.2.2⟩
theorem PostS.wr(h:PostS w S K y lo hi k1 k1n k1c n1 n1n n1c b1 b1n b1c p1 p1n p1c U)(g:Gr U U' (λq=>w.heap.size<=q/\((S q/\q<lo)\/hi<=q))):PostS w S K y lo hi k1 k1n k1c n1 n1n n1c b1 b1n b1c p1 p1n p1c U':=
 ⟨g.below h.1 h.1.size (λ_ e=>e.1),λV gV=>h.2.1 V ((g.mono (λ_ _ e=>e.2)).trans gV),h.2.2⟩
theorem TkaR.post{v0 v1:World}{x:Int}{e}(h:TkaR v0 v1 S x K y e)(hb:ZD w v0):∃ k1 k1n k1c n1 n1n n1c b1 b1n b1c p1 p1n p1c lo hi,e = dF (dG #[.agg #[F k1 k1n k1c],.agg #[F n1 n1n n1c,F b1 b1n b1c,F p1 p1n p1c,E J y.2.2.2],E J x])/\lo=v0.heap.size/\PostS w S K y lo hi k1 k1n k1c n1 n1n n1c b1 b1n b1c p1 p1n p1c v1/\ZD v0 v1/\w.heap.size<=lo/\lo<=hi/\hi<=v1.heap.size:=by
 obtain⟨k1,k1n,k1c,n1,n1n,n1c,b1,b1n,b1c,p1,p1n,p1c,e,hF,s1,s2,s3,s4,aa⟩:=h;refine⟨k1,k1n,k1c,n1,n1n,n1c,b1,b1n,b1c,p1,p1n,p1c,_,v1.heap.size,e,rfl,⟨Zf hb aa,λV g=>hF V ?_,s1,s2,s3,s4⟩,aa,hb.size,aa.size,aF _⟩;exact (Gr.refl v1 _).far g (λq e=>e.elim (λe=>.inr ⟨e.2,e.1⟩) .inl)
end
section
variable {Z : Nat -> Prop} {s : Nat} {W : WD} {wx : World} {ka : Option Addr} {kn kc : Nat} {vn vm : Value} {Kn Km : List (List Value)}
theorem Znd(h:ScAt Z s W wx ka kn kc vn vm Kn Km){k1 k1n k1c K'}(hF:∀ V,Gr wx V (λq=>(Z q\/q=s)\/vn.ownBlock=some q)->Bk.TextsAt V k1 k1n K')(s1:SlOk k1 k1n k1c) :
  ScAt Z s ⟨K',W.n,[]⟩ ((wx.setCell ⟨s,0,none⟩ (F k1 k1n k1c)).setCell ⟨s,2,none⟩ (F none 0 0)) k1 k1n k1c vn (F none 0 0) Kn []/\Gr wx ((wx.setCell ⟨s,0,none⟩ (F k1 k1n k1c)).setCell ⟨s,2,none⟩ (F none 0 0)) (λq=>q=s):=by
 have g:Gr wx ((wx.setCell ⟨s,0,none⟩ (F k1 k1n k1c)).setCell ⟨s,2,none⟩ (F none 0 0)) (λq=>q=s):=((Gr.refl wx (λq=>q=s)).one s 0 (.inl rfl) _).one s 2 (.inl rfl) _;refine⟨⟨Tr.set_cells (Tr.set_cells h.box 0 _) 2 _,λq e=>⟨aD (h.zs q e).1 g.size,(h.zs q e).2.1,(h.zs q e).2.2.1,by simp[Value.ownBlock]⟩,⟨g.own h.on.rn (λq hq e=>Y1 h.on.rn h.box (by decide) q hq e),⟨rfl,.inl ⟨rfl,rfl⟩⟩,λV gV=>?_,s1⟩⟩,g⟩;have gw:Gr wx V (λq=>(Z q\/q=s)\/vn.ownBlock=some q):=(g.mono (λq _ e=>.inl (.inr e))).trans (gV.mono (λq _ e=>e.imp id (λe=>e.elim id (λe=>by simp[Value.ownBlock] at e))));obtain⟨_,d2,_⟩:=h.on.dat V (gw.mono (λq _ e=>e.imp id .inl));exact⟨hF V gw,d2,rfl,λ_ h=>absurd h (by simp)⟩
theorem Znb{g cap i n:Nat}{y:Ye}{cs:List Value}(hl:W.n.length=n)(h:ScAt Z s W wx ka kn kc (F (some ⟨g,0,none⟩) n cap) vm Kn Km)(hi:i<n)(hw:cs.length=4)(hF:∀ V,Gr wx V (λq=>(Z q\/q=s)\/q=g\/vm.ownBlock=some q)->Tr.nodR.C V cs y) :
  ScAt Z s ⟨W.k,W.n.set i y,W.m⟩ (Tr.setsW wx g (i*4) cs) ka kn kc (F (some ⟨g,0,none⟩) n cap) vm (Kn.set i cs) Km/\Gr wx (Tr.setsW wx g (i*4) cs) (λq=>q=g):=by
 subst hl;have ak:g≠s:=Y1 h.on.rn h.box (by decide) g rfl;have gb:Gr wx (Tr.setsW wx g (i*4) cs) (λq=>q=g):=Tr.setsW_gr _ _ _ (Gr.refl _ _) (.inl rfl);have hk:i<Kn.length:=by rw[h.on.now.2.1.1];exact hi
 refine⟨⟨gb.heap h.box (λe=>ak (Eq.symm e)),λq e=>⟨aD (h.zs q e).1 gb.size,(h.zs q e).2⟩,⟨?_,?_,λV gV=>?_,h.on.sk⟩⟩,gb⟩
 ·show World.ownsRow _ _ _ _ _ (W.n.set i _).length _;rw[List.length_set];exact Tr.own_put (Z:=Tr.nodR) h.on.rn h.on.now.2.1.wid hk hw
 ·exact gb.own h.on.rm (λq hq e=>Tr.own_apart h.on.rn h.on.rm (by decide) q (by rw[show q=g from e];rfl) hq)
 ·have gw:Gr wx V (λq=>(Z q\/q=s)\/(Value.slice (some ⟨g,0,none⟩) W.n.length cap).ownBlock=some q\/vm.ownBlock=some q):=(gb.mono (λq _ e=>.inr (.inl (by rw[show q=g from e];rfl)))).trans gV;obtain⟨d1,d2,d3⟩:=h.on.dat V gw;exact⟨d1,Zab d2 (hF V (gw.mono (λq _ e=>e.imp id (λe=>e.imp (λe=>by injection e with e;exact e.symm) id)))),d3⟩
end
theorem Zit{L:List Ye}{y:Ye}{i:Nat}(h:i<L.length):(aR i y++L.drop i).set i y=aR (i+1) y++L.drop (i+1):=by
 rw[aJ h,List.set_append_right _ _ (by simp),List.length_replicate,Nat.sub_self,List.set_cons_zero,List.replicate_succ',List.append_assoc];rfl
theorem Zfd(Z:Nat->Prop)(s:Nat)(W:WD)(x:Int)(K')(y':Ye)(w)(hE:Env w)(hS:Sc Z s W w)(h0:Ur W.k W.n W.m=0)(hx:∀ Q,Stl W.n Q->Wo W.k ([],[],[],0) Q=(x,K',y'))(hy:x=0->Zad y') :
  Calls Tryz.prog 121 #[dH (some ⟨s,0,none⟩)] w λe w'=>Uy Z s x ⟨K',aR W.n.length y',[]⟩ w w' e:=by
 obtain⟨h1,h4,_,_,_,hr,_⟩:=Xi h0;obtain⟨ka,kn,kc,vn,vm,Kn,Km,hA⟩:=hS;have hb:=hA.box;obtain⟨na,nc,ma,mc,rfl,rfl,ef,_,go,_⟩:=hA.on.read
 obtain⟨g,rfl⟩:∃ g,na=some ⟨g,0,none⟩:=by
  rcases hA.on.rn.2 with ⟨_,e⟩|⟨g,cap,fl,e,_⟩
  ·omega
  ·injection e with e;exact⟨g,e⟩
 obtain⟨S,eS⟩:∃ S:Nat->Prop,S=λq=>(Z q\/q=s)\/q=g\/(Value.slice ma W.m.length mc).ownBlock=some q\/w.heap.size<=q:=⟨_,rfl⟩;obtain⟨n,hn⟩:=ZF (W.n.length)
 have CB:Hid (∀ V,ZD w V->Calls Tryz.prog 190 #[F (some ⟨g,0,none⟩) n nc] V λe w'=>∃ v m,∃ D:List Yn,e = dF v/\RowD W.n w' v m D/\ZD V w'):=λV hv=>by
  have hN:=ef.later hv;rw[hn] at hN;refine (E6 W.k (some ⟨g,0,none⟩) n nc W.n V hN (by omega) hr).mono ?_;rintro e w' ⟨v,m,D,rfl,d1,d2,d3,d4,d5,d6⟩;exact⟨v,m,D,rfl,⟨d1,d2,⟨_,d3⟩,d4,λz hz=>(d5 z hz).later d6⟩,d6⟩
 have CT:Hid (∀ V v m D,ZD w V->RowD W.n V v m D->Calls Tryz.prog 189 #[.agg #[F ka kn kc],v] V λe w'=>TkaR V w' S x K' y' e):=λV v m D hv hD=>by
  obtain⟨d1,d2,⟨base,d3⟩,d4,d5⟩:=hD;refine Zao S ka kn kc W.k base m v D x K' y' V (hE.later hv) (λU gU=>?_) hA.on.sk d1 d2 d3 d5 (hx _ d4);refine (hA.on.dat U ((Gr.of hv).far gU (λq e=>?_))).1;rw[eS] at e
  rcases e with e|e|e|e
  ·exact .inr (.inl e)
  ·exact .inr (.inr (.inl (by rw[e];rfl)))
  ·exact .inr (.inr (.inr e))
  ·exact .inl e
 have KS:Hid (∀ U:World,ZD w U->(U.cell? ⟨s,0,none⟩=some (F ka kn kc)/\U.cell? ⟨s,1,none⟩=some (F (some ⟨g,0,none⟩) n nc)/\s<U.heap.size)):=λU hu=>⟨Ze hu (Zb hb 0 _ rfl),by rw[<-hn];exact Ze hu (Zb hb 1 _ rfl),aD (aA hb) hu.size⟩;obtain⟨HA,HY,HN⟩:=kh3 hA hy hn;have de:Hid (∀ q,w.heap.size<=q->S q):=λq hq=>by rw[eS];exact .inr (.inr (.inr hq))
 have dy:Hid (∀ q,((Z q\/q=s)\/q=g)->S q):=λq hq=>by rw[eS];exact hq.imp id .inl
 have n4:n<=4:=by omega
 clear hE h0 hx hy hr hb ef go hA h1 h4 eS hn;go_enter Tryz.func121,Tryz.ntmps121
 go_upto_region 1 with fail
 go_cut [3,4,5] from 7 to 22 (λs3 s4 s5 wx=>s5 = E J x/\Hid (∃ b3 b4 k1 k1n k1c n1 n1n n1c b1 b1n b1c p1 p1n p1c,s3 = dH (some ⟨b3,0,none⟩)/\s4 = dH (some ⟨b4,0,none⟩)/\wx.heap[b3]? = some (dE [F k1 k1n k1c].toArray 24 (0,0))/\wx.heap[b4]? = some (dE [F n1 n1n n1c,F b1 b1n b1c,F p1 p1n p1c,E J y'.2.2.2].toArray 67 (0,0))/\w.heap.size<=b3/\w.heap.size<=b4/\∃ lo hi,w.heap.size<=lo/\lo<=hi/\hi<=wx.heap.size/\PostS w S K' y' lo hi k1 k1n k1c n1 n1n n1c b1 b1n b1c p1 p1n p1c wx))
 case first=>
  refine dD (S:=λU=>U.cell? ⟨s,0,none⟩=some (F ka kn kc)/\U.cell? ⟨s,1,none⟩=some (F (some ⟨g,0,none⟩) n nc)/\s<U.heap.size) (by kernel_rfl) (KS _ (Zi w)) (λaa=>?_);refine tkL 0 rfl aa ?_;refine tkL 1 rfl aa ?_;refine tkL 2 rfl aa ?_;refine tkL 3 rfl aa ?_;refine tkL 4 rfl aa ?_;refine tkL 5 rfl aa ?_;refine tkL 6 rfl aa ?_;refine tkL 7 rfl aa ?_;refine tkL 8 rfl aa ?_;refine tkL 9 rfl aa ?_;have hb:=Zi w;obtain⟨v0,ek⟩:∃ v,v=w.drew:=⟨_,rfl⟩;rw[<-ek] at hb aa ⊢;clear ek;refine cM (rs:=[10,16,17]) (by kernel_rfl) (by simp) ?_;refine rdC rfl (λKQ hK=>?_) (rdC rfl (λKQ hK=>?_) (rdC rfl (λKQ hK=>?_) AllReadyH.nil));refine Zm (by kernel_rfl) _ _ (by kernel_rfl) (CB v0 hb) ?_;rintro e v1 ⟨rv,rn,D,rfl,hR,ac⟩;refine⟨_,rfl,?_⟩;have hb:=Zf hb ac;clear aa;refine hK.out _ _ (KS _ hb) (λaa=>?_);clear hK KQ;refine cM (rs:=[11,16,17]) (by kernel_rfl) (by simp) ?_;refine rdC rfl (λKQ hK=>?_) (rdC rfl (λKQ hK=>?_) (rdC rfl (λKQ hK=>?_) AllReadyH.nil));refine Zm (by kernel_rfl) _ _ (by kernel_rfl) (CT v1 rv rn D hb hR) ?_;intro e v2 hq;obtain⟨k1,k1n,k1c,n1,n1n,n1c,b1,b1n,b1c,p1,p1n,p1c,lo,aj,rfl,aq,hP,ac,aw,bf,ak⟩:=hq.post hb;refine⟨_,rfl,?_⟩;have hb:=Zf hb ac;clear aa;refine hK.out _ _ (KS _ hb) (λaa=>?_);clear hK KQ;(try simp only[aQ,ZA,ZB,ZC]);refine tkL 12 rfl aa ?_;refine tkL 13 rfl aa ?_;refine tkL 14 rfl aa ?_;refine tkL 15 rfl aa ?_;refine cM (rs:=[16,17]) (by kernel_rfl) (by simp) ?_
  refine rdC rfl (λKQ hK=>?_) (rdC rfl (λKQ hK=>?_) AllReadyH.nil);go_simp;obtain⟨b3,v3,an,af,ac,h3,l3,hb⟩:=Jf hb [F none 0 0] 24;rw[<-af,<-an];have o3:b3<lo\/aj<=b3:=.inr (by omega);clear af an;have hP:=hP.on ac;have ak:=aN ak ac.size;clear aa;refine hK.out _ _ (KS _ hb) (λaa=>?_);clear hK KQ;refine rdY 17 rfl (λKQ hK=>?_);go_simp;obtain⟨b4,v4,ap,af,ac,h4,l4,hb⟩:=Jf hb [F none 0 0,F none 0 0,F none 0 0,E J 0] 67;rw[<-af,<-ap];have o4:b4<lo\/aj<=b4:=.inr (by omega);clear af ap;have h3:=ZE ac h3;have hP:=hP.on ac;have ak:=aN ak ac.size;clear aa;refine hK.out _ _ (KS _ hb) (λaa=>?_);clear hK KQ;obtain⟨vz,ar⟩:∃ z,z=v4:=⟨_,rfl⟩;subst ar;rotate_left;go_simp;obtain⟨b4,v3,ap,af,ac,h4,l4,hb⟩:=Jf hb [F none 0 0,F none 0 0,F none 0 0,E J 0] 67;rw[<-af,<-ap];have o4:b4<lo\/aj<=b4:=.inr (by omega);clear af ap;have hP:=hP.on ac;have ak:=aN ak ac.size;clear aa;refine hK.out _ _ (KS _ hb) (λaa=>?_);clear hK KQ;refine rdY 16 rfl (λKQ hK=>?_);go_simp;obtain⟨b3,v4,an,af,ac,h3,l3,hb⟩:=Jf hb [F none 0 0] 24;rw[<-af,<-an];have o3:b3<lo\/aj<=b3:=.inr (by omega);clear af an;have h4:=ZE ac h4;have hP:=hP.on ac;have ak:=aN ak ac.size;clear aa;refine hK.out _ _ (KS _ hb) (λaa=>?_);clear hK KQ;obtain⟨vz,ar⟩:∃ z,z=v4:=⟨_,rfl⟩;subst ar;rotate_left;go_simp;obtain⟨b3,v2,an,af,ac,h3,l3,hb⟩:=Jf hb [F none 0 0] 24;rw[<-af,<-an];clear af an;have hR:=hR.later ac;clear aa
  refine hK.out _ _ (KS _ hb) (λaa=>?_);clear hK KQ;refine cM (rs:=[11,17]) (by kernel_rfl) (by simp) ?_;refine rdC rfl (λKQ hK=>?_) (rdC rfl (λKQ hK=>?_) AllReadyH.nil);refine Zm (by kernel_rfl) _ _ (by kernel_rfl) (CT v2 rv rn D hb hR) ?_;intro e v3 hq;obtain⟨k1,k1n,k1c,n1,n1n,n1c,b1,b1n,b1c,p1,p1n,p1c,lo,aj,rfl,aq,hP,ac,aw,bf,ak⟩:=hq.post hb;refine⟨_,rfl,?_⟩;have hb:=Zf hb ac;have o3:b3<lo\/aj<=b3:=.inl (by rw[aq];exact aA h3);have h3:=ZE ac h3;clear aa;refine hK.out _ _ (KS _ hb) (λaa=>?_);clear hK KQ;(try simp only[aQ,ZA,ZB,ZC]);refine tkL 12 rfl aa ?_;refine tkL 13 rfl aa ?_;refine tkL 14 rfl aa ?_;refine tkL 15 rfl aa ?_;refine rdY 17 rfl (λKQ hK=>?_);go_simp;obtain⟨b4,v4,ap,af,ac,h4,l4,hb⟩:=Jf hb [F none 0 0,F none 0 0,F none 0 0,E J 0] 67;rw[<-af,<-ap];have o4:b4<lo\/aj<=b4:=.inr (by omega);clear af ap;have h3:=ZE ac h3;have hP:=hP.on ac;have ak:=aN ak ac.size;clear aa;refine hK.out _ _ (KS _ hb) (λaa=>?_);clear hK KQ;obtain⟨vz,ar⟩:∃ z,z=v4:=⟨_,rfl⟩;subst ar;rotate_left;go_simp;obtain⟨b4,v3,ap,af,ac,h4,l4,hb⟩:=Jf hb [F none 0 0,F none 0 0,F none 0 0,E J 0] 67;rw[<-af,<-ap];clear af ap;have h3:=ZE ac h3;have hR:=hR.later ac;clear aa;refine hK.out _ _ (KS _ hb) (λaa=>?_);clear hK KQ;refine rdY 11 rfl (λKQ hK=>?_);refine Zm (by kernel_rfl) _ _ (by kernel_rfl) (CT v3 rv rn D hb hR) ?_;intro e v4 hq
  obtain⟨k1,k1n,k1c,n1,n1n,n1c,b1,b1n,b1c,p1,p1n,p1c,lo,aj,rfl,aq,hP,ac,aw,bf,ak⟩:=hq.post hb;refine⟨_,rfl,?_⟩;have hb:=Zf hb ac;have o3:b3<lo\/aj<=b3:=.inl (by rw[aq];exact aA h3);have o4:b4<lo\/aj<=b4:=.inl (by rw[aq];exact aA h4);have h3:=ZE ac h3;have h4:=ZE ac h4;clear aa;refine hK.out _ _ (KS _ hb) (λaa=>?_);clear hK KQ;(try simp only[aQ,ZA,ZB,ZC]);refine tkL 12 rfl aa ?_;refine tkL 13 rfl aa ?_;refine tkL 14 rfl aa ?_;refine tkL 15 rfl aa ?_;obtain⟨vz,ar⟩:∃ z,z=v4:=⟨_,rfl⟩;subst ar;rotate_left;go_simp;obtain⟨b4,v2,ap,af,ac,h4,l4,hb⟩:=Jf hb [F none 0 0,F none 0 0,F none 0 0,E J 0] 67;rw[<-af,<-ap];clear af ap;have hR:=hR.later ac;clear aa;refine hK.out _ _ (KS _ hb) (λaa=>?_);clear hK KQ;refine cM (rs:=[11,16]) (by kernel_rfl) (by simp) ?_;refine rdC rfl (λKQ hK=>?_) (rdC rfl (λKQ hK=>?_) AllReadyH.nil);refine Zm (by kernel_rfl) _ _ (by kernel_rfl) (CT v2 rv rn D hb hR) ?_;intro e v3 hq;obtain⟨k1,k1n,k1c,n1,n1n,n1c,b1,b1n,b1c,p1,p1n,p1c,lo,aj,rfl,aq,hP,ac,aw,bf,ak⟩:=hq.post hb;refine⟨_,rfl,?_⟩;have hb:=Zf hb ac;have o4:b4<lo\/aj<=b4:=.inl (by rw[aq];exact aA h4);have h4:=ZE ac h4;clear aa;refine hK.out _ _ (KS _ hb) (λaa=>?_);clear hK KQ;(try simp only[aQ,ZA,ZB,ZC]);refine tkL 12 rfl aa ?_;refine tkL 13 rfl aa ?_;refine tkL 14 rfl aa ?_;refine tkL 15 rfl aa ?_;refine rdY 16 rfl (λKQ hK=>?_);go_simp;obtain⟨b3,v4,an,af,ac,h3,l3,hb⟩:=Jf hb [F none 0 0] 24;rw[<-af,<-an]
  have o3:b3<lo\/aj<=b3:=.inr (by omega);clear af an;have h4:=ZE ac h4;have hP:=hP.on ac;have ak:=aN ak ac.size;clear aa;refine hK.out _ _ (KS _ hb) (λaa=>?_);clear hK KQ;obtain⟨vz,ar⟩:∃ z,z=v4:=⟨_,rfl⟩;subst ar;rotate_left;go_simp;obtain⟨b3,v3,an,af,ac,h3,l3,hb⟩:=Jf hb [F none 0 0] 24;rw[<-af,<-an];clear af an;have h4:=ZE ac h4;have hR:=hR.later ac;clear aa;refine hK.out _ _ (KS _ hb) (λaa=>?_);clear hK KQ;refine rdY 11 rfl (λKQ hK=>?_);refine Zm (by kernel_rfl) _ _ (by kernel_rfl) (CT v3 rv rn D hb hR) ?_;intro e v4 hq;obtain⟨k1,k1n,k1c,n1,n1n,n1c,b1,b1n,b1c,p1,p1n,p1c,lo,aj,rfl,aq,hP,ac,aw,bf,ak⟩:=hq.post hb;refine⟨_,rfl,?_⟩;have hb:=Zf hb ac;have o3:b3<lo\/aj<=b3:=.inl (by rw[aq];exact aA h3);have o4:b4<lo\/aj<=b4:=.inl (by rw[aq];exact aA h4);have h3:=ZE ac h3;have h4:=ZE ac h4;clear aa;refine hK.out _ _ (KS _ hb) (λaa=>?_);clear hK KQ;(try simp only[aQ,ZA,ZB,ZC]);refine tkL 12 rfl aa ?_;refine tkL 13 rfl aa ?_;refine tkL 14 rfl aa ?_;refine tkL 15 rfl aa ?_;obtain⟨vz,ar⟩:∃ z,z=v4:=⟨_,rfl⟩;subst ar;rotate_left;go_simp;obtain⟨b3,v1,an,af,ac,h3,l3,hb⟩:=Jf hb [F none 0 0] 24;rw[<-af,<-an];clear af an;clear aa;refine hK.out _ _ (KS _ hb) (λaa=>?_);clear hK KQ;refine cM (rs:=[10,17]) (by kernel_rfl) (by simp) ?_;refine rdC rfl (λKQ hK=>?_) (rdC rfl (λKQ hK=>?_) AllReadyH.nil);refine Zm (by kernel_rfl) _ _ (by kernel_rfl) (CB v1 hb) ?_;rintro e v2 ⟨rv,rn,D,rfl,hR,ac⟩;refine⟨_,rfl,?_⟩;have hb:=Zf hb ac
  have h3:=ZE ac h3;clear aa;refine hK.out _ _ (KS _ hb) (λaa=>?_);clear hK KQ;refine cM (rs:=[11,17]) (by kernel_rfl) (by simp) ?_;refine rdC rfl (λKQ hK=>?_) (rdC rfl (λKQ hK=>?_) AllReadyH.nil);refine Zm (by kernel_rfl) _ _ (by kernel_rfl) (CT v2 rv rn D hb hR) ?_;intro e v3 hq;obtain⟨k1,k1n,k1c,n1,n1n,n1c,b1,b1n,b1c,p1,p1n,p1c,lo,aj,rfl,aq,hP,ac,aw,bf,ak⟩:=hq.post hb;refine⟨_,rfl,?_⟩;have hb:=Zf hb ac;have o3:b3<lo\/aj<=b3:=.inl (by rw[aq];exact aA h3);have h3:=ZE ac h3;clear aa;refine hK.out _ _ (KS _ hb) (λaa=>?_);clear hK KQ;(try simp only[aQ,ZA,ZB,ZC]);refine tkL 12 rfl aa ?_;refine tkL 13 rfl aa ?_;refine tkL 14 rfl aa ?_;refine tkL 15 rfl aa ?_;refine rdY 17 rfl (λKQ hK=>?_);go_simp;obtain⟨b4,v4,ap,af,ac,h4,l4,hb⟩:=Jf hb [F none 0 0,F none 0 0,F none 0 0,E J 0] 67;rw[<-af,<-ap];have o4:b4<lo\/aj<=b4:=.inr (by omega);clear af ap;have h3:=ZE ac h3;have hP:=hP.on ac;have ak:=aN ak ac.size;clear aa;refine hK.out _ _ (KS _ hb) (λaa=>?_);clear hK KQ;obtain⟨vz,ar⟩:∃ z,z=v4:=⟨_,rfl⟩;subst ar;rotate_left;go_simp;obtain⟨b4,v3,ap,af,ac,h4,l4,hb⟩:=Jf hb [F none 0 0,F none 0 0,F none 0 0,E J 0] 67;rw[<-af,<-ap];clear af ap;have h3:=ZE ac h3;have hR:=hR.later ac;clear aa;refine hK.out _ _ (KS _ hb) (λaa=>?_);clear hK KQ;refine rdY 11 rfl (λKQ hK=>?_);refine Zm (by kernel_rfl) _ _ (by kernel_rfl) (CT v3 rv rn D hb hR) ?_;intro e v4 hq
  obtain⟨k1,k1n,k1c,n1,n1n,n1c,b1,b1n,b1c,p1,p1n,p1c,lo,aj,rfl,aq,hP,ac,aw,bf,ak⟩:=hq.post hb;refine⟨_,rfl,?_⟩;have hb:=Zf hb ac;have o3:b3<lo\/aj<=b3:=.inl (by rw[aq];exact aA h3);have o4:b4<lo\/aj<=b4:=.inl (by rw[aq];exact aA h4);have h3:=ZE ac h3;have h4:=ZE ac h4;clear aa;refine hK.out _ _ (KS _ hb) (λaa=>?_);clear hK KQ;(try simp only[aQ,ZA,ZB,ZC]);refine tkL 12 rfl aa ?_;refine tkL 13 rfl aa ?_;refine tkL 14 rfl aa ?_;refine tkL 15 rfl aa ?_;obtain⟨vz,ar⟩:∃ z,z=v4:=⟨_,rfl⟩;subst ar;rotate_left;go_simp;obtain⟨b4,v2,ap,af,ac,h4,l4,hb⟩:=Jf hb [F none 0 0,F none 0 0,F none 0 0,E J 0] 67;rw[<-af,<-ap];clear af ap;have h3:=ZE ac h3;clear aa;refine hK.out _ _ (KS _ hb) (λaa=>?_);clear hK KQ;refine rdY 10 rfl (λKQ hK=>?_);refine Zm (by kernel_rfl) _ _ (by kernel_rfl) (CB v2 hb) ?_;rintro e v3 ⟨rv,rn,D,rfl,hR,ac⟩;refine⟨_,rfl,?_⟩;have hb:=Zf hb ac;have h3:=ZE ac h3;have h4:=ZE ac h4;clear aa;refine hK.out _ _ (KS _ hb) (λaa=>?_);clear hK KQ;refine rdY 11 rfl (λKQ hK=>?_);refine Zm (by kernel_rfl) _ _ (by kernel_rfl) (CT v3 rv rn D hb hR) ?_;intro e v4 hq;obtain⟨k1,k1n,k1c,n1,n1n,n1c,b1,b1n,b1c,p1,p1n,p1c,lo,aj,rfl,aq,hP,ac,aw,bf,ak⟩:=hq.post hb;refine⟨_,rfl,?_⟩;have hb:=Zf hb ac;have o3:b3<lo\/aj<=b3:=.inl (by rw[aq];exact aA h3);have o4:b4<lo\/aj<=b4:=.inl (by rw[aq];exact aA h4);have h3:=ZE ac h3;have h4:=ZE ac h4;clear aa;refine hK.out _ _ (KS _ hb) (λaa=>?_);clear hK KQ
  (try simp only[aQ,ZA,ZB,ZC]);refine tkL 12 rfl aa ?_;refine tkL 13 rfl aa ?_;refine tkL 14 rfl aa ?_;refine tkL 15 rfl aa ?_;obtain⟨vz,ar⟩:∃ z,z=v4:=⟨_,rfl⟩;subst ar;rotate_left;go_simp;obtain⟨b4,v1,ap,af,ac,h4,l4,hb⟩:=Jf hb [F none 0 0,F none 0 0,F none 0 0,E J 0] 67;rw[<-af,<-ap];clear af ap;clear aa;refine hK.out _ _ (KS _ hb) (λaa=>?_);clear hK KQ;refine cM (rs:=[10,16]) (by kernel_rfl) (by simp) ?_;refine rdC rfl (λKQ hK=>?_) (rdC rfl (λKQ hK=>?_) AllReadyH.nil);refine Zm (by kernel_rfl) _ _ (by kernel_rfl) (CB v1 hb) ?_;rintro e v2 ⟨rv,rn,D,rfl,hR,ac⟩;refine⟨_,rfl,?_⟩;have hb:=Zf hb ac;have h4:=ZE ac h4;clear aa;refine hK.out _ _ (KS _ hb) (λaa=>?_);clear hK KQ;refine cM (rs:=[11,16]) (by kernel_rfl) (by simp) ?_;refine rdC rfl (λKQ hK=>?_) (rdC rfl (λKQ hK=>?_) AllReadyH.nil);refine Zm (by kernel_rfl) _ _ (by kernel_rfl) (CT v2 rv rn D hb hR) ?_;intro e v3 hq;obtain⟨k1,k1n,k1c,n1,n1n,n1c,b1,b1n,b1c,p1,p1n,p1c,lo,aj,rfl,aq,hP,ac,aw,bf,ak⟩:=hq.post hb;refine⟨_,rfl,?_⟩;have hb:=Zf hb ac;have o4:b4<lo\/aj<=b4:=.inl (by rw[aq];exact aA h4);have h4:=ZE ac h4;clear aa;refine hK.out _ _ (KS _ hb) (λaa=>?_);clear hK KQ;(try simp only[aQ,ZA,ZB,ZC]);refine tkL 12 rfl aa ?_;refine tkL 13 rfl aa ?_;refine tkL 14 rfl aa ?_;refine tkL 15 rfl aa ?_;refine rdY 16 rfl (λKQ hK=>?_);go_simp;obtain⟨b3,v4,an,af,ac,h3,l3,hb⟩:=Jf hb [F none 0 0] 24;rw[<-af,<-an];have o3:b3<lo\/aj<=b3:=.inr (by omega)
  clear af an;have h4:=ZE ac h4;have hP:=hP.on ac;have ak:=aN ak ac.size;clear aa;refine hK.out _ _ (KS _ hb) (λaa=>?_);clear hK KQ;obtain⟨vz,ar⟩:∃ z,z=v4:=⟨_,rfl⟩;subst ar;rotate_left;go_simp;obtain⟨b3,v3,an,af,ac,h3,l3,hb⟩:=Jf hb [F none 0 0] 24;rw[<-af,<-an];clear af an;have h4:=ZE ac h4;have hR:=hR.later ac;clear aa;refine hK.out _ _ (KS _ hb) (λaa=>?_);clear hK KQ;refine rdY 11 rfl (λKQ hK=>?_);refine Zm (by kernel_rfl) _ _ (by kernel_rfl) (CT v3 rv rn D hb hR) ?_;intro e v4 hq;obtain⟨k1,k1n,k1c,n1,n1n,n1c,b1,b1n,b1c,p1,p1n,p1c,lo,aj,rfl,aq,hP,ac,aw,bf,ak⟩:=hq.post hb;refine⟨_,rfl,?_⟩;have hb:=Zf hb ac;have o3:b3<lo\/aj<=b3:=.inl (by rw[aq];exact aA h3);have o4:b4<lo\/aj<=b4:=.inl (by rw[aq];exact aA h4);have h3:=ZE ac h3;have h4:=ZE ac h4;clear aa;refine hK.out _ _ (KS _ hb) (λaa=>?_);clear hK KQ;(try simp only[aQ,ZA,ZB,ZC]);refine tkL 12 rfl aa ?_;refine tkL 13 rfl aa ?_;refine tkL 14 rfl aa ?_;refine tkL 15 rfl aa ?_;obtain⟨vz,ar⟩:∃ z,z=v4:=⟨_,rfl⟩;subst ar;rotate_left;go_simp;obtain⟨b3,v2,an,af,ac,h3,l3,hb⟩:=Jf hb [F none 0 0] 24;rw[<-af,<-an];clear af an;have h4:=ZE ac h4;clear aa;refine hK.out _ _ (KS _ hb) (λaa=>?_);clear hK KQ;refine rdY 10 rfl (λKQ hK=>?_);refine Zm (by kernel_rfl) _ _ (by kernel_rfl) (CB v2 hb) ?_;rintro e v3 ⟨rv,rn,D,rfl,hR,ac⟩;refine⟨_,rfl,?_⟩;have hb:=Zf hb ac;have h3:=ZE ac h3;have h4:=ZE ac h4;clear aa;refine hK.out _ _ (KS _ hb) (λaa=>?_);clear hK KQ
  refine rdY 11 rfl (λKQ hK=>?_);refine Zm (by kernel_rfl) _ _ (by kernel_rfl) (CT v3 rv rn D hb hR) ?_;intro e v4 hq;obtain⟨k1,k1n,k1c,n1,n1n,n1c,b1,b1n,b1c,p1,p1n,p1c,lo,aj,rfl,aq,hP,ac,aw,bf,ak⟩:=hq.post hb;refine⟨_,rfl,?_⟩;have hb:=Zf hb ac;have o3:b3<lo\/aj<=b3:=.inl (by rw[aq];exact aA h3);have o4:b4<lo\/aj<=b4:=.inl (by rw[aq];exact aA h4);have h3:=ZE ac h3;have h4:=ZE ac h4;clear aa;refine hK.out _ _ (KS _ hb) (λaa=>?_);clear hK KQ;(try simp only[aQ,ZA,ZB,ZC]);refine tkL 12 rfl aa ?_;refine tkL 13 rfl aa ?_;refine tkL 14 rfl aa ?_;refine tkL 15 rfl aa ?_;obtain⟨vz,ar⟩:∃ z,z=v4:=⟨_,rfl⟩;subst ar;rotate_left
  all_goals
   have en:b3≠b4:=λe=>by rw[e,h4] at h3;injection h3 with h3;injection h3 with h3 h9;exact absurd h9 (by decide)
   obtain⟨y0,f0,yl⟩:=kf1 h3;refine rdY 18 rfl (λKQ hK=>?_);go_simp;obtain⟨va,dc⟩:∃ v,v=vz.setCell ⟨b3,0,none⟩ (F k1 k1n k1c):=⟨_,rfl⟩;rw[<-dc];have ir:Gr vz va (λq=>q=b3):=(by rw[dc];exact (Gr.refl vz (λq=>q=b3)).one b3 0 (.inl rfl) _);have fs:va.heap[b3]? = some (dE [F k1 k1n k1c].toArray 24 (0,0)):=(by rw[dc];exact Tr.set_cells h3 0 _);have ee:=ir.heap h4 (λe=>en (Eq.symm e));have dn:ZD w va:=ir.below hb hb.size (λq e=>by have e:q=b3:=e;omega);obtain⟨z0,z1,z2,z3,x0,x1,x2,x3,zl⟩:=kf4 ee;clear dc aa;refine hK.out _ _ (KS _ dn) (λaa=>?_);clear hK KQ;(try simp only[aQ]);refine rdY 19 rfl (λKQ hK=>?_);go_simp;have it:Gr va ((((va.setCell ⟨b4,0,none⟩ (F n1 n1n n1c)).setCell ⟨b4,1,none⟩ (F b1 b1n b1c)).setCell ⟨b4,2,none⟩ (F p1 p1n p1c)).setCell ⟨b4,3,none⟩ (E J y'.2.2.2)) (λq=>q=b4):=(Gr.refl va (λq=>q=b4)).four b4 (.inl rfl) _ _ _ _;have fx:=it.below dn dn.size (λq e=>by have e:q=b4:=e;omega);clear aa;refine hK.out _ _ (KS _ fx) (λaa=>?_);clear hK KQ;(try simp only[aQ]);refine tkL 20 rfl aa ?_;refine wpAnyH_done (by kernel_rfl) ?_ _;clear aa;go_wp2_with fail;go_meet
   case rel=>
    refine⟨rfl,b3,b4,k1,k1n,k1c,n1,n1n,n1c,b1,b1n,b1c,p1,p1n,p1c,rfl,rfl,it.heap fs en,Tr.set_cells (Tr.set_cells (Tr.set_cells (Tr.set_cells ee 0 _) 1 _) 2 _) 3 _,l3,l4,lo,aj,aw,bf,aN ak (aN ir.size it.size),?_⟩;refine hP.wr (((ir.mono (T:=λq=>q=b3\/q=b4) (λq _ e=>.inl e)).trans (it.mono (λq _ e=>.inr e))).mono (λq _ e=>?_))
    rcases e with e|e
    ·rw[e];exact⟨l3,o3.imp (λo=>⟨de _ l3,o⟩) id⟩
    ·rw[e];exact⟨l4,o4.imp (λo=>⟨de _ l4,o⟩) id⟩
 case rest=>
  obtain⟨rfl,HC⟩:=hcut;obtain⟨b3,b4,k1,k1n,k1c,n1,n1n,n1c,b1,b1n,b1c,p1,p1n,p1c,rfl,rfl,h3,h4,l3,l4,lo,aj,aw,bf,ak,hP⟩:=Za HC;have da:=HA.later hP.1;clear HC CB CT KS;by_cases hz:x=0;rotate_left
  ·have gz:(x != 0)=true:=(by simp[hz]);have dd:Hid (Uy Z s x ⟨K',aR W.n.length y',[]⟩ w wc (dF (E J x))):=⟨rfl,λe=>absurd e hz,Gr.of hP.1⟩;clear hP h3 h4 da;go_wp2;go_ret;exact Za dd
  subst hz;have ie:=aA HA.box;have ic:=(HA.on.rn.lt g rfl).2
  have eg:∀ q,((Z q\/q=s)\/q=g)->q<w.heap.size:=λq e=>by
   rcases e with (e|e)|e
   ·exact (HA.zs q e).1
   ·omega
   ·omega
  have ds:∀ q,Z q->q≠s/\q≠g:=λq e=>⟨(HA.zs q e).2.1,λh=>(HA.zs q e).2.2.1 (by rw[h];rfl)⟩;have cn:=λV (gV:Gr wc V (λq=>(Z q\/q=s)\/q=g))=>hP.2.1 V (gV.mono (λq _ e=>.inl ⟨dy q e,aD (eg q e) aw⟩));obtain⟨dk,cg⟩:=Znd da (λV gV=>(cn V (gV.mono (λq _ e=>e.imp id (λe=>by injection e with e;exact e.symm)))).k) hP.2.2.1;obtain⟨U2,dl⟩:∃ u,u=(wc.setCell ⟨s,0,none⟩ (F k1 k1n k1c)).setCell ⟨s,2,none⟩ (F none 0 0):=⟨_,rfl⟩;rw[<-dl] at dk cg;obtain⟨z1,z2,z3,z4⟩:=HY rfl;have cl:=cn wc (Gr.refl _ _);obtain⟨m1,fz⟩:∃ m,m=n1n:=⟨_,rfl⟩;have ga:m1=b1n:=by have:=cl.n.1;have:=cl.b.1;omega
  have gb:m1<=4096:=by have:=cl.n.1;omega
  have gc:p1n<=2513169434916:=by have:=cl.p.1;have:=z4.1;omega
  subst fz ga
  have cu:Hid (ScAt Z s ⟨K',aR 0 y'++W.n.drop 0,[]⟩ U2 k1 k1n k1c (F (some ⟨g,0,none⟩) n nc) (F none 0 0) Kn []):=by
   rw[List.drop_zero,<-Za HN];exact dk
  have dt:Hid (U2.heap[b4]? = some (dE [F n1 m1 n1c,F b1 m1 b1c,F p1 p1n p1c,E J y'.2.2.2].toArray 67 (0,0))):=cg.heap h4 (λe=>by have e:b4=s:=e;omega)
  have dv:Hid (∀ V,Gr U2 V (λq=>(Z q\/q=s)\/q=g)->Tr.IntsAt V n1 m1 y'.1/\Tr.BlksAt V b1 m1 y'.2.1/\TxsAt V p1 p1n y'.2.2.1):=λV gV=>by
   have:=cn V ((cg.mono (λq _ e=>.inl (.inr e))).trans gV);exact⟨this.n,this.b,this.p⟩
  have dw:Hid (Gr w U2 (λq=>¬Z q)):=(Gr.of hP.1).trans (cg.mono (λq _ e h=>(ds q h).1 e));have ew:=Zd ds;have S1:=hP.2.2.2.1;have S2:=hP.2.2.2.2.1;have S3:=hP.2.2.2.2.2;obtain⟨c3,fi⟩:=kc1 h3;obtain⟨s0,-,s2,gq,-,gs,gp⟩:=kf3 da.box;have t1:U2.cell? ⟨s,1,none⟩=some (F (some ⟨g,0,none⟩) n nc):=Zb cu.box 1 _ rfl;have tl:=aA cu.box;clear hP cn dk cg cl ds da h3 h4 eg dy de
  go_upto_region 5 with fail
  rw[<-dl];clear dl;go_wp2_with fail
  go_loopw [41] (λiv V=>∃ (i:Nat) (Kq:List (List Value)),i<=n/\iv = E J i/\Hid (ScAt Z s ⟨K',aR i y'++W.n.drop i,[]⟩ V k1 k1n k1c (F (some ⟨g,0,none⟩) n nc) (F none 0 0) Kq [])/\Hid (V.heap[b4]? = some (dE [F n1 m1 n1c,F b1 m1 b1c,F p1 p1n p1c,E J y'.2.2.2].toArray 67 (0,0)))/\Hid (∀ V2,Gr V V2 (λq=>(Z q\/q=s)\/q=g)->Tr.IntsAt V2 n1 m1 y'.1/\Tr.BlksAt V2 b1 m1 y'.2.1/\TxsAt V2 p1 p1n y'.2.2.1)/\Hid (Gr w V (λq=>¬Z q))) (λi _=>n - (intOf i).toNat)
  case atStart=>exact⟨0,Kn,aI _,rfl,cu,dt,dv,dw⟩
  case round=>
   obtain⟨i,Kq,hi,rfl,HT,HX,cp,HG⟩:=hrel;clear cu dt dv dw c3 fi s0 s2 gq gs gp t1 tl;by_cases dr:i<n
   ·have hI:(i:Int)<(n:Int):=(by omega);have hT:=Za HT;have hl:(aR i y'++W.n.drop i).length=n:=(by rw[List.length_append,List.length_replicate,List.length_drop,Za HN];omega);have d:=cp;have KS:Hid (∀ U:World,ZD wr U->(U.cell? ⟨s,1,none⟩=some (F (some ⟨g,0,none⟩) n nc)/\s<U.heap.size/\U.cell? ⟨b4,0,none⟩=some (F n1 m1 n1c)/\U.cell? ⟨b4,1,none⟩=some (F b1 m1 b1c)/\U.cell? ⟨b4,2,none⟩=some (F p1 p1n p1c)/\U.cell? ⟨b4,3,none⟩=some (E J y'.2.2.2)/\b4<U.heap.size)):=λU hu=>⟨Ze hu (Zb hT.box 1 _ rfl),aD (aA hT.box) hu.size,Ze hu (Zb HX 0 _ rfl),Ze hu (Zb HX 1 _ rfl),Ze hu (Zb HX 2 _ rfl),Ze hu (Zb HX 3 _ rfl),aD (aA HX) hu.size⟩;have CL:=Zd (λV (hv:ZD wr V)=>Ps n1 b1 p1 m1 n1c b1c p1n p1c y'.1 y'.2.1 y'.2.2.1 y'.2.2.2 V (d V (Gr.of hv)).1 (d V (Gr.of hv)).2.1 (d V (Gr.of hv)).2.2 S1 S2 S3 gb z3 gc z4.2);clear hT d;go_wp2_with fail;refine dD (S:=λU=>U.cell? ⟨s,1,none⟩=some (F (some ⟨g,0,none⟩) n nc)/\s<U.heap.size/\U.cell? ⟨b4,0,none⟩=some (F n1 m1 n1c)/\U.cell? ⟨b4,1,none⟩=some (F b1 m1 b1c)/\U.cell? ⟨b4,2,none⟩=some (F p1 p1n p1c)/\U.cell? ⟨b4,3,none⟩=some (E J y'.2.2.2)/\b4<U.heap.size) (by kernel_rfl) (KS _ (Zi wr)) (λaa=>?_);refine tkL 0 rfl aa ?_;refine tkL 1 rfl aa ?_;refine tkL 2 rfl aa ?_;refine tkL 3 rfl aa ?_;refine tkL 4 rfl aa ?_;refine tkL 5 rfl aa ?_;refine tkL 6 rfl aa ?_;refine rdS 7 rfl (CL wr.drew (Zi wr)) ?_
    rintro e w5 ⟨qa,qc,ra,rc,ta,tc,rfl,hF,q1,q2,q3,fw⟩;clear aa;have dm:=Zf (Zi wr) fw;refine⟨_,rfl,KS _ dm,λaa=>?_⟩;refine tkL 8 rfl aa ?_;have bq:=HT.later dm;have hk:i<Kq.length:=by have:=bq.on.now.2.1.1;rw[this];show i<(aR i y'++W.n.drop i).length;omega
    have ej:w5.ownsRow 0 67 4 (F (some ⟨g,0,none⟩) n nc) n Kq.flatten:=by
     have:=bq.on.rn;rw[show (⟨K',aR i y'++W.n.drop i,[]⟩:WD).n.length=n from hl] at this;exact this
    have rr:=λj (hj:j<4)=>World.ownsRow.cellAt ej (i*4+j) (by have:(i+1)*4<=n*4:=Nat.mul_le_mul_right _ dr;omega);have rq:=λj (hj:j<4)=>(rr j hj).trans (Tr.wid_at bq.on.now.2.1.wid i hk j hj);obtain⟨a0,m0,c0,a9,m9,c9,a8,m8,c8,eK,_⟩:=bq.on.now.2.1.2 i (by show i<(aR i y'++W.n.drop i).length;omega) hk;rw[eK] at rq;have r0:w5.cell? ⟨g,i*4,none⟩=some (F a0 m0 c0):=rq 0 (by decide);have r1:w5.cell? ⟨g,i*4+1,none⟩=some (F a9 m9 c9):=rq 1 (by decide);have r2:w5.cell? ⟨g,i*4+2,none⟩=some (F a8 m8 c8):=rq 2 (by decide);have r3:=rq 3 (by decide)
    have iq:∀ j,w5.frozen? ⟨g,j,none⟩=false:=λj=>by
     rcases bq.on.rn.2 with ⟨e,_⟩|⟨g',c',fl,e,_,hh,_⟩
     ·cases e
     ·cases e;exact Zg hh j
    have f0:=iq (i*4);have f1:=iq (i*4+1);have f2:=iq (i*4+2);have f3:=iq (i*4+3);have ia:g<w5.heap.size:=(bq.on.rn.lt g rfl).2
    obtain⟨cj,g6⟩:=Znb (i:=i) (y:=y') (cs:=[F qa m1 qc,F ra m1 rc,F ta p1n tc,E J y'.2.2.2]) hl bq dr rfl (λV gV=>by
     have:=hF V (gV.mono (λq _ e=>by
      show q<wr.drew.heap.size
      rcases e with e|e|e
      ·have:=bq.zs
       rcases e with e|e
       ·exact (HT.zs q e).1
       ·rw[e];exact aA HT.box
      ·rw[e];exact (HT.on.rn.lt g rfl).2
      ·simp[Value.ownBlock] at e))
     exact⟨qa,m1,qc,ra,m1,rc,ta,p1n,tc,rfl,this.1,this.2.1,this.2.2,q1,q2,q3⟩)
    rw[show (⟨(⟨K',aR i y'++W.n.drop i,[]⟩:WD).k,(⟨K',aR i y'++W.n.drop i,[]⟩:WD).n.set i y',(⟨K',aR i y'++W.n.drop i,[]⟩:WD).m⟩:WD)=⟨K',aR (i+1) y'++W.n.drop (i+1),[]⟩ from congrArg (λl=>(⟨K',l,[]⟩:WD)) (Zit (by rw[Za HN];exact dr))] at cj;have NT:=Zd cj;have gA:Gr wr (Tr.setsW w5 g (i*4) [F qa m1 qc,F ra m1 rc,F ta p1n tc,E J y'.2.2.2]) (λq=>q=g):=(Gr.of dm).trans g6;have NX:Hid ((Tr.setsW w5 g (i*4) [F qa m1 qc,F ra m1 rc,F ta p1n tc,E J y'.2.2.2]).heap[b4]? = some (dE [F n1 m1 n1c,F b1 m1 b1c,F p1 p1n p1c,E J y'.2.2.2].toArray 67 (0,0))):=gA.heap HX (λe=>by have e:b4=g:=e;omega);have ND:Hid (∀ V2,Gr (Tr.setsW w5 g (i*4) [F qa m1 qc,F ra m1 rc,F ta p1n tc,E J y'.2.2.2]) V2 (λq=>(Z q\/q=s)\/q=g)->Tr.IntsAt V2 n1 m1 y'.1/\Tr.BlksAt V2 b1 m1 y'.2.1/\TxsAt V2 p1 p1n y'.2.2.1):=λV2 g2=>cp V2 ((gA.mono (λq _ e=>.inr e)).trans g2);have NG:Hid (Gr w (Tr.setsW w5 g (i*4) [F qa m1 qc,F ra m1 rc,F ta p1n tc,E J y'.2.2.2]) (λq=>¬Z q)):=HG.trans (gA.mono (λq _ e h=>(ew q h).2 e))
    have KN:Hid ((Tr.setsW w5 g (i*4) [F qa m1 qc,F ra m1 rc,F ta p1n tc,E J y'.2.2.2]).cell? ⟨s,1,none⟩=some (F (some ⟨g,0,none⟩) n nc)/\s<(Tr.setsW w5 g (i*4) [F qa m1 qc,F ra m1 rc,F ta p1n tc,E J y'.2.2.2]).heap.size/\(Tr.setsW w5 g (i*4) [F qa m1 qc,F ra m1 rc,F ta p1n tc,E J y'.2.2.2]).cell? ⟨b4,0,none⟩=some (F n1 m1 n1c)/\(Tr.setsW w5 g (i*4) [F qa m1 qc,F ra m1 rc,F ta p1n tc,E J y'.2.2.2]).cell? ⟨b4,1,none⟩=some (F b1 m1 b1c)/\(Tr.setsW w5 g (i*4) [F qa m1 qc,F ra m1 rc,F ta p1n tc,E J y'.2.2.2]).cell? ⟨b4,2,none⟩=some (F p1 p1n p1c)/\(Tr.setsW w5 g (i*4) [F qa m1 qc,F ra m1 rc,F ta p1n tc,E J y'.2.2.2]).cell? ⟨b4,3,none⟩=some (E J y'.2.2.2)/\b4<(Tr.setsW w5 g (i*4) [F qa m1 qc,F ra m1 rc,F ta p1n tc,E J y'.2.2.2]).heap.size):=⟨Zb cj.box 1 _ rfl,aA cj.box,Zb NX 0 _ rfl,Zb NX 1 _ rfl,Zb NX 2 _ rfl,Zb NX 3 _ rfl,aA NX⟩;clear hF q1 q2 q3 bq rr rq eK iq cj g6 gA hk ej;refine rdY 9 rfl (λKQ hK=>?_);go_simp;clear aa;refine hK.out _ _ KN (λaa=>?_);clear hK KQ;(try simp only[aQ]);refine wpAnyH_done (by kernel_rfl) ?_ _;clear aa KN KS CL HT HX cp HG r0 r1 r2 r3 f0 f1 f2 f3;go_wp2;go_roundw
    case rel=>exact⟨i+1,_,by omega,by go_num,NT,NX,ND,NG⟩
    case measure=>simp[intOf];omega
   ·have e:i=n:=(by omega);have hI:¬(i:Int)<(n:Int):=by omega
    have dd:Hid (Uy Z s 0 ⟨K',aR W.n.length y',[]⟩ w wr (dF (E J 0))):=by
     refine⟨rfl,λ_=>?_,Za HG⟩;have hT:=Za HT;rw[bU (by rw[Za HN];omega),List.append_nil,e] at hT;rw[Za HN];exact⟨_,_,_,_,_,_,_,hT⟩
    clear HT HX cp HG;go_wp2;go_ret;exact Za dd
