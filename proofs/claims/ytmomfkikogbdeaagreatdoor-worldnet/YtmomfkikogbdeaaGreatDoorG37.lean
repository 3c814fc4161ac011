import Derived.Test.YtmomfkikogbdeaaGreatDoorH
import Derived.Test.YtmomfkikogbdeaaGreatDoorG36
open Go.Proofs.Tryz
open Decidable renaming not_not->aZ
open Go renaming lt_of_block->aA,bodyPost_ret->bA
open Go.Ending renaming returned->cY
open Go.IntKind renaming i64->J
open Go.Lib renaming run_eql_slice_nil->aY
open Go.Obj renaming cells->cW
open Go.Proofs.Tryz renaming prog->aB
open Go.RowKit renaming Below->aD
open Go.Value renaming int->E,slice->F,tuple->cZ,pointer->dA,bool->dB
open List renaming drop_eq_getElem_cons->aN,length_eq_zero_iff->aI,length_set->bZ,getElem_mem->bB
set_option maxHeartbeats 12800000
set_option maxRecDepth 10000
namespace Go.Proofs.YtmomfkikogbdeaaGreatDoor
open Go.RowKit
theorem Wv{fn:Func}{p q u:Tmp}{ty z:TypeId}(h:fn.results=#[.cell p ty,.cell q z,.tmp u])(tmps:Array Value)(P:Program)(w:World) :
  (results fn tmps).run P w =
   ((asAddr (tmps.getD p undef)).run P w).andThen λa Q=>((loadVar ty a).run P Q).andThen λx w₂=>((asAddr (tmps.getD q undef)).run P w₂).andThen λb w₃=>((loadVar z b).run P w₃).andThen λy w₄=>.ok (cZ #[x,y,tmps.getD u undef]) w₄:=by
 simp only[results,h];simp[Sem.run_bind,Result.andThen]
structure DoC(f:Nat)(caps:Array Value)(w:World)(Zc:Nat->Prop)(D:Dsk)(x:Int)(D':Dsk)(R:Nat->World->Prop):Prop where
 enters:∀ args w,(callFunc f args).run aB w = .ok (.enter f args) w
 old:∀ q,Zc q->q<w.heap.size
 on:∀ B V V',R B V->Gr V V' (λq=>w.heap.size<=q/\q<B)->R B V'
 call:∀ B V d bm m,w.heap.size<=B->aD w.heap.size w V->DeskOn (λq=>q<B) V d bm m D->B<=d->B<=bm->m<=24 ->
  Calls aB f (#[dA (some ⟨d,0,none⟩)]++caps) V λe w'=>e = cY (E J x)/\Gr V w' (λq=>q=d\/q=bm\/Zc q)/\(x=0->KeptOn (λq=>q<B) w' d bm D')/\R B w'
def Dsk.none:Dsk:=⟨[],[],[],[],0,noB⟩
def M3(w w':World)(x:Int)(D:Dsk)(e:Ending):Prop:=
 ∃ ka kn kc na nn nc ba bn bc pa pn pc,e = cY (cZ #[.agg #[F ka kn kc],.agg #[F na nn nc,F ba bn bc,F pa pn pc,E J D.tip],E J x]) /\
  Fresh w.heap.size w' (λw2=>Qw w2 ka kn D.k na nn D.n ba bn D.t pa pn D.p)/\SlOk ka kn kc/\SlOk na nn nc/\SlOk ba bn bc/\SlOk pa pn pc
theorem Lk{w w':World}{x:Int}:M3 w w' x Dsk.none (cY (cZ #[.agg #[.slice .none 0 0],.agg #[.slice .none 0 0,.slice .none 0 0,.slice .none 0 0,E J 0],E J x])):=
 ⟨.none,0,0,.none,0,0,.none,0,0,.none,0,0,rfl,λ_ _=>⟨Bk.TextsAt.nil _ _,⟨rfl,λh=>absurd h (by decide)⟩,RowsAt.nil _ _,RowsAt.nil _ _⟩,Zr,Zr,Zr,Zr⟩
def Zic(w w':World)(z x:Int)(D:Dsk)(Zc:Nat->Prop)(R:Nat->World->Prop)(e:Ending):Prop:=
 (z≠0/\M3 w w' z Dsk.none e/\aD w.heap.size w w') \/
 (z=0/\Gr w w' Zc/\R (w.heap.size+4) w'/\((x≠0/\M3 w w' x Dsk.none e)\/(x=0/\M3 w w' 0 D e)))
theorem Gg(ka:Option Addr)(kn kc:Nat)(K:List ByteArray)(na ba pa:Option Addr)(nn nc bn bc pn pc:Nat)(N:List Int)(T:List Zl)(P:List TxD)(tip z:Int)(w:World)(hE:Env w)(hK:Bk.TextsAt w ka kn K)(hN:Tr.IntsAt w na nn N)(hT:Tr.BlksAt w ba bn T)(hP:TxsAt w pa pn P)(sN:SlOk na nn nc)(sT:SlOk ba bn bc)(sP:SlOk pa pn pc)(hp:pn<=2513169434916)(hq:∀ t∈P,Tr.TxSmall t)(hx:opE K N T P tip=z)
  (f:Nat) (caps:Array Value) (Zc:Nat->Prop) (x:Int) (D':Dsk) (R:Nat->World->Prop) (br:z=0->DoC f caps w Zc ⟨K,N,T,P,tip,(Ye K N T noB).2⟩ x D' R) :
  Calls aB 98 #[.agg #[F ka kn kc],.agg #[F na nn nc,F ba bn bc,F pa pn pc,E J tip],.func (.func f) #[] caps] w λe w'=>Zic w w' z x D' Zc R e:=by
 obtain⟨X,Q⟩:=ZG (Yp w [cW #[F ka kn kc] 24,cW #[F na nn nc,F ba bn bc,F pa pn pc,E J tip] 67,cW #[F none 0 0] 24,cW #[F none 0 0,F none 0 0,F none 0 0,E J 0] 67]);have bo:X=(((w.alloc (cW #[F ka kn kc] 24)).alloc (cW #[F na nn nc,F ba bn bc,F pa pn pc,E J tip] 67)).alloc (cW #[F none 0 0] 24)).alloc (cW #[F none 0 0,F none 0 0,F none 0 0,E J 0] 67):=Q;have aa:aD w.heap.size w X:=by rw[Q];exact Zs _ _
 have bq:X.heap.size=w.heap.size+4:=by rw[Q];exact Z4 _ _
 have be:X.heap[w.heap.size]? = some (cW [F ka kn kc].toArray 24 (0,0)):=by rw[Q];exact Zk _ w 0 _ rfl
 have ac:X.heap[w.heap.size+1]? = some (cW [F na nn nc,F ba bn bc,F pa pn pc,E J tip].toArray 67 (0,0)):=by rw[Q];exact Zk _ w 1 _ rfl
 have cb:X.heap[w.heap.size+2]? = some (cW [F none 0 0].toArray 24 (0,0)):=by rw[Q];exact Zk _ w 2 _ rfl
 have cc:X.heap[w.heap.size+3]? = some (cW [F none 0 0,F none 0 0,F none 0 0,E J 0].toArray 67 (0,0)):=by rw[Q];exact Zk _ w 3 _ rfl
 have C1:=Zd (Dp ka kn kc K na ba pa nn nc bn bc pn pc N T P tip z X (hE.later aa) (hK.later aa) (hN.later aa) (hT.later aa) (hP.later aa) sN sT sP hp hq hx);have cd:=Zd aa;have al:=Zd bq;have cf:=Zd cb;have cg:=Zd cc;have ce:=Zd br;have t0:=Zb be 0 _ rfl;have t1:=Zb ac 0 _ rfl;have t2:=Zb ac 1 _ rfl;have t3:=Zb ac 2 _ rfl;have t4:=Zb ac 3 _ rfl;have tl:=aA be;have dp:=aA ac;clear hE hK hN hT hP sN sT sP hp hq hx br aa bq be ac cb cc Q;go_enter func98,ntmps98;go_wp2_with fail;rw[<-bo];clear bo;(try go_wp2_with fail);refine C1.mono ?_;rintro e w1 ⟨ae,hr⟩;have dq:=Zd ae;have ag:=Zd (Zf cd ae);have h2:=ZE ae cf;have h3:=ZE ae cg;have H2:=Zd h2;have H3:=Zd h3;clear ae C1 t0 t1 t2 t3 t4 tl dp
 rcases hr with ⟨h0,rfl⟩|⟨h0,d,bm,m,rfl,hD,hd,dx,hm⟩
 ·have gx:(z == 0)=false:=by simp[h0]
  have gy:(z != 0)=true:=by simp[h0]
  have da:=Zb h2 0 _ rfl;have db:=Zg h2 0;have dc:=aA h2;have dd:=Zb h3 0 _ rfl;have de:=Zb h3 1 _ rfl;have df:=Zb h3 2 _ rfl;have dg:=Zb h3 3 _ rfl;have cm:=Zg h3 0;have cn:=Zg h3 1;have cp:=Zg h3 2;have cq:=Zg h3 3;have dh:=aA h3
  have ad:Hid (∀ W,Gr w1 W (λq=>w.heap.size<=q)->Zic w W z x D' Zc R (cY (cZ #[.agg #[F none 0 0],.agg #[F none 0 0,F none 0 0,F none 0 0,E J 0],E J z]))):=λW g=>
   .inl ⟨h0,Lk,g.below ag ag.size (λq e=>e)⟩
  clear h2 h3;go_wp2;(try simp only[Exit.inBlock,Exit.then]);refine bA (v:=cZ #[.agg #[F none 0 0],.agg #[F none 0 0,F none 0 0,F none 0 0,E J 0],E J z]) ?_ rfl ?_
  ·rw[Wv rfl];go_simp
  ·exact ad _ (((Gr.refl w1 (λq=>w.heap.size<=q)).one (w.heap.size+2) 0 (.inl (by show w.heap.size<=w.heap.size+2;omega)) _).four (w.heap.size+3) (.inl (by show w.heap.size<=w.heap.size+3;omega)) _ _ _ _)
 ·subst h0;have DC:=ce rfl;have cx:w.heap.size+4<=d:=by have:=Za al;omega
  have cw:w.heap.size+4<=bm:=by have:=Za al;omega
  have D1:=Zd (DC.call (w.heap.size+4) w1 d bm m (by omega) ag (by rw[Za al] at hD;exact hD) cx cw hm);have eg:=DC.enters;have aj:=Zd DC;clear DC hD h2 h3;go_wp2_with fail;refine D1.mono ?_;rintro e w2 ⟨rfl,g2,bs,bk⟩;have bi:=Zd g2;have ak:=Zd bs;have bj:=Zd bk;have aq:=aj.old
  have n2:¬(w.heap.size+2=d\/w.heap.size+2=bm\/Zc (w.heap.size+2)):=by
   rintro (e|e|e)
   ·omega
   ·omega
   ·have:=aq _ e;omega
  have n3:¬(w.heap.size+3=d\/w.heap.size+3=bm\/Zc (w.heap.size+3)):=by
   rintro (e|e|e)
   ·omega
   ·omega
   ·have:=aq _ e;omega
  have h2:=g2.heap H2 n2;have h3:=g2.heap H3 n3;have da:=Zb h2 0 _ rfl;have db:=Zg h2 0;have dc:=aA h2;have dd:=Zb h3 0 _ rfl;have de:=Zb h3 1 _ rfl;have df:=Zb h3 2 _ rfl;have dg:=Zb h3 3 _ rfl;have cm:=Zg h3 0;have cn:=Zg h3 1;have cp:=Zg h3 2;have cq:=Zg h3 3;have dh:=aA h3
  have GW:Hid (∀ W,Gr w2 W (λq=>q=w.heap.size+2\/q=w.heap.size+3)->Gr w W Zc/\R (w.heap.size+4) W):=λW g=>by
   refine⟨?_,aj.on _ _ _ bj (g.mono (λq _ e=>by rcases e with e|e <;> (show _/\_;omega)))⟩;refine ((Gr.of ag).far bi (λq e=>?_)).far g (λq e=>.inl (by rcases e with e|e <;> omega))
   rcases e with e|e|e
   ·exact .inl (by omega)
   ·exact .inl (by omega)
   ·exact .inr e
  clear h2 h3 n2 n3 aq g2 bs bk D1 eg bi bj H2 H3 aj;by_cases eb:x=0
  ·subst eb;obtain⟨k1,av,au,n1,ax,aw,b1,an,am,p1,bb,az,box,dat,s1,s2,s3,s4⟩:=ak rfl;have d0:=Zb box 0 _ rfl;have d1:=Zb box 1 _ rfl;have d2:=Zb box 2 _ rfl;have d3:=Zb box 3 _ rfl;have d4:=Zb box 4 _ rfl;have dl:=aA box
   have ad:Hid (∀ W,Gr w2 W (λq=>q=w.heap.size+2\/q=w.heap.size+3)->Zic w W 0 0 D' Zc R (cY (cZ #[.agg #[F k1 av au],.agg #[F n1 ax aw,F b1 an am,F p1 bb az,E J D'.tip],E J 0]))):=λW g=>
    .inr ⟨rfl,(GW W g).1,(GW W g).2,.inr ⟨rfl,k1,av,au,n1,ax,aw,b1,an,am,p1,bb,az,rfl,λW2 g2=>dat W2 ((g.mono (λq _ e=>by
     refine .inr (.inr ?_);show q<w.heap.size+4
     rcases e with e|e <;> omega)).trans (g2.mono (λq _ e=>by
     refine .inr (.inr ?_);have e:q<w.heap.size:=e;show q<w.heap.size+4;omega))),s1,s2,s3,s4⟩⟩
   have dz:d≠w.heap.size+2:=(by omega);have ea:d≠w.heap.size+3:=(by omega);clear ak GW box dat s1 s2 s3 s4;go_wp2_with fail
   go_region
   all_goals
    go_wp2;(try simp only[Exit.inBlock,Exit.then]);refine bA (v:=cZ #[.agg #[F k1 av au],.agg #[F n1 ax aw,F b1 an am,F p1 bb az,E J D'.tip],E J 0]) ?_ rfl ?_
    ·rw[Wv rfl];go_simp
    ·exact ad _ ((((Gr.refl w2 (λq=>q=w.heap.size+2\/q=w.heap.size+3)).one (w.heap.size+2) 0 (.inl (.inl rfl)) _).four (w.heap.size+3) (.inl (.inr rfl)) _ _ _ _).trans (Gr.of (Zi _)))
  ·have gx:(x == 0)=false:=(by simp[eb]);have gy:(x != 0)=true:=by simp[eb]
   have ad:Hid (∀ W,Gr w2 W (λq=>q=w.heap.size+2\/q=w.heap.size+3)->Zic w W 0 x D' Zc R (cY (cZ #[.agg #[F none 0 0],.agg #[F none 0 0,F none 0 0,F none 0 0,E J 0],E J x]))):=λW g=>
    .inr ⟨rfl,(GW W g).1,(GW W g).2,.inl ⟨eb,Lk⟩⟩
   clear GW ak;go_wp2;(try simp only[Exit.inBlock,Exit.then]);refine bA (v:=cZ #[.agg #[F none 0 0],.agg #[F none 0 0,F none 0 0,F none 0 0,E J 0],E J x]) ?_ rfl ?_
   ·rw[Wv rfl];go_simp
   ·exact ad _ (((Gr.refl w2 (λq=>q=w.heap.size+2\/q=w.heap.size+3)).one (w.heap.size+2) 0 (.inl (.inl rfl)) _).four (w.heap.size+3) (.inl (.inr rfl)) _ _ _ _)
theorem Wx{K:List ByteArray}{N:List Int}{T:List Zl}{P:List TxD}{tip:Int}(h:opE K N T P tip=0):Bk.bkChk K=0/\Tr.bstD N T=(tip,0)/\(Ye K N T noB).1=0/\poE K N T P tip (Ye K N T noB).2=0:=by
 unfold opE at h;split at h
 ·rename_i q;exact absurd h q
 rename_i h1;split at h
 ·rename_i q;exact absurd h q
 rename_i h2;split at h
 ·cases h
 rename_i h3;split at h
 ·rename_i q;exact absurd h q
 rename_i h4;refine⟨aZ.1 h1,?_,aZ.1 h4,h⟩;exact Prod.ext (aZ.1 h3) (aZ.1 h2)
section
variable (ka:Option Addr)(kn kc:Nat)(K:List ByteArray)(na ba pa:Option Addr)(nn nc bn bc pn pc:Nat)(N:List Int)(T:List Zl)(P:List TxD)(tip x:Int)(w:World)
theorem Zal(hE:Env w)(hK:Bk.TextsAt w ka kn K)(hN:Tr.IntsAt w na nn N)(hT:Tr.BlksAt w ba bn T)(hP:TxsAt w pa pn P)(sN:SlOk na nn nc)(sT:SlOk ba bn bc)(sP:SlOk pa pn pc)(hp:pn<=2513169434916)(hq:∀ t∈P,Tr.TxSmall t)(hx:opE K N T P tip = x):ZH 39 #[.agg #[F ka kn kc],.agg #[F na nn nc,F ba bn bc,F pa pn pc,E J tip]] w (E J x):=by
 obtain⟨X,hX⟩:=ZG (Yp w [cW #[F ka kn kc] 24,cW #[F na nn nc,F ba bn bc,F pa pn pc,E J tip] 67]);have ad:X=(w.alloc (cW #[F ka kn kc] 24)).alloc (cW #[F na nn nc,F ba bn bc,F pa pn pc,E J tip] 67):=hX;have z:aD w.heap.size w X:=by rw[hX];exact Zs _ _
 have x0:X.heap[w.heap.size]? = some (cW [F ka kn kc].toArray 24 (0,0)):=by rw[hX];exact Zk _ w 0 _ rfl
 have Q:X.heap[w.heap.size+1]? = some (cW [F na nn nc,F ba bn bc,F pa pn pc,E J tip].toArray 67 (0,0)):=by rw[hX];exact Zk _ w 1 _ rfl
 have C1:=Zd (Dp ka kn kc K na ba pa nn nc bn bc pn pc N T P tip x X (hE.later z) (hK.later z) (hN.later z) (hT.later z) (hP.later z) sN sT sP hp hq hx);have af:=Zd z;have t0:=Zb x0 0 _ rfl;have t1:=Zb Q 0 _ rfl;have t2:=Zb Q 1 _ rfl;have t3:=Zb Q 2 _ rfl;have t4:=Zb Q 3 _ rfl;have tl:=aA x0;have ap:=aA Q;clear hE hK hN hT hP sN sT sP hp hq hx z x0 Q hX;go_enter func39,ntmps39;go_wp2_with fail;rw[<-ad];clear ad;(try go_wp2_with fail);refine C1.mono ?_;rintro e w1 ⟨ae,hr⟩;have ac:=Zd (Zf af ae);clear ae C1 t0 t1 t2 t3 t4 tl ap
 rcases hr with ⟨h0,rfl⟩|⟨h0,d,bm,m,rfl,_,_,_,_⟩
 ·go_wp2;go_ret;exact⟨rfl,Za ac⟩
 ·subst h0;go_wp2;go_ret;exact⟨rfl,Za ac⟩
end
abbrev U8:=Int×Int×Int×Int×Zl×TxD
def MsgAt(w:World)(b o:Nat)(x:U8):Prop:=
 w.cell? ⟨b,o,none⟩=some (E J x.1)/\w.cell? ⟨b,o+1,none⟩=some (E J x.2.1)/\w.cell? ⟨b,o+2,none⟩=some (E J x.2.2.1)/\w.cell? ⟨b,o+3,none⟩=some (E J x.2.2.2.1) /\
  Tr.BlkAt w b (o+4) x.2.2.2.2.1/\TxAt w b (o+9) x.2.2.2.2.2
theorem MsgAt.kept:So MsgAt:=λ_ _ _ _ _ z h=>⟨Ze z h.1,Ze z h.2.1,Ze z h.2.2.1,Ze z h.2.2.2.1,Tr.BlkAt.kept _ _ _ _ _ z h.2.2.2.2.1,TxAt.kept _ _ _ _ _ z h.2.2.2.2.2⟩
def MsgsAt(w:World)(a:Option Addr)(len:Nat)(l:List U8):Prop:=RowsAt MsgAt 12 w a len l
theorem MsgsAt.later{w w':World}{a:Option Addr}{len:Nat}{l:List U8}(h:MsgsAt w a len l)(z:aD w.heap.size w w'):MsgsAt w' a len l:=RowsAt.later MsgAt.kept h z
def Ru(i n:Int):Bool:=decide (0<=i) && decide (i<n)
def nmE(n:Int):Int:=if 1<=n/\n<=120 then 0 else 3
def Ta(m:U8)(n:Int):Int:=
 if Ru m.2.1 n=false\/Ru m.2.2.1 n=false\/m.2.1=m.2.2.1 then 3 else
 if m.1=1 then Yn m.2.2.2.2.1 else if m.1=2 then nmE m.2.2.2.1 else if m.1=3 then Zv m.2.2.2.2.2 else 3
theorem Uw(i n:Int)(o:Bool)(w:World)(z:Ru i n=o):Calls aB 175 #[E J i,E J n] w λe w'=>e = cY (dB o)/\w=w':=by
 unfold Ru at z;by_cases h1:0<=i
 ·by_cases h2:i<n
  ·have e:o=true:=(by rw[<-z];simp[h1,h2]);subst e;clear z;go_enter func175,ntmps175;go_wp2;go_ret;exact⟨rfl,rfl⟩
  ·have e:o=false:=(by rw[<-z];simp[h2]);have h4:decide (i<n)=false:=(by simp;omega);subst e;clear z;go_enter func175,ntmps175;go_wp2;go_ret;exact⟨rfl,rfl⟩
 ·have e:o=false:=by rw[<-z];simp[h1]
  have h4:decide (0<=i)=false:=by simp;omega
  subst e;clear z;go_enter func175,ntmps175;go_wp2;go_ret;exact⟨rfl,rfl⟩
theorem Gk(n:Int)(o:Bool)(w:World)(Q:(decide (1<=n) && decide (n<=4))=o):ZH 115 #[E J n] w (dB o):=by
 have C:=Zd (Z3 n 1 4 o w Q);go_enter func115,ntmps115;go_wp2_with fail;refine C.mono ?_;rintro e w1 ⟨rfl,z⟩;have HB:=Zd z;clear z C Q;go_wp2;go_ret;exact⟨rfl,Za HB⟩
theorem Mt(n x:Int)(w:World)(hx:nmE n=x):ZH 176 #[E J n] w (E J x):=by
 obtain⟨o,z⟩:=ZF ((decide (1<=n) && decide (n<=120)));have C:=Zd (Z3 n 1 120 o w z)
 have e:x=if o=true then 0 else 3:=by
  rw[<-hx,<-z];unfold nmE;simp only[Bool.and_eq_true,decide_eq_true_eq]
 clear hx z;go_enter func176,ntmps176;go_wp2_with fail;refine C.mono ?_;rintro e' w1 ⟨rfl,hb⟩;have Q:=Zd hb;clear hb C;cases o
 ·obtain rfl:x=3:=e;go_wp2;go_ret;exact⟨rfl,Za Q⟩
 ·obtain rfl:x=0:=e;go_wp2;go_ret;exact⟨rfl,Za Q⟩
theorem Zbx(z fr tv nm bp bh bk bn:Int)(ba:Option Addr)(bm bc:Nat)(L:List TxD)(th:Int)(ai ao:Option Addr)(ni ci no co:Nat)(I:List InD)(O:List Z5)(n x:Int)(w:World)(hL:TxsAt w ba bm L)(hI:InsAt w ai ni I)(hO:OutsAt w ao no O)(sI:SlOk ai ni ci)(hx:Ta (z,fr,tv,nm,(bp,bh,bk,bn,L),(th,I,O)) n=x) :
  ZH 116 #[.agg #[E J z,E J fr,E J tv,E J nm,E J bp,E J bh,E J bk,E J bn,F ba bm bc,E J th,F ai ni ci,F ao no co],E J n] w (E J x):=by
 obtain⟨X,hX⟩:=ZG (w.alloc (cW #[E J z,E J fr,E J tv,E J nm,E J bp,E J bh,E J bk,E J bn,F ba bm bc,E J th,F ai ni ci,F ao no co] 106));have ag:aD w.heap.size w X:=by rw[hX];exact Zh _ _
 have Q:X.heap[w.heap.size]? = some (cW [E J z,E J fr,E J tv,E J nm,E J bp,E J bh,E J bk,E J bn,F ba bm bc,E J th,F ai ni ci,F ao no co].toArray 106 (0,0)):=by rw[hX];exact heap_alloc_new _ _
 obtain⟨o1,h1⟩:∃ o,Ru fr n=o:=⟨_,rfl⟩;obtain⟨o2,h2⟩:∃ o,Ru tv n=o:=⟨_,rfl⟩;obtain⟨xb,ap⟩:∃ x,Yn (bp,bh,bk,bn,L)=x:=⟨_,rfl⟩;obtain⟨xt,ar⟩:∃ x,Zv (th,I,O)=x:=⟨_,rfl⟩;obtain⟨xn,aq⟩:∃ x,nmE nm=x:=⟨_,rfl⟩;have E1:=Zd (Uw fr n o1 X h1);have E2:=Zd (Uw tv n o2 X h2);have CB:=Zd (Wc bp bh bk bn ba bm bc L xb X (hL.later ag) ap);have CT:=Zd (Ws th ai ao ni ci no co I O X (hI.later ag) (hO.later ag) sI);rw[ar] at CT;have CN:=Zd (Mt nm xn X aq);have ab:=Zd ag
 have hx:(if o1=false\/o2=false\/fr=tv then 3 else if z=1 then xb else if z=2 then xn else if z=3 then xt else 3)=x:=by
  rw[<-hx,<-h1,<-h2,<-ap,<-aq,<-ar];rfl
 have HX:=Zd hx;have m0:=Zb Q 0 _ rfl;have m1:=Zb Q 1 _ rfl;have m2:=Zb Q 2 _ rfl;have m3:=Zb Q 3 _ rfl;have m4:=Zb Q 4 _ rfl;have m5:=Zb Q 5 _ rfl;have m6:=Zb Q 6 _ rfl;have m7:=Zb Q 7 _ rfl;have m8:=Zb Q 8 _ rfl;have m9:=Zb Q 9 _ rfl;have m10:=Zb Q 10 _ rfl;have m11:=Zb Q 11 _ rfl;have ml:=aA Q;clear hL hI hO sI hx h1 h2 ap ar aq ag Q;go_enter func116,ntmps116;go_wp2_with fail;rw[<-hX];clear hX;(try go_wp2_with fail);refine E1.mono ?_;rintro e w1 ⟨rfl,rfl⟩;cases o1
 ·obtain rfl:(3:Int)=x:=by have q:=Za HX;rw[if_pos (.inl rfl)] at q;exact q
  go_wp2;go_ret;exact⟨rfl,Za ab⟩
 go_wp2_with fail;refine E2.mono ?_;rintro e w1 ⟨rfl,rfl⟩;cases o2
 ·obtain rfl:(3:Int)=x:=by have q:=Za HX;rw[if_pos (.inr (.inl rfl))] at q;exact q
  go_wp2;go_ret;exact⟨rfl,Za ab⟩
 by_cases h3:fr=tv
 ·subst h3;obtain rfl:(3:Int)=x:=by have q:=Za HX;rw[if_pos (.inr (.inr rfl))] at q;exact q
  go_wp2;go_ret;exact⟨rfl,Za ab⟩
 have g3:(fr == tv)=false:=by simp[h3]
 have aj:Hid ((if z=1 then xb else if z=2 then xn else if z=3 then xt else 3)=x):=by have q:=Za HX;rw[if_neg (by simp[h3])] at q;exact q
 clear HX E1 E2;by_cases k1:z=1
 ·subst k1;obtain rfl:xb=x:=by have q:=Za aj;rw[if_pos rfl] at q;exact q
  go_wp2_with fail;refine CB.mono ?_;rintro e w2 ⟨rfl,aa⟩;have ae:=Zd (Zf ab aa);clear aa CB m0 m1 m2 m3 m4 m5 m6 m7 m8 m9 m10 m11 ml;go_wp2;go_ret;exact⟨rfl,Za ae⟩
 have g4:(z == 1)=false:=by simp[k1]
 by_cases k2:z=2
 ·subst k2;obtain rfl:xn=x:=by have q:=Za aj;rw[if_neg k1,if_pos rfl] at q;exact q
  go_wp2_with fail;refine CN.mono ?_;rintro e w2 ⟨rfl,aa⟩;have ae:=Zd (Zf ab aa);clear aa CN m0 m1 m2 m3 m4 m5 m6 m7 m8 m9 m10 m11 ml;go_wp2;go_ret;exact⟨rfl,Za ae⟩
 have g5:(z == 2)=false:=by simp[k2]
 by_cases k3:z=3
 ·subst k3;obtain rfl:xt=x:=by have q:=Za aj;rw[if_neg k1,if_neg k2,if_pos rfl] at q;exact q
  go_wp2_with fail;refine CT.mono ?_;rintro e w2 ⟨rfl,aa⟩;have ae:=Zd (Zf ab aa);clear aa CT m0 m1 m2 m3 m4 m5 m6 m7 m8 m9 m10 m11 ml;go_wp2;go_ret;exact⟨rfl,Za ae⟩
 have g6:(z == 3)=false:=by simp[k3]
 obtain rfl:(3:Int)=x:=by have q:=Za aj;rw[if_neg k1,if_neg k2,if_neg k3] at q;exact q
 go_wp2;go_ret;exact⟨rfl,Za ab⟩
abbrev Vu:=List Int×List Zl×List TxD×Int
def NodAt(w:World)(b o:Nat)(x:Vu):Prop:=
 ∃ na nn nc ba bn bc pa pn pc,w.cell? ⟨b,o,none⟩=some (F na nn nc)/\w.cell? ⟨b,o+1,none⟩=some (F ba bn bc)/\w.cell? ⟨b,o+2,none⟩=some (F pa pn pc)/\w.cell? ⟨b,o+3,none⟩=some (E J x.2.2.2) /\
  Tr.IntsAt w na nn x.1/\Tr.BlksAt w ba bn x.2.1/\TxsAt w pa pn x.2.2.1/\SlOk na nn nc/\SlOk ba bn bc/\SlOk pa pn pc
theorem NodAt.kept:So NodAt:=λ_ _ _ _ _ z h=>by
 obtain⟨na,nn,nc,ba,bn,bc,pa,pn,pc,h0,h1,h2,h3,hN,hT,hP,s⟩:=h;exact⟨na,nn,nc,ba,bn,bc,pa,pn,pc,Ze z h0,Ze z h1,Ze z h2,Ze z h3,hN.later z,hT.later z,hP.later z,s⟩
def NodsAt(w:World)(a:Option Addr)(len:Nat)(l:List Vu):Prop:=RowsAt NodAt 4 w a len l
theorem NodsAt.later{w w':World}{a:Option Addr}{len:Nat}{l:List Vu}(h:NodsAt w a len l)(z:aD w.heap.size w w'):NodsAt w' a len l:=RowsAt.later NodAt.kept h z
def opN(K:List ByteArray)(x:Vu):Int:=opE K x.1 x.2.1 x.2.2.1 x.2.2.2
def We(K:List ByteArray):List Vu->Int
 | []=>0
 | x :: L=>if opN K x≠0 then opN K x else We K L
def Uk(n:Int):List U8->Int
 | []=>0
 | m :: L=>if Ta m n≠0 then Ta m n else Uk n L
def Vv(K:List ByteArray)(L:List Vu)(M:List U8):Int:=
 if ¬(1<=L.length/\L.length<=4) then 3 else if Bk.bkChk K≠0 then Bk.bkChk K else if 20<M.length then 2 else
 if We K L≠0 then We K L else Uk L.length M
theorem Zdq{K:List ByteArray}{L:List Vu}{j:Nat}(z:j<L.length):We K (L.drop j)=if opN K L[j]≠0 then opN K L[j] else We K (L.drop (j+1)):=by
 rw[aN z];rfl
theorem Zdz{n:Int}{L:List U8}{j:Nat}(z:j<L.length):Uk n (L.drop j)=if Ta L[j] n≠0 then Ta L[j] n else Uk n (L.drop (j+1)):=by
 rw[aN z];rfl
namespace Tr
open Go.RowKit
def nodR:Rec Vu where
 sz:=4
 C w cs x:=∃ a n c b m d p q r,cs=[F a n c,F b m d,F p q r,E J x.2.2.2]/\IntsAt w a n x.1/\BlksAt w b m x.2.1/\TxsAt w p q x.2.2.1/\SlOk a n c/\SlOk b m d/\SlOk p q r
 R:=NodAt
 wide _ _ _:=by rintro ⟨a,n,c,b,m,d,p,q,r,rfl,_⟩;rfl
 one _ _ _:=by rintro ⟨a,n,c,b,m,d,p,q,r,rfl,_⟩ v hv;simp at hv;rcases hv with rfl|rfl|rfl|rfl <;> rfl
 kept _ _ _ _ hb:=by rintro ⟨a,n,c,b,m,d,p,q,r,rfl,h1,h2,h3,h4⟩;exact⟨a,n,c,b,m,d,p,q,r,rfl,h1.later hb,h2.later hb,h3.later hb,h4⟩
 rc _ _ _ _:=by
  rintro ⟨a,n,c,b,m,d,p,q,r,h0,h1,h2,h3,Q⟩;refine⟨_,λj u z=>?_,a,n,c,b,m,d,p,q,r,rfl,Q⟩
  match j,z with
  | 0,z=>cases z;exact h0
  | 1,z=>cases z;exact h1
  | 2,z=>cases z;exact h2
  | 3,z=>cases z;exact h3
  | j+4,z=>simp at z
 cr _ _ _ _ _ h:=by rintro ⟨a,n,c,b,m,d,p,q,r,rfl,Q⟩;exact⟨a,n,c,b,m,d,p,q,r,h 0 _ rfl,h 1 _ rfl,h 2 _ rfl,h 3 _ rfl,Q⟩
def msgR:Rec U8 where
 sz:=12
 C w cs x:=∃ a n c Q n1 c1 a2 n2 c2,cs=[E J x.1,E J x.2.1,E J x.2.2.1,E J x.2.2.2.1,E J x.2.2.2.2.1.1,E J x.2.2.2.2.1.2.1,E J x.2.2.2.2.1.2.2.1,E J x.2.2.2.2.1.2.2.2.1,F a n c,E J x.2.2.2.2.2.1,F Q n1 c1,F a2 n2 c2]/\TxsAt w a n x.2.2.2.2.1.2.2.2.2/\SlOk a n c/\InsAt w Q n1 x.2.2.2.2.2.2.1/\SlOk Q n1 c1/\OutsAt w a2 n2 x.2.2.2.2.2.2.2/\SlOk a2 n2 c2
 R:=MsgAt
 wide _ _ _:=by rintro ⟨a,n,c,Q,n1,c1,a2,n2,c2,rfl,_⟩;rfl
 one _ _ _:=by rintro ⟨a,n,c,Q,n1,c1,a2,n2,c2,rfl,_⟩ v hv;simp at hv;rcases hv with rfl|rfl|rfl|rfl|rfl|rfl|rfl|rfl|rfl|rfl|rfl|rfl <;> rfl
 kept _ _ _ _ hb:=by rintro ⟨a,n,c,Q,n1,c1,a2,n2,c2,rfl,h1,h2,h3,h4,h5,h6⟩;exact⟨a,n,c,Q,n1,c1,a2,n2,c2,rfl,h1.later hb,h2,h3.later hb,h4,h5.later hb,h6⟩
 rc _ _ _ _:=by
  rintro ⟨h0,h1,h2,h3,⟨h4,h5,h6,h7,a,n,c,h8,k1,k2⟩,h9,⟨Q,n1,c1,h10,k3,k4⟩,a2,n2,c2,h11,k5,k6⟩;refine⟨_,λj u z=>?_,a,n,c,Q,n1,c1,a2,n2,c2,rfl,k1,k2,k3,k4,k5,k6⟩
  match j,z with
  | 0,z=>cases z;exact h0
  | 1,z=>cases z;exact h1
  | 2,z=>cases z;exact h2
  | 3,z=>cases z;exact h3
  | 4,z=>cases z;exact h4
  | 5,z=>cases z;exact h5
  | 6,z=>cases z;exact h6
  | 7,z=>cases z;exact h7
  | 8,z=>cases z;exact h8
  | 9,z=>cases z;exact h9
  | 10,z=>cases z;exact h10
  | 11,z=>cases z;exact h11
  | j+12,z=>simp at z
 cr _ _ _ _ _ h:=by
  rintro ⟨a,n,c,Q,n1,c1,a2,n2,c2,rfl,k1,k2,k3,k4,k5,k6⟩;exact⟨h 0 _ rfl,h 1 _ rfl,h 2 _ rfl,h 3 _ rfl,⟨h 4 _ rfl,h 5 _ rfl,h 6 _ rfl,h 7 _ rfl,a,n,c,h 8 _ rfl,k1,k2⟩,h 9 _ rfl,⟨Q,n1,c1,h 10 _ rfl,k3,k4⟩,a2,n2,c2,h 11 _ rfl,k5,k6⟩
theorem Tryz.infoNodeC:(Tryz.prog.info? 67).map (λi=>(i.zero,i.size,i.bytes))=some (some (.agg #[F none 0 0,F none 0 0,F none 0 0,E J 0]),4,80):=by kernel_rfl
theorem Hz(w:World):Calls aB 225 #[F none 0 0] w λe w'=>e = cY (F none 0 0)/\w=w':=by
 have z:=λw=>aY (P:=aB) w 87 67 none 0 0 0 0 underlying87;go_enter func225,ntmps225;go_wp2;go_ret;exact⟨rfl,rfl⟩
theorem Qu(Q:Addr)(n c:Nat)(z:List Value)(w:World)(hn:n<=1759218604441)(hz:z.length=n*4)(h1:∀ u∈z,u.oneCell'=true)(hc:∀ j u,z[j]? = some u->w.cell? (Q.add j)=some u) :
  Calls aB 225 #[F (some Q) n c] w λe w'=>∃ v,e = cY v/\w'.ownsRow w.heap.size 67 4 v n z/\aD w.heap.size w w':=by
 obtain⟨i0,hi,ap,aq,ar⟩:=info_parts Tryz.infoNodeC;have hb:=Zh w (cW #[] 67);have HC:Hid (∀ j u,z[j]? = some u->(w.alloc (cW #[] 67)).cell? (Q.add j)=some u):=λj u hj=>Ze hb (hc j u hj);have HB:=Zd hb;have HZ:=Zd hz;have H1:=Zd h1;have HO:=Zd (Xj w 67 4);have he:=λw=>aY (P:=aB) w 87 67 (some Q) n c 0 0 underlying87;clear hc hb hz h1;go_enter func225,ntmps225
 go_wp2_with (at_builtin;refine wpList_append_own _ rfl _ _ 87 rfl w.heap.size 67 i0 (.agg #[F none 0 0,F none 0 0,F none 0 0,E J 0]) 4 80 underlying87 hi ap aq ar rfl (by decide) _ _ _ rfl HO Q n c z rfl HZ HC H1 (by unfold maxLen;omega) (by omega) HB.size ?_;intro v2 w3 af ae _)
 have HW:Hid (w3.ownsRow w.heap.size 67 4 v2 n z):=by show World.ownsRow _ _ _ _ _ _ _;simpa using af
 have aj:=Zd (HB.grown ae HB.size (Y9 HO));clear af ae;go_wp2;go_ret;exact⟨v2,rfl,Za HW,Za aj⟩
theorem cloneNode_any(a:Option Addr)(n c:Nat)(L:List Vu)(w0 w:World)(hn:n<=1759218604441)(h:RowsAt nodR.R 4 w0 a n L)(hb:aD w0.heap.size w0 w)(hs:SlOk a n c) :
  Calls aB 225 #[F a n c] w λe w'=>∃ v,∃ K:List (List Value),e = cY v/\AllC nodR w0 K L/\w'.ownsRow w.heap.size 67 4 v n K.flatten/\aD w.heap.size w w':=by
 obtain⟨Q,hc⟩:=h;cases a with
 | none=>
  obtain⟨rfl,rfl⟩:=hs.2.2 rfl;have e:L=[]:=aI.1 Q;subst e;exact (Hz w).mono λe w' ⟨x,y⟩=>⟨_,[],x,⟨rfl,λi h=>absurd h (by simp)⟩,y ▸ World.ownsRow_nil _ _ _ _,y ▸ Below.refl _ _⟩
 | some ad=>
  by_cases h0:n=0
  ·subst h0;have e:L=[]:=aI.1 Q;subst e;exact (Qu ad 0 c [] w hn rfl (λu hu=>by cases hu) (λj u z=>by simp at z)).mono λe w' ⟨v,x,y,ak⟩=>⟨v,[],x,⟨rfl,λi h=>absurd h (by simp)⟩,y,ak⟩
  ·obtain⟨b,off,e,_,af⟩:=hc (by omega);obtain⟨rfl⟩:=e;obtain⟨K,h1,h3⟩:=W3 nodR af;have hk:K.flatten.length=n*4:=(by rw[Xa h1,Q];rfl);exact (Qu ⟨b,off,none⟩ n c K.flatten w hn hk (flat_one h1) (λj u z=>by rw[Addr.add_lit];exact Ze hb (h3 j u z))).mono λe w' ⟨v,x,y,ak⟩=>⟨v,K,x,h1,y,ak⟩
theorem Tryz.infoMsgC:(Tryz.prog.info? 106).map (λi=>(i.zero,i.size,i.bytes))=some (some (.agg #[E J 0,E J 0,E J 0,E J 0,E J 0,E J 0,E J 0,E J 0,F none 0 0,E J 0,F none 0 0,F none 0 0]),12,144):=by kernel_rfl
theorem Mj(w:World):Calls aB 226 #[F none 0 0] w λe w'=>e = cY (F none 0 0)/\w=w':=by
 have z:=λw=>aY (P:=aB) w 88 106 none 0 0 0 0 underlying88;go_enter func226,ntmps226;go_wp2;go_ret;exact⟨rfl,rfl⟩
theorem Jt(Q:Addr)(n c:Nat)(z:List Value)(w:World)(hn:n<=977343669134)(hz:z.length=n*12)(h1:∀ u∈z,u.oneCell'=true)(hc:∀ j u,z[j]? = some u->w.cell? (Q.add j)=some u) :
  Calls aB 226 #[F (some Q) n c] w λe w'=>∃ v,e = cY v/\w'.ownsRow w.heap.size 106 12 v n z/\aD w.heap.size w w':=by
 obtain⟨i0,hi,ap,aq,ar⟩:=info_parts Tryz.infoMsgC;have hb:=Zh w (cW #[] 106);have HC:Hid (∀ j u,z[j]? = some u->(w.alloc (cW #[] 106)).cell? (Q.add j)=some u):=λj u hj=>Ze hb (hc j u hj);have HB:=Zd hb;have HZ:=Zd hz;have H1:=Zd h1;have HO:=Zd (Xj w 106 12);have he:=λw=>aY (P:=aB) w 88 106 (some Q) n c 0 0 underlying88;clear hc hb hz h1;go_enter func226,ntmps226
 go_wp2_with (at_builtin;refine wpList_append_own _ rfl _ _ 88 rfl w.heap.size 106 i0 (.agg #[E J 0,E J 0,E J 0,E J 0,E J 0,E J 0,E J 0,E J 0,F none 0 0,E J 0,F none 0 0,F none 0 0]) 12 144 underlying88 hi ap aq ar rfl (by decide) _ _ _ rfl HO Q n c z rfl HZ HC H1 (by unfold maxLen;omega) (by omega) HB.size ?_;intro v2 w3 af ae _)
 have HW:Hid (w3.ownsRow w.heap.size 106 12 v2 n z):=by show World.ownsRow _ _ _ _ _ _ _;simpa using af
 have aj:=Zd (HB.grown ae HB.size (Y9 HO));clear af ae;go_wp2;go_ret;exact⟨v2,rfl,Za HW,Za aj⟩
theorem cloneMsg_any(a:Option Addr)(n c:Nat)(L:List U8)(w0 w:World)(hn:n<=977343669134)(h:RowsAt msgR.R 12 w0 a n L)(hb:aD w0.heap.size w0 w)(hs:SlOk a n c) :
  Calls aB 226 #[F a n c] w λe w'=>∃ v,∃ K:List (List Value),e = cY v/\AllC msgR w0 K L/\w'.ownsRow w.heap.size 106 12 v n K.flatten/\aD w.heap.size w w':=by
 obtain⟨Q,hc⟩:=h;cases a with
 | none=>
  obtain⟨rfl,rfl⟩:=hs.2.2 rfl;have e:L=[]:=aI.1 Q;subst e;exact (Mj w).mono λe w' ⟨x,y⟩=>⟨_,[],x,⟨rfl,λi h=>absurd h (by simp)⟩,y ▸ World.ownsRow_nil _ _ _ _,y ▸ Below.refl _ _⟩
 | some ad=>
  by_cases h0:n=0
  ·subst h0;have e:L=[]:=aI.1 Q;subst e;exact (Jt ad 0 c [] w hn rfl (λu hu=>by cases hu) (λj u z=>by simp at z)).mono λe w' ⟨v,x,y,ak⟩=>⟨v,[],x,⟨rfl,λi h=>absurd h (by simp)⟩,y,ak⟩
  ·obtain⟨b,off,e,_,af⟩:=hc (by omega);obtain⟨rfl⟩:=e;obtain⟨K,h1,h3⟩:=W3 msgR af;have hk:K.flatten.length=n*12:=(by rw[Xa h1,Q];rfl);exact (Jt ⟨b,off,none⟩ n c K.flatten w hn hk (flat_one h1) (λj u z=>by rw[Addr.add_lit];exact Ze hb (h3 j u z))).mono λe w' ⟨v,x,y,ak⟩=>⟨v,K,x,h1,y,ak⟩
def Rk:List Value->Nat->List Value->List Value
 | z,_,[]=>z
 | z,o,c :: cs=>Rk (z.set o c) (o+1) cs
def setsW:World->Nat->Nat->List Value->World
 | w,_,_,[]=>w
 | w,g,o,c :: cs=>setsW (w.setCell ⟨g,o,none⟩ c) g (o+1) cs
theorem setsW_gr{S:Nat->Prop}{w:World}{g:Nat}:∀ (cs:List Value) (z:World) (o:Nat),Gr w z S->(S g\/w.heap.size<=g)->Gr w (setsW z g o cs) S
 | [],_,_,h,_=>h
 | c :: cs,_,o,h,hg=>setsW_gr cs _ (o+1) (h.one g o hg c) hg
theorem Kr{B:Nat}{e:TypeId}{sz n g cap:Nat}:∀ (cs:List Value) (w:World) (o:Nat) (z:List Value),w.ownsRow B e sz (F (some ⟨g,0,none⟩) n cap) n z->(setsW w g o cs).ownsRow B e sz (F (some ⟨g,0,none⟩) n cap) n (Rk z o cs)
 | [],_,_,_,h=>h
 | c :: cs,_,o,_,h=>Kr cs _ (o+1) _ (h.stored o c).1
theorem Ks{sz:Nat}:∀ (cs:List Value) (K:List (List Value)) (_:Wid sz K) (k:Nat) (h:k<K.length) (j:Nat),j+cs.length<=sz->Rk K.flatten (k*sz+j) cs=(K.set k (Rk K[k] j cs)).flatten
 | [],K,_,k,h,j,_=>by simp[Rk]
 | c :: cs,K,hw,k,h,j,hj=>by
  simp only[List.length_cons] at hj;have z:(K[k].set j c).length=sz:=by rw[bZ];exact hw _ (bB h)
  have:=Ks cs (K.set k (K[k].set j c)) (W9 hw k z) k (by rw[bZ];exact h) (j+1) (by omega);simp only[Rk];rw[Yx hw k h j (by omega) c,Nat.add_assoc,this,List.getElem_set_self,List.set_set]
theorem Kt:∀ (cs A z:List Value),z.length=cs.length->Rk (A++z) A.length cs=A++cs
 | [],A,z,h=>by simp at h;simp[Rk,h]
 | c :: cs,A,[],h=>by simp at h
 | c :: cs,A,f :: z,h=>by
  have:=Kt cs (A++[c]) z (by simpa using h);simp only[Rk];rw[List.set_append_right _ _ (Nat.le_refl _),Nat.sub_self,List.set_cons_zero];simpa using this
section
variable {α : Type} {Z : Rec α} {e : TypeId} {B G : Nat} {w0 wr w5 : World} {n g cap k : Nat} {K : List (List Value)} {L : List α}
theorem own_put{cs:List Value}(h:wr.ownsRow B e Z.sz (F (some ⟨g,0,none⟩) n cap) n K.flatten)(Q:Wid Z.sz K)(z:k<K.length)(hc:cs.length=Z.sz):(setsW wr g (k*Z.sz) cs).ownsRow B e Z.sz (F (some ⟨g,0,none⟩) n cap) n (K.set k cs).flatten:=by
 have h1:=Kr cs wr (k*Z.sz) _ h;have h2:=Ks cs K Q k z 0 (by omega);rw[Nat.add_zero] at h2;have h3:=Kt cs [] K[k] (by rw[hc];exact Q _ (bB z));simp only[List.nil_append,List.length_nil] at h3;rw[h2,h3] at h1;exact h1
theorem Cl.put{cs:List Value}{w0s:Nat}(h:Cl Z e B G w0 wr (F (some ⟨g,0,none⟩) n cap) n K L k)(Q:k<L.length)(hb:aD wr.heap.size wr w5)(z:Fresh w0s w5 (λw2=>Z.C w2 cs L[k]))(hG:G<=w0s) :
  Cl Z e B G w0 (setsW w5 g (k*Z.sz) cs) (F (some ⟨g,0,none⟩) n cap) n (K.set k cs) L (k+1):=by
 have h5:=h.keep hb;exact h5.step Q (z.less hG) (setsW_gr cs w5 _ (Gr.refl _ _) (.inl rfl)) (own_put h5.own h5.wid (by rw[h5.len];exact Q) (Z.wide _ _ _ z.now))
end
theorem len4{c:List Value}(h:c.length=4):∃ x y z r,c=[x,y,z,r]:=by
 match c,h with
 | [x,y,z,r],_=>exact⟨x,y,z,r,rfl⟩
theorem drew_heap{w:World}{b:Nat}{o:Option Obj}(h:w.heap[b]? = o):w.drew.heap[b]? = o:=h
theorem Lu:∀ (L:List ByteArray),∀ u∈L.map Value.string,u.oneCell'=true:=by
 intro L u z;obtain⟨s,_,rfl⟩:=List.mem_map.1 z;rfl
theorem Tryz.infoStrC:(Tryz.prog.info? 9).map (λi=>(i.zero,i.size,i.bytes))=some (some (.string ByteArray.empty),1,16):=by kernel_rfl
theorem Mf(w:World):Calls aB 224 #[F none 0 0] w λe w'=>e = cY (F none 0 0)/\w=w':=by
 have z:=λw=>aY (P:=aB) w 22 9 none 0 0 0 0 underlying22;go_enter func224,ntmps224;go_wp2;go_ret;exact⟨rfl,rfl⟩
theorem Hx(Q:Addr)(n c:Nat)(z:List Value)(w:World)(hn:n<=4096)(hz:z.length=n*1)(h1:∀ u∈z,u.oneCell'=true)(hc:∀ j u,z[j]? = some u->w.cell? (Q.add j)=some u) :
  Calls aB 224 #[F (some Q) n c] w λe w'=>∃ v,e = cY v/\w'.ownsRow w.heap.size 9 1 v n z/\aD w.heap.size w w':=by
 obtain⟨i0,hi,ap,aq,ar⟩:=info_parts Tryz.infoStrC;have hb:=Zh w (cW #[] 9);have HC:Hid (∀ j u,z[j]? = some u->(w.alloc (cW #[] 9)).cell? (Q.add j)=some u):=λj u hj=>Ze hb (hc j u hj);have HB:=Zd hb;have HZ:=Zd hz;have H1:=Zd h1;have HO:=Zd (Xj w 9 1);have he:=λw=>aY (P:=aB) w 22 9 (some Q) n c 0 0 underlying22;clear hc hb hz h1;go_enter func224,ntmps224
 go_wp2_with (at_builtin;refine wpList_append_own _ rfl _ _ 22 rfl w.heap.size 9 i0 (.string ByteArray.empty) 1 16 underlying22 hi ap aq ar rfl (by decide) _ _ _ rfl HO Q n c z rfl HZ HC H1 (by unfold maxLen;omega) (by omega) HB.size ?_;intro v2 w3 af ae _)
 have HW:Hid (w3.ownsRow w.heap.size 9 1 v2 n z):=by show World.ownsRow _ _ _ _ _ _ _;simpa using af
 have aj:=Zd (HB.grown ae HB.size (Y9 HO));clear af ae;go_wp2;go_ret;exact⟨v2,rfl,Za HW,Za aj⟩
theorem cloneStr_any(a:Option Addr)(n c:Nat)(L:List ByteArray)(w:World)(hn:n<=4096)(h:Bk.TextsAt w a n L)(hs:SlOk a n c) :
  Calls aB 224 #[F a n c] w λe w'=>∃ v,e = cY v/\w'.ownsRow w.heap.size 9 1 v n (L.map Value.string)/\aD w.heap.size w w':=by
 obtain⟨hl,hc⟩:=h;cases a with
 | none=>
  obtain⟨rfl,rfl⟩:=hs.2.2 rfl;have e:L=[]:=aI.1 hl;subst e;exact (Mf w).mono λe w' ⟨x,y⟩=>⟨_,x,y ▸ World.ownsRow_nil _ _ _ _,y ▸ Below.refl _ _⟩
 | some ad=>
  refine (Hx ad n c (L.map Value.string) w hn (by simp[hl]) (Lu _) (λj u z=>?_));have Q:j<L.length:=by have:=(List.getElem?_eq_some_iff.1 z).1;simpa using this
  obtain⟨b,off,e,ac⟩:=hc (by omega);cases e;rw[Addr.add_lit,ac j Q];simpa[Q] using z
theorem strs_of_own{w:World}{base:Nat}{v:Value}{n:Nat}{K:List ByteArray}(h:w.ownsRow base 9 1 v n (K.map Value.string)):∃ a cap,v = F a n cap/\SlOk a n cap/\Bk.TextsAt w a n K:=by
 have z:K.length=n:=by simpa using h.1
 rcases h.2 with ⟨rfl,rfl⟩|⟨g,cap,Q,rfl,hg,hh,h1,h2,h3,h4⟩
 ·exact⟨none,0,rfl,⟨Nat.le_refl _,Nat.zero_le _,λ_=>⟨rfl,rfl⟩⟩,z,λh=>absurd h (by omega)⟩
 ·refine⟨_,cap,rfl,⟨h1,h2,λe=>by cases e⟩,z,λ_=>⟨g,0,rfl,λi hi=>?_⟩⟩;rw[Nat.zero_add,World.ownsRow.cellAt h i (by omega)];simp[hi]
end Go.Proofs.YtmomfkikogbdeaaGreatDoor.Tr
namespace Go.Proofs.YtmomfkikogbdeaaGreatDoor.Bk
open Go.RowKit Go.Maps
theorem check_is(a:Option Addr)(n c:Nat)(L:List ByteArray)(w:World)(h:TextsAt w a n L)(x:Int)(hx:bkChk L=x) :
  ZH 59 #[.agg #[F a n c]] w (E J x):=by
 have z:=Zh w (cW #[F a n c] 24);have O:=Zd (L3 a n c L _ (h.later z) x hx);have HB:=Zd z;clear h hx z;go_enter func59,ntmps59;go_wp2_with fail;refine O.mono ?_;rintro e w2 ⟨v,rfl,-,Q⟩;have ab:=Zd (Zf HB Q);clear Q;go_wp2;go_ret;exact⟨rfl,Za ab⟩
