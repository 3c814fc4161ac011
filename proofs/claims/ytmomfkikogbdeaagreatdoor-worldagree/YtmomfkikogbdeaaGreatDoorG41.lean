import Derived.Test.YtmomfkikogbdeaaGreatDoorH
import Derived.Test.YtmomfkikogbdeaaGreatDoorG40
import Derived.Test.YtmomfkikogbdeaaGreatDoorG2
import Derived.Test.YtmomfkikogbdeaaGreatDoorG54
open Go.Proofs.Tryz
open Go renaming lt_of_block->aA,bodyPost_ret->bB,heap_alloc_new->aG
open Go.Ending renaming returned->dF
open Go.Exit renaming inBlock->aV
open Go.IntKind renaming i64->J
open Go.Obj renaming cells->dE
open Go.Proofs.Tryz renaming prog->aB
open Go.Value renaming int->E,slice->F,tuple->dG,pointer->dH,bool->dI
open Go.World renaming frozen?_of_block->aM,size_alloc->cL
open List renaming getElem_mem->bE,mem_cons->aO,mem_map->bN,map_cons->bY,replicate->aR,getElem?_eq_getElem->aZ
open Nat renaming le_of_eq->cO,le_refl->aF,zero_le->aI,lt_of_lt_of_le->aD,le_trans->aN
set_option maxHeartbeats 12800000
set_option maxRecDepth 10000
namespace Go.Proofs.YtmomfkikogbdeaaGreatDoor
open Go.RowKit
theorem Xi{W:WD}(h:Ur W.k W.n W.m=0):1<=W.n.length/\W.n.length<=4/\Bk.bkChk W.k=0/\W.k.length<=120/\W.m.length<=20/\(∀ y∈W.n,opN W.k y=0)/\∀ m∈W.m,Aa m W.n.length=0:=by
 unfold Ur at h;by_cases h1:1<=W.n.length/\W.n.length<=4;rotate_left
 ·rw[if_pos h1] at h;exact absurd h (by decide)
 rw[if_neg (λq=>q h1)] at h;by_cases h2:Bk.bkChk W.k=0;rotate_left
 ·rw[if_pos h2] at h;exact absurd h h2
 rw[if_neg (λq=>q h2)] at h;by_cases h3:20<W.m.length
 ·rw[if_pos h3] at h;exact absurd h (by decide)
 rw[if_neg h3] at h;by_cases h4:W9 W.k W.n=0;rotate_left
 ·rw[if_pos h4] at h;exact absurd h h4
 rw[if_neg (λq=>q h4)] at h
 have n0:∀ L,W9 W.k L=0->∀ y∈L,opN W.k y=0:=by
  intro L
  induction L with
  | nil=>intro _ y hy;cases hy
  | cons x L ih=>
   intro h y hy;rw[W9] at h;by_cases e:opN W.k x=0
   ·rw[if_neg (λq=>q e)] at h
    rcases aO.1 hy with rfl|hy
    ·exact e
    ·exact ih h y hy
   ·rw[if_pos e] at h;exact absurd h e
 have m0:∀ L,Js W.n.length L=0->∀ y∈L,Aa y W.n.length=0:=by
  intro L
  induction L with
  | nil=>intro _ y hy;cases hy
  | cons x L ih=>
   intro h y hy;rw[Js] at h;by_cases e:Aa x W.n.length=0
   ·rw[if_neg (λq=>q e)] at h
    rcases aO.1 hy with rfl|hy
    ·exact e
    ·exact ih h y hy
   ·rw[if_pos e] at h;exact absurd h e
 refine⟨h1.1,h1.2,h2,?_,by omega,n0 _ h4,m0 _ h⟩;unfold Bk.bkChk at h2;by_cases e:120<W.k.length
 ·rw[if_pos e] at h2;exact absurd h2 (by decide)
 ·omega
theorem Ca{K}{y:Ye}(h:opN K y=0)(hs:Qo y):Zad y:=by
 obtain⟨_,hb,_⟩:=Wa h;have aa:=Wf (Xq hb).1;exact⟨aa.1,aN aa.2.1 (by decide),aa.2.2.2.2.1,hs⟩
def WorldAt(w:World)(W:WD)(ka:Option Addr)(kn:Nat)(na:Option Addr)(nn:Nat)(ma:Option Addr)(mn:Nat):Prop:=Bk.TextsAt w ka kn W.k/\NodsAt w na nn W.n/\MsgsAt w ma mn W.m
def M6(w w':World)(x:Int)(W:WD)(e:Ending):Prop:=ZD w w'/\((x≠0/\e = dF (dG #[.agg #[F none 0 0,F none 0 0,F none 0 0],E J x])) \/
 (x=0/\∃ ka kn kc na nn nc ma mn mc,e = dF (dG #[.agg #[F ka kn kc,F na nn nc,F ma mn mc],E J 0])/\Fresh w.heap.size w' (λw2=>WorldAt w2 W ka kn na nn ma mn)/\SlOk ka kn kc/\SlOk na nn nc/\SlOk ma mn mc))
theorem Sc.fresh{B s:Nat}{W:WD}{w:World}(h:Sc (λq=>q<B) s W w):∃ ka kn kc na nn nc ma mn mc,w.heap[s]? = some (dE [F ka kn kc,F na nn nc,F ma mn mc].toArray 287 (0,0))/\Fresh B w (λw2=>WorldAt w2 W ka kn na nn ma mn)/\SlOk ka kn kc/\SlOk na nn nc/\SlOk ma mn mc:=by
 obtain⟨ka,kn,kc,vn,vm,Kn,Km,hA⟩:=h;obtain⟨na,nc,ma,mc,rfl,rfl,_,_,s1,s2⟩:=hA.on.read;refine⟨ka,kn,kc,na,_,nc,ma,_,mc,hA.box,λV g=>?_,hA.on.sk,s1,s2⟩;have d:=hA.on.dat V (g.mono (λq _ e=>.inl (.inl e)));obtain⟨a1,c1,e1,r1,_⟩:=Tr.rows_of_own Tr.nodR (g.own hA.on.rn (λq hq e=>(hA.zs q e).2.2.1 hq)) d.2.1 rfl;obtain⟨a2,c2,e2,r2,_⟩:=Tr.rows_of_own Tr.msgR (g.own hA.on.rm (λq hq e=>(hA.zs q e).2.2.2 hq)) d.2.2 rfl;cases e1;cases e2;exact⟨d.1,r1,r2⟩
theorem Hm(ka kn kc na nn nc ma mn mc)(W:WD)(x0 y x:Int)(W':WD)(f:Nat)(caps)(w:World)(hE:Env w)(hK:Bk.TextsAt w ka kn W.k)(hN:NodsAt w na nn W.n)(hM:MsgsAt w ma mn W.m)(sK:SlOk ka kn kc)(sN:SlOk na nn nc)(sM:SlOk ma mn mc)(be:∀ y∈W.n,Qo y)(ca:∀ m∈W.m,J3 m)(h0:Ur W.k W.n W.m=x0)
  (hf:x0=0->(∀ args w,(callFunc f args).run aB w = .ok (.enter f args) w)/\∀ Z V s,(∀ q,q<w.heap.size->Z q)->ZD w V->Sc Z s W V->Calls aB f (#[dH (some ⟨s,0,none⟩)]++caps) V λe V'=>Uy Z s y W' V V' e) (hx:(if x0=0 then y else x0)=x) :
  Calls aB 119 #[.agg #[F ka kn kc,F na nn nc,F ma mn mc],.func (.func f) #[] caps] w λe w'=>M6 w w' x W' e:=by
 obtain⟨X,hX⟩:=ZG (Yv w [dE #[F ka kn kc,F na nn nc,F ma mn mc] 90,dE #[F none 0 0,F none 0 0,F none 0 0] 90]);have bu:X=(w.alloc (dE #[F ka kn kc,F na nn nc,F ma mn mc] 90)).alloc (dE #[F none 0 0,F none 0 0,F none 0 0] 90):=hX;have af:ZD w X:=by rw[hX];exact Zs _ _
 have bv:X.heap.size=w.heap.size+2:=by rw[hX];exact Z0 _ _
 have bj:=kl0 hX _ _ rfl;have cp:=kl hX 1 _ _ rfl;have C1:=Zd (M8 ka kn kc W.k na nn nc W.n ma mn mc W.m x0 X (hE.later af) (hK.later af) (hN.later af) (hM.later af) be h0)
 have C2:Hid (x0=0->∀ V,ZD w V->_):=λe V hv=>by
  obtain⟨q1,q2,q3,q4,q5,q6,q7⟩:=Xi (W:=W) (h0.trans e);exact Zcm ka kn kc W.k na nn nc W.n ma mn mc W.m V (hK.later hv) (hN.later hv) (hM.later hv) sK sN sM (by rw[<-hK.1];omega) (by rw[<-hN.1];omega) (by rw[<-hM.1];omega) (λy hy=>Ca (q6 y hy) (be y hy)) ca
 obtain⟨HF,br,ct,am,aa,az⟩:=kh6 hf af bv bj cp hx;obtain⟨m0,m1,m2,ml⟩:=cl3 (Zd bj);clear hE hK hN hM sK sN sM be ca h0 hf hx af bv bj cp hX;go_enter func119,ntmps119
 go_upto_region 1 with fail
 rw[<-bu];clear bu;go_wp2_with fail;refine C1.mono ?_;rintro e w1 ⟨rfl,an⟩;have cq:=Zd an;have ak:=onb br an;have am:=mvd an am;have aa:=mvd an aa;clear an C1 br m0 m1 m2 ml;by_cases hz:x0=0;rotate_left
 ·have e:x0=x:=by have:=Za az;rw[if_neg hz] at this;exact this
  subst e;have gx:(x0 != 0)=true:=by simp[hz]
  obtain⟨r0,r1,r2,rl⟩:=cl3 aa;have f0:=Zg aa 0;have f1:=Zg aa 1;have f2:=Zg aa 2;have aj:Hid (∀ V,Gr w1 V (λq=>q=w.heap.size+1)->M6 w V x0 W' (dF (dG #[.agg #[F none 0 0,F none 0 0,F none 0 0],E J x0]))):=λV g=>⟨g.below ak ak.size (λq e=>by have e:q=w.heap.size+1:=e;omega),.inl ⟨hz,rfl⟩⟩;clear C2 HF am aa;go_wp2;(try simp only[aV,Exit.then]);refine bB (v:=dG #[.agg #[F none 0 0,F none 0 0,F none 0 0],E J x0]) ?_ rfl ?_
  ·rw[Zo rfl];go_simp
  ·refine aj _ ?_
   repeat' first|refine Gr.one ?_ _ _ ?_ _|exact Gr.refl _ _
   all_goals exact Or.inl rfl
 subst hz;have ey:y=x:=by have:=Za az;rw[if_pos rfl] at this;exact this
 subst ey;obtain⟨eg,bx⟩:=HF rfl;obtain⟨bs,C3⟩:=kh2 bx (C2 rfl w1 ak);obtain⟨m0,m1,m2,ml⟩:=cl3 am;clear bx C2 HF az;go_wp2_with fail;refine C3.mono ?_;rintro e w2 ⟨ka',kc',vn,vm,Kn,Km,rfl,ag,o1,o2,ap⟩;obtain⟨na',nc',cb,cc,rfl,rfl,_⟩:=ag.read;have bq:=onb ak ap;have aa:=mvd ap aa;obtain⟨w3,av⟩:∃ v,v=w2.alloc (dE #[F ka' kn kc',F na' W.n.length nc',F cb W.m.length cc] 287):=⟨_,rfl⟩;have ac:ZD w2 w3:=by rw[av];exact Zh _ _
 have h3:w3.heap[w2.heap.size]? = some (dE [F ka' kn kc',F na' W.n.length nc',F cb W.m.length cc].toArray 287 (0,0)):=by rw[av];exact aG _ _
 have dm:=ak.size;have dn:=bq.size;have dq:=Za ct;have db:=cq.size;have dp:=aN db ap.size
 have bt:Sc (λq=>q<w.heap.size+2) w2.heap.size W w3:=by
  refine⟨ka',kn,kc',_,_,Kn,Km,h3,λq e=>?_,(ag.later ac).rn,(ag.later ac).rm,λV gV=>ag.dat V ((Gr.of ac).far gV (λq e=>?_)),ag.sk⟩
  ·have e:q<w.heap.size+2:=e;have:=ap.size;have:=ac.size;exact⟨by omega,by omega,λh=>by have:=o1 q h;omega,λh=>by have:=o2 q h;omega⟩
  ·rcases e with (e|e)|e
   ·exact .inr (.inl (by have e:q<w.heap.size+2:=e;omega))
   ·exact .inl (cO (Eq.symm e))
   ·exact .inr (.inr e)
 have aq:=onb bq ac;have aa:=mvd ac aa;have C4:=Zd (bs (λq=>q<w.heap.size+2) w3 w2.heap.size (λq e=>by show q<w.heap.size+2;omega) aq bt);clear ag o1 o2 ap ac h3 bt C3 bs m0 m1 m2 ml am
 go_upto_region 5 with fail
 rw[<-av];clear av;go_wp2_with fail;refine C4.mono ?_;rintro e w4 ⟨rfl,bb,bd⟩;have ar:Hid (ZD w w4):=bd.below aq aq.size (λq e=>by have e:¬q<w.heap.size+2:=e;omega);have ad:Hid (w4.heap[w.heap.size+1]? = some (dE [F none 0 0,F none 0 0,F none 0 0].toArray 90 (0,0))):=bd.heap aa (λe=>e (by omega));obtain⟨r0,r1,r2,rl⟩:=cl3 ad;have f0:=Zg ad 0;have f1:=Zg ad 1;have f2:=Zg ad 2;clear bd C4 aa aq;by_cases hy:y=0;rotate_left
 ·have gx:(y != 0)=true:=by simp[hy]
  have aj:Hid (∀ V,Gr w4 V (λq=>q=w.heap.size+1)->M6 w V y W' (dF (dG #[.agg #[F none 0 0,F none 0 0,F none 0 0],E J y]))):=λV g=>⟨g.below ar ar.size (λq e=>by have e:q=w.heap.size+1:=e;omega),.inl ⟨hy,rfl⟩⟩;clear bb ad;go_wp2;(try simp only[aV,Exit.then]);refine bB (v:=dG #[.agg #[F none 0 0,F none 0 0,F none 0 0],E J y]) ?_ rfl ?_
  ·rw[Zo rfl];go_simp
  ·refine aj _ ?_
   repeat' first|refine Gr.one ?_ _ _ ?_ _|exact Gr.refl _ _
   all_goals exact Or.inl rfl
 ·subst hy;obtain⟨k1,k1n,k1c,n1,n1n,n1c,m1,bh,bg,h4,hF,s1,s2,s3⟩:=Sc.fresh (bb rfl);have aj:Hid (∀ V,Gr w4 V (λq=>q=w.heap.size+1)->M6 w V 0 W' (dF (dG #[.agg #[F k1 k1n k1c,F n1 n1n n1c,F m1 bh bg],E J 0]))):=λV g=>⟨g.below ar ar.size (λq e=>by have e:q=w.heap.size+1:=e;omega),.inr ⟨rfl,k1,k1n,k1c,n1,n1n,n1c,m1,bh,bg,rfl,(hF.on (g.mono (λq _ e=>by have e:q=w.heap.size+1:=e;omega))).less (by omega),s1,s2,s3⟩⟩;obtain⟨d0,d1,d2,dl⟩:=cl3 (Zd h4);have nd:w2.heap.size≠w.heap.size+1:=by omega
  clear bb ad h4 hF s1 s2 s3;go_wp2;(try simp only[aV,Exit.then]);refine bB (v:=dG #[.agg #[F k1 k1n k1c,F n1 n1n n1c,F m1 bh bg],E J 0]) ?_ rfl ?_
  ·rw[Zo rfl];go_simp
  ·refine aj _ ?_
   repeat' first|refine Gr.one ?_ _ _ ?_ _|exact Gr.refl _ _
   all_goals exact Or.inl rfl
def Zpf(P:World->Prop)(hv:Value)(W:WD)(y:Int)(W':WD):Prop:=∀ Z V s,(∀ U,Gr V U (λq=>¬Z q)->P U)->Sc Z s W V->Calls aB 129 #[dH (some ⟨s,0,none⟩),hv] V λe V'=>Uy Z s y W' V V' e
abbrev Zpg:=Zpf Env
theorem Zmj(P:World->Prop)(Z:Nat->Prop)(s b:Nat)(xk xn xt xi xw xN th:Int)(ai ao ni ci no co)(W:WD)(y:Int)(W':WD)(w:World)(hE:∀ U,Gr w U (λq=>¬Z q)->P U)(hS:Sc Z s W w)(hb:w.heap[b]? = some (dE [E J xk,E J xn,E J xt,E J xi,E J xw,E J xN,E J th,F ai ni ci,F ao no co].toArray 103 (0,0)))(hH:Zpf P (.agg #[E J xk,E J xn,E J xt,E J xi,E J xw,E J xN,E J th,F ai ni ci,F ao no co]) W y W') :
  Calls aB 128 #[dH (some ⟨s,0,none⟩),dH (some ⟨b,0,none⟩)] w λe w'=>Uy Z s y W' w w' e:=by
 have C1:=Zd (hH Z w s hE hS);obtain⟨m0,m1,m2,m3,m4,m5,m6,m7,m8,ml⟩:=kc9 hb;clear hE hS hb hH;go_enter func128,ntmps128;go_wp2_with fail;refine C1.mono ?_;rintro e w1 ⟨rfl,h1,h2⟩;obtain⟨H1,H2⟩:=kh2 h1 h2;clear h1 h2 C1;go_wp2;go_ret;exact⟨rfl,Za H1,Za H2⟩
theorem Zmi(P:World->Prop)(ka kn kc na nn nc ma mn mc)(xk xn xt xi xw xN th:Int)(ai ao ni ci no co)(W:WD)(x0 y x:Int)(W':WD)(w:World)(hE:Env w)(hK:Bk.TextsAt w ka kn W.k)(hN:NodsAt w na nn W.n)(hM:MsgsAt w ma mn W.m)(sK:SlOk ka kn kc)(sN:SlOk na nn nc)(sM:SlOk ma mn mc)(av:∀ y∈W.n,Qo y)(au:∀ m∈W.m,J3 m)(h0:Ur W.k W.n W.m=x0)
  (hP:∀ U,ZD w U->P U) (hH:x0=0->Zpf P (.agg #[E J xk,E J xn,E J xt,E J xi,E J xw,E J xN,E J th,F ai ni ci,F ao no co]) W y W') (hx:(if x0=0 then y else x0)=x) :
  Calls aB 53 #[.agg #[F ka kn kc,F na nn nc,F ma mn mc],.agg #[E J xk,E J xn,E J xt,E J xi,E J xw,E J xN,E J th,F ai ni ci,F ao no co]] w λe w'=>M6 w w' x W' e:=by
 obtain⟨X,hX⟩:=ZG (Yv w [dE #[F ka kn kc,F na nn nc,F ma mn mc] 90,dE #[E J xk,E J xn,E J xt,E J xi,E J xw,E J xN,E J th,F ai ni ci,F ao no co] 103,dE #[F none 0 0,F none 0 0,F none 0 0] 90]);have ar:X=((w.alloc (dE #[F ka kn kc,F na nn nc,F ma mn mc] 90)).alloc (dE #[E J xk,E J xn,E J xt,E J xi,E J xw,E J xN,E J th,F ai ni ci,F ao no co] 103)).alloc (dE #[F none 0 0,F none 0 0,F none 0 0] 90):=hX;have ac:ZD w X:=by rw[hX];exact Zs _ _
 have bs:X.heap.size=w.heap.size+3:=by rw[hX];exact Z0 _ _
 have be:=kl0 hX _ _ rfl;have bf:=kl hX 1 _ _ rfl;have bg:X.heap[w.heap.size+1+1]? = some (dE [F none 0 0,F none 0 0,F none 0 0].toArray 90 (0,0)):=by rw[hX];exact Zl _ w 2 _ rfl
 have C1:=Zd (Hm ka kn kc na nn nc ma mn mc W x0 y x W' 128 #[dH (some ⟨w.heap.size+1,0,none⟩)] X (hE.later ac) (hK.later ac) (hN.later ac) (hM.later ac) sK sN sM av au h0 (λe=>⟨enters_of (fn:=Tryz.f128) (by kernel_rfl) (by kernel_rfl) rfl,λZ V s hZ hV hS=>Zmj P Z s (w.heap.size+1) xk xn xt xi xw xN th ai ao ni ci no co W y W' V (λU g=>hP U (Zf ac (g.below hV hV.size (λq h=>by
  rcases Nat.lt_or_ge q X.heap.size with k|k
  ·exact absurd (hZ q k) h
  ·exact k)))) hS ((hV.block _ (by omega)).trans bf) (hH e)⟩) hx)
 obtain⟨an,aa⟩:=kh2 ac bg;obtain⟨m0,m1,m2,ml⟩:=cl3 (Zd be);clear hE hK hN hM sK sN sM av au h0 hH hx hP ac be bf bg hX;go_enter func53,ntmps53
 go_upto_region 1 with fail
 rw[<-ar];clear ar;go_wp2_with fail;refine C1.mono ?_;rintro e w1 ⟨aj,hr⟩;have af:=onb an aj;have aa:=mvd aj aa;obtain⟨r0,r1,r2,rl⟩:=cl3 aa;have f0:=Zg aa 0;have f1:=Zg aa 1;have f2:=Zg aa 2;clear aj C1 an m0 m1 m2 ml aa
 rcases hr with ⟨hx,rfl⟩|⟨rfl,k1,k1n,k1c,n1,n1n,n1c,m1,am,ak,rfl,hF,s1,s2,s3⟩
 ·have ag:Hid (∀ V,Gr w1 V (λq=>q=w.heap.size+2)->M6 w V x W' (dF (dG #[.agg #[F none 0 0,F none 0 0,F none 0 0],E J x]))):=λV g=>⟨g.below af af.size (λq e=>by have e:q=w.heap.size+2:=e;omega),.inl ⟨hx,rfl⟩⟩;go_wp2;(try simp only[aV,Exit.then]);refine bB (v:=dG #[.agg #[F none 0 0,F none 0 0,F none 0 0],E J x]) ?_ rfl ?_
  ·rw[Zo rfl];go_simp
  ·refine ag _ ?_
   repeat' first|refine Gr.one ?_ _ _ ?_ _|exact Gr.refl _ _
   all_goals exact Or.inl rfl
 ·have ag:Hid (∀ V,Gr w1 V (λq=>q=w.heap.size+2)->M6 w V 0 W' (dF (dG #[.agg #[F k1 k1n k1c,F n1 n1n n1c,F m1 am ak],E J 0]))):=λV g=>⟨g.below af af.size (λq e=>by have e:q=w.heap.size+2:=e;omega),.inr ⟨rfl,k1,k1n,k1c,n1,n1n,n1c,m1,am,ak,rfl,(hF.on (g.mono (λq _ e=>by have e:q=w.heap.size+2:=e;omega))).less (by omega),s1,s2,s3⟩⟩;clear hF s1 s2 s3;go_wp2;(try simp only[aV,Exit.then]);refine bB (v:=dG #[.agg #[F k1 k1n k1c,F n1 n1n n1c,F m1 am ak],E J 0]) ?_ rfl ?_
  ·rw[Zo rfl];go_simp
  ·refine ag _ ?_
   repeat' first|refine Gr.one ?_ _ _ ?_ _|exact Gr.refl _ _
   all_goals exact Or.inl rfl
theorem Zim{K L}(hr:∀ y∈L,opN K y=0){P R:List Wd}{x:Wd}(hq:Stl L (P++x :: R))(h:RT K (P.map (·.1)) (P.map (·.2))) :
  Tr.nextD (P.map (·.1)) (P.map (·.2)) x.1 x.2=0/\kbD K x.1 x.2=true/\x.1≠0/\∃ C U,Xw K (cbC K (P.map (·.1)) (P.map (·.2)) x.2.1) x.2=(0,C,U):=by
 have hx:x∈Jg L:=(hq.mem x).1 (by simp);obtain⟨y,hy,hR,x1,x2,x3⟩:=Td hr hx;have aa:=Tr.TrOk.of hR.1;have ad:=Tr.TrOk.of h.1;have nm:=aa.nm x.1 x1;obtain⟨s1,s2,s3⟩:=List.pairwise_append.1 hq.srt
 have hn:x.1∉P.map (·.1):=by
  intro q;obtain⟨z,hz,e⟩:=bN.1 q;have ez:=Bs hr z ((hq.mem z).1 (by simp[hz])) x hx e;exact Znw x (ez ▸ s3 z hz x (by simp))
 have hh:=aa.hgt x.1 x1;rw[x2] at hh
 have hp:x.2.1=0\/x.2.1∈y.1/\x.2.1∈P.map (·.1):=by
  have:=aa.par x.1 x1;rw[x2] at this;refine this.imp id (λe=>⟨e,?_⟩);have hm:(x.2.1,Tr.fnd x.2.1 y.1 y.2.1)∈P++x :: R:=(hq.mem _).2 (mem_all.2 ⟨y,hy,(Fg aa.len aa.nd).2 ⟨e,rfl⟩⟩)
  rcases List.mem_append.1 hm with q|q
  ·exact bN.2 ⟨_,q,rfl⟩
  ·have ay:x.2.2.1<=(Tr.fnd x.2.1 y.1 y.2.1).2.1:=by
    rcases aO.1 q with q|q
    ·rw[show Tr.fnd x.2.1 y.1 y.2.1=x.2 from congrArg Prod.snd q];exact Int.le_refl _
    ·have:=(List.pairwise_cons.1 s2).1 _ q;unfold lt2 at this;simp only at this;omega
   omega
 have hf:Tr.fnd x.2.1 (P.map (·.1)) (P.map (·.2))=Tr.fnd x.2.1 y.1 y.2.1/\cbC K (P.map (·.1)) (P.map (·.2)) x.2.1=cbC K y.1 y.2.1 x.2.1:=by
  rcases hp with e|⟨e1,e2⟩
  ·rw[e,Tr.fnd_out ad.len ad.zero,Tr.fnd_out aa.len aa.zero,h.out ad.zero,hR.out aa.zero];exact⟨rfl,rfl⟩
  ·exact Zlx h hR _ _ (aF _) e2 e1
 obtain⟨_,U,hc⟩:=hR.fix x1;rw[x2] at hc;refine⟨Tr.nextD_mk nm (Wt x3).1 hn (hp.imp id And.right) (by rw[hf.1];exact hh),x3,by omega,_,U,by rw[hf.2];exact hc⟩
theorem Zev{K}{N:List Int}{T}{tip:Int}{b:Zk}{s:Int}(h:opE K N T [] tip=0)(hk:kbD K s b=true)(hs:s≠0)(hn:Tr.nextD N T s b=0)(hl:N.length=24):ntR K N T [] tip b=(12,0,Dsk.none):=by
 obtain⟨o1,o2,_⟩:=Wa h;have e:=Rd ((Bk.right_iff K).1 o1) hs hk
 have a:Tr.addE N T s b=([],[],12):=by
  unfold Tr.addE;rw[if_neg (λq=>q (Xq o2).1),if_neg (λq=>q hn),if_pos hl]
 have t:(tkR ⟨K,N,T,[],tip,(Z1 K N T noB).2⟩ b).1=12:=by
  unfold tkR;simp only[e,a];rw[if_neg (λq=>q rfl),if_pos (by decide)]
 unfold ntR;rw[if_neg (by rw[h];decide),t,if_pos (by decide)]
theorem Zdj{K L}(hr:∀ y∈L,opN K y=0):∀ (R P:List Wd) (tip:Int),Stl L (P++R)->opE K (P.map (·.1)) (P.map (·.2)) [] tip=0 ->
  Wo K (P.map (·.1),P.map (·.2),[],tip) R=(12,[],([],[],[],0))\/∃ t,Wo K (P.map (·.1),P.map (·.2),[],tip) R=(0,K,((P++R).map (·.1),(P++R).map (·.2),[],t))/\opE K ((P++R).map (·.1)) ((P++R).map (·.2)) [] t=0
 | [],P,tip,_,h=>.inr ⟨tip,by rw[List.append_nil,Wo],by rw[List.append_nil];exact h⟩
 | x :: R,P,tip,hq,h=>by
  obtain⟨hR,_⟩:=Px h;obtain⟨n1,n2,n3,C,U,n4⟩:=Zim hr hq hR;by_cases hl:(P.map (·.1)).length=24
  ·left
   have e:=Zev h n2 n3 n1 hl;rw[Wo];simp only[e];rw[if_pos (by decide)]
  ·obtain⟨D,d1,d2,d3,d4⟩:=Zmp h n2 n3 (Zpd hR.1 n1 hl) n4;obtain⟨_,_,_,_,_,_,d7,_,aa,_⟩:=Zam d1;rw[d2,d3,d4,d7] at aa;have e1:P.map (·.1)++[x.1]=(P++[x]).map (·.1):=(by simp);have e2:P.map (·.2)++[x.2]=(P++[x]).map (·.2):=(by simp);rw[e1] at d3 aa;rw[e2] at d4 aa;have e3:P++x :: R=(P++[x])++R:=(by simp);rw[e3] at hq ⊢;have i:=Zdj hr R (P++[x]) D.tip hq aa;rw[Wo];simp only[d1,d2,d3,d4,d7];rw[if_neg (by decide)];exact i
theorem Znl{K}(h:Bk.bkChk K=0):opE K [] [] [] 0=0:=by
 unfold opE;rw[if_neg (λq=>q h)];rfl
theorem Zar{W:WD}(h:Ur W.k W.n W.m=0){Q:List Wd}(hq:Stl W.n Q):Wo W.k ([],[],[],0) Q=(12,[],([],[],[],0))\/∃ t,Wo W.k ([],[],[],0) Q=(0,W.k,(Q.map (·.1),Q.map (·.2),[],t))/\opE W.k (Q.map (·.1)) (Q.map (·.2)) [] t=0:=by
 obtain⟨_,_,h3,_,_,h6,_⟩:=Xi h;exact Zdj h6 Q [] 0 hq (Znl h3)
theorem Hf:∀ Q:List Wd,(Q.map (·.1)).zip (Q.map (·.2))=Q
 | []=>rfl
 | x :: Q=>by rw[bY,bY,List.zip_cons_cons,Hf Q]
theorem Zmv{L}{Q:List Wd}(hq:Stl L Q){K}(hr:∀ y∈L,opN K y=0){y:Ye}(hy:y∈L):∀ s∈y.1,s∈Q.map (·.1):=by
 intro s hs;obtain⟨hR,_⟩:=Px (hr y hy);have ok:=Tr.TrOk.of hR.1;exact bN.2 ⟨(s,Tr.fnd s y.1 y.2.1),(hq.mem _).2 (mem_all.2 ⟨y,hy,(Fg ok.len ok.nd).2 ⟨hs,rfl⟩⟩),rfl⟩
theorem Zez{L}{Q Q':List Wd}{n:Nat}{t:Int}(hn:1<=n)(hq:Stl L Q)(ab:Stl (aR n (Q.map (·.1),Q.map (·.2),[],t)) Q'):Q'=Q:=by
 refine Dz _ _ ab.srt hq.srt (λx=>?_);rw[ab.mem,mem_all];constructor
 ·rintro ⟨y,hy,hx⟩;rw[(List.mem_replicate.1 hy).2] at hx;unfold Rk at hx;rw[Hf] at hx;exact hx
 ·intro hx;refine⟨_,List.mem_replicate.2 ⟨by omega,rfl⟩,?_⟩;unfold Rk;rw[Hf];exact hx
theorem Eu{W:WD}(h:Ur W.k W.n W.m=0){y:Ye}(hy:opN W.k y=0):Ur W.k (aR W.n.length y) []=0:=by
 obtain⟨h1,h2,h3,_⟩:=Xi h
 have n0:∀ m,W9 W.k (aR m y)=0:=by
  intro m
  induction m with
  | zero=>rfl
  | succ m ih=>rw[List.replicate_succ,W9,if_neg (λq=>q hy),ih]
 unfold Ur;rw[if_neg (by rw[List.length_replicate];omega),if_neg (λq=>q h3),if_neg (by decide),if_neg (λq=>q (n0 _))];rfl
abbrev Yn:=Wd×Option Addr×Nat×Nat
def W8(x:Yn):List Value:=[E J x.1.1,E J x.1.2.1,E J x.1.2.2.1,E J x.1.2.2.2.1,E J x.1.2.2.2.2.1,.slice x.2.1 x.2.2.1 x.2.2.2]
def Z9(D:List Yn):List Value:=(D.map W8).flatten
def cfN(x y:Yn):Int:=orI (Jb x.1.2.2.1 y.1.2.2.1) (Jb x.1.1 y.1.1)
theorem ltN(x y:Yn):ltOf cfN x y=true↔lt2 x.1 y.1:=by
 unfold ltOf cfN orI Jb lt2;rw[decide_eq_true_eq]
 repeat' split
 all_goals omega
theorem Zbn(x y:Yn):ltOf cfN x y=false↔¬lt2 x.1 y.1:=by rw[<-ltN x y];simp
theorem swoN:Sort.SWO (ltOf cfN) where
 irrefl x:=(Zbn x x).2 (by unfold lt2;omega)
 trans x y z h1 h2:=(ltN x z).2 (Ph ((ltN x y).1 h1) ((ltN y z).1 h2))
 ntrans x y z h1 h2:=by
  rw[Zbn] at *;unfold lt2 at *;omega
theorem C9(x:Yn)(v:Value)(h:v∈W8 x):v.oneCell'=true:=by
 simp only[W8,aO,List.not_mem_nil,or_false] at h
 rcases h with rfl|rfl|rfl|rfl|rfl|rfl <;> rfl
theorem Wn(D:List Yn):Tr.Wid 6 (D.map W8):=λc hc=>by
 obtain⟨x,_,rfl⟩:=bN.1 hc;rfl
def NamAt(w:World)(x:Yn):Prop:=TxsAt w x.2.1 x.2.2.1 x.1.2.2.2.2.2/\SlOk x.2.1 x.2.2.1 x.2.2.2
theorem NamAt.later{w w':World}{x:Yn}(h:NamAt w x)(hb:ZD w w'):NamAt w' x:=⟨h.1.later hb,h.2⟩
def Grn(w w':World):Prop:=∃ q os,w'=Sort.grow (w.drewN q) os
theorem Grn.new{w v:World}(h:Grn w v)(o:Obj):Grn w (v.alloc o):=by
 obtain⟨q,os,rfl⟩:=h;exact⟨q,os++#[o],by rw[Sort.alloc_eq_grow,Sort.grow_grow]⟩
theorem Grn.draw{w v:World}(h:Grn w v):Grn w v.drew:=by
 obtain⟨q,os,rfl⟩:=h;exact⟨q+1,os,rfl⟩
theorem Grn.self(w):Grn w w:=⟨0,#[],by rw[Sort.grow_empty];rfl⟩
theorem Znq(x y:Yn)(w):Calls aB 229 #[.agg (W8 x).toArray,.agg (W8 y).toArray] w λe w'=>e = dF (E J (cfN x y))/\Grn w w':=by
 obtain⟨⟨s,p,h,k,o,T⟩,a,n,c⟩:=x;obtain⟨⟨s',p',h',k',o',T'⟩,a',n',c'⟩:=y;have ak:Hid (cfN ((s,p,h,k,o,T),a,n,c) ((s',p',h',k',o',T'),a',n',c')=orI (Jb h h') (Jb s s')):=rfl;obtain⟨X,hX⟩:=ZG ((w.alloc (dE #[E J s,E J p,E J h,E J k,E J o,F a n c] 322)).alloc (dE #[E J s',E J p',E J h',E J k',E J o',F a' n' c'] 322));have HB:Hid (Grn w X):=by rw[hX];exact ((Grn.self w).new _).new _
 have x0:X.cell? ⟨w.heap.size,0,none⟩=some (E J s):=by rw[hX];exact Ze (Zh _ _) (Zb (aG w (dE #[E J s,E J p,E J h,E J k,E J o,F a n c] 322)) 0 _ rfl)
 have x2:X.cell? ⟨w.heap.size,2,none⟩=some (E J h):=by rw[hX];exact Ze (Zh _ _) (Zb (aG w (dE #[E J s,E J p,E J h,E J k,E J o,F a n c] 322)) 2 _ rfl)
 have y0:X.cell? ⟨w.heap.size+1,0,none⟩=some (E J s'):=by
  rw[hX];have:=Zb (aG (w.alloc (dE #[E J s,E J p,E J h,E J k,E J o,F a n c] 322)) (dE #[E J s',E J p',E J h',E J k',E J o',F a' n' c'] 322)) 0 _ rfl;rwa [cL] at this
 have y2:X.cell? ⟨w.heap.size+1,2,none⟩=some (E J h'):=by
  rw[hX];have:=Zb (aG (w.alloc (dE #[E J s,E J p,E J h,E J k,E J o,F a n c] 322)) (dE #[E J s',E J p',E J h',E J k',E J o',F a' n' c'] 322)) 2 _ rfl;rwa [cL] at this
 change Calls aB 229 #[.agg #[E J s,E J p,E J h,E J k,E J o,F a n c],.agg #[E J s',E J p',E J h',E J k',E J o',F a' n' c']] w _
 go_enter func229,ntmps229;go_wp2_with fail;rw[<-hX];clear hX
 go_region_held3 (λw'=>Grn w w'/\w'.cell? ⟨w.heap.size,0,none⟩=some (E J s)/\w'.cell? ⟨w.heap.size,2,none⟩=some (E J h)/\w'.cell? ⟨w.heap.size+1,0,none⟩=some (E J s')/\w'.cell? ⟨w.heap.size+1,2,none⟩=some (E J h'))
  (first
  | exact⟨HB.draw,x0,x2,y0,y2⟩
  | (go_split_ands;exact⟨by assumption,by assumption,by assumption,by assumption,by assumption⟩)
  | (go_split_ands;exact⟨Grn.new (by assumption) _,Ze (Zh _ _) (by assumption),Ze (Zh _ _) (by assumption),Ze (Zh _ _) (by assumption),Ze (Zh _ _) (by assumption)⟩))
  (first
  | (go_at_call 231;refine (R0 _ _ _).mono ?_;rintro e w' ⟨rfl,rfl⟩)
  | (go_at_call 230;refine (El (Jb h h') (Jb s s') _ 2 _ ?_ ?_).mono ?_;exact (Z4 _ _ _ _).1;exact (Z4 _ _ _ _).2;rintro e w' ⟨rfl,rfl⟩))
 rename_i hH;have HH:=Zd hH.1;clear hH;go_wp2;go_ret;exact⟨by rw[Za ak];rfl,Za HH⟩
theorem Zke(x y:Yn)(o:Bool)(w:World)(ho:decide (x.1.1=y.1.1)=o):ZH 233 #[.agg (W8 x).toArray,.agg (W8 y).toArray] w (dI o):=by
 obtain⟨⟨s,p,h,k,i,T⟩,a,n,c⟩:=x;obtain⟨⟨s',p',h',k',i',T'⟩,a',n',c'⟩:=y;have ae:Hid ((s == s')=o):=by rw[<-ho];rfl
 have HB:Hid (∀ o1 o2,ZD w ((w.alloc o1).alloc o2)):=λo1 o2=>Zf (Zh _ _) (Zh _ _);clear ho
 change Calls aB 233 #[.agg #[E J s,E J p,E J h,E J k,E J i,F a n c],.agg #[E J s',E J p',E J h',E J k',E J i',F a' n' c']] w _
 go_enter func233,ntmps233;go_wp2;go_ret;exact⟨by rw[Za ae];rfl,HB _ _⟩
theorem Zgo{w:World}{base g cap n:Nat}{D:List Yn}(hn:D.length=n)(h:w.ownsRow base 322 6 (F (some ⟨g,0,none⟩) n cap) n (Z9 D)):Sort.HoldsK W8 6 w g 0 D.toArray:=by
 subst hn;intro j hj;rw[Sort.size_flatK,List.size_toArray] at hj
 have hf:w.frozen? ⟨g,0+j,none⟩=false:=by
  rcases h.2 with ⟨e,_⟩|⟨g',af,ag,e,_,hh,_⟩
  ·cases e
  ·cases e;exact Zg hh _
 refine⟨?_,hf⟩;have hi:j / 6<D.length:=by omega
 rw[Nat.zero_add,World.ownsRow.cellAt h j hj,id,Sort.get_flatK W8 6 D.toArray j (by simpa using hj)];have hr:j % 6<6:=Nat.mod_lt _ (by decide);have e:=Tr.wid_at (Wn D) (j / 6) (by simpa using hi) (j % 6) hr;rw[show j / 6*6+j % 6=j by omega] at e;unfold Z9;rw[e,getElem!_pos D.toArray (j / 6) (by simpa using hi),List.getElem_map,List.getElem_toArray,aZ (by show _<6;exact hr),getElem!_pos _ _ (by show _<6;exact hr)]
theorem Zbb{w:World}{base g cap n m:Nat}{D}{d:Array Yn}{os:Array Obj}(h:w.ownsRow base 322 6 (F (some ⟨g,0,none⟩) n cap) n (Z9 D))(hd:d.size=n) :
  (sortWorldK W8 6 w g 0 m d os).ownsRow base 322 6 (F (some ⟨g,0,none⟩) n cap) n (Z9 d.toList)/\Gr w (sortWorldK W8 6 w g 0 m d os) (λq=>q=g):=by
 have hl:(Z9 d.toList).length=n*6:=by
  unfold Z9;rw[Tu (Wn _),List.length_map,Array.length_toList,hd]
 rcases h.2 with ⟨e,_⟩|⟨g',ap,ac,e,h1,h2,h3,h4,h5,h6⟩
 ·cases e
 cases e;have an:=aA h2;have hs:(Sort.putRowK W8 6 (Sort.ahead w m) g 0 d).heap.size=w.heap.size:=by rw[Sort.size_putRowK];rfl
 have hb:∀ b,b≠g->(Sort.putRowK W8 6 (Sort.ahead w m) g 0 d).heap[b]? = w.heap[b]?:=λb hb=>by
  unfold Sort.putRowK Sort.putRow Sort.mapBlock;simp only[Array.getElem?_modify];rw[if_neg (λe=>hb e.symm)];rfl
 have hg:(Sort.putRowK W8 6 (Sort.ahead w m) g 0 d).heap[g]? = some (dE (Sort.putCells id 0 (Sort.flatK W8 6 d) ac) 322 (0,0)):=by
  unfold Sort.putRowK Sort.putRow Sort.mapBlock;simp only[Array.getElem?_modify];rw[if_pos trivial];show (w.heap[g]?).map _=_;rw[h2];rfl
 have ae:∀ b,b<w.heap.size->(sortWorldK W8 6 w g 0 m d os).heap[b]? = (Sort.putRowK W8 6 (Sort.ahead w m) g 0 d).heap[b]?:=λb hb=>by
  unfold sortWorldK Sort.grow;show ((Sort.putRowK W8 6 (Sort.ahead w m) g 0 d).heap++os)[b]? = _;rw[Array.getElem?_append_left (by rw[hs];exact hb)]
 refine⟨⟨hl,.inr ⟨g,cap,Sort.putCells id 0 (Sort.flatK W8 6 d) ac,rfl,h1,(ae g an).trans hg,h3,h4,?_,?_⟩⟩,⟨rfl,rfl,rfl,?_,λb ak aj=>(ae b ak).trans (hb b aj)⟩⟩
 ·unfold Sort.putCells;rw[Array.size_mapIdx];exact h5
 ·have hc:ac.toList.length=cap*6:=by simpa using h5
  have hm:n*6<=cap*6:=Nat.mul_le_mul_right _ h3;refine List.ext_getElem? (λj=>?_);by_cases hj:j<n*6
  ·rw[List.getElem?_take_of_lt hj];have hi:j / 6<d.toList.length:=(by rw[Array.length_toList,hd];omega);have hr:j % 6<6:=Nat.mod_lt _ (by decide);have e:=Tr.wid_at (Wn d.toList) (j / 6) (by simpa using hi) (j % 6) hr;rw[show j / 6*6+j % 6=j by omega] at e;unfold Z9;rw[e,Array.getElem?_toList];unfold Sort.putCells;rw[Array.getElem?_mapIdx,Array.getElem?_eq_getElem (by omega),Option.map_some,if_pos ⟨aI _,by rw[Sort.size_flatK,hd];omega⟩,Nat.sub_zero,Sort.get_flatK W8 6 d j (by rw[hd];exact hj),id,getElem!_pos d (j / 6) (by rw[hd];omega),List.getElem_map,aZ (by show _<6;exact hr),getElem!_pos _ _ (by show _<6;exact hr)];simp
  ·rw[List.getElem?_eq_none (by rw[List.length_take];omega),List.getElem?_eq_none (by rw[hl];omega)]
 ·unfold sortWorldK;rw[Sort.size_grow,hs];omega
theorem Zqg{n:Nat}{d d':Array Yn}(h:Sort.PermIn 0 n d d')(hn:d.size=n):d'.toList.Perm d.toList:=by
 have h1:=h.2.2;have ac:d'.size=n:=h.1.trans hn;rw[show d.extract 0 n=d by rw[<-hn];simp,show d'.extract 0 n=d' by rw[<-ac];simp] at h1;exact h1
theorem srt_N{n:Nat}{d:Array Yn}(h:Sort.SortedIn (ltOf cfN) 0 n d)(hn:d.size=n):(d.toList.map (·.1)).Pairwise (λa b=>¬lt2 b a):=by
 rw[List.pairwise_map,List.pairwise_iff_getElem];intro i j hi hj ab;rw[Array.length_toList] at hi hj;have q:=h i j (aI _) ab (by omega);rw[getElem!_pos d i hi,getElem!_pos d j hj] at q;simpa using (Zbn _ _).1 q
theorem Zaq(base g n cap:Nat)(D:List Yn)(w:World)(hn:D.length=n)(hm:n<=4096)(h:w.ownsRow base 322 6 (F (some ⟨g,0,none⟩) n cap) n (Z9 D)) :
  Calls aB 228 #[F (some ⟨g,0,none⟩) n cap,.func (.func 229) #[] #[]] w λe w'=>e = dF (dG #[])/\∃ D':List Yn,D'.Perm D/\(D'.map (·.1)).Pairwise (λa b=>¬lt2 b a)/\w'.ownsRow base 322 6 (F (some ⟨g,0,none⟩) n cap) n (Z9 D')/\Gr w w' (λq=>q=g):=by
 have ah:g<w.heap.size:=(h.lt g rfl).2;have eg:∀ args w,(callFunc 229 args).run aB w = .ok (.enter 229 args) w:=enters_of func229 (by kernel_rfl) rfl;have hs:D.toArray.size=n:=by simpa using hn
 have ab:=AnyQ.slices_SortFunc Tryz.sortNam 6 Tryz.isAgg322 Tryz.sizeOf322 W8 (λ_=>rfl) C9 cfN swoN 229 #[] g 0 cap D.toArray w eg (λ_ _ _ _ x y=>Znq x y _) (Zgo hn h) ah (by rw[hs];omega);rw[hs] at ab
 change Calls aB 228 _ _ _ at ab
 refine ab.mono ?_;rintro e w' ⟨rfl,d',m,os,hp,hS,rfl⟩;have hd:d'.size=n:=hp.1.trans hs;obtain⟨o,gr⟩:=Zbb (m:=m) (os:=os) h hd;exact⟨rfl,d'.toList,by simpa using Zqg hp hs,srt_N hS hd,o,gr⟩
