import Derived.Test.YtmomfkikogbdeaaGreatDoorH
import Derived.Test.YtmomfkikogbdeaaGreatDoorG35
open Go.Proofs.Tryz
open Decidable renaming not_not->aT
open Go renaming lt_of_block->aA,bodyPost_ret->bB
open Go.Ending renaming returned->dF
open Go.IntKind renaming i64->J
open Go.Obj renaming cells->dE
open Go.Value renaming int->E,slice->F,tuple->dG,pointer->dH
open Go.World renaming block_lt_of_cell?->aE
open List renaming length_append->cJ,map_cons->bY
open Prod.mk renaming injEq->aU
set_option maxHeartbeats 12800000
set_option maxRecDepth 10000
namespace Go.Proofs.YtmomfkikogbdeaaGreatDoor
open Go.RowKit
theorem Wa{K N T P}{tip:Int}(h:opE K N T P tip=0):Bk.bkChk K=0/\Tr.bstD N T=(tip,0)/\(Z1 K N T noB).1=0/\poE K N T P tip (Z1 K N T noB).2=0:=by
 unfold opE at h;split at h
 ·rename_i q;exact absurd h q
 rename_i h1;split at h
 ·rename_i q;exact absurd h q
 rename_i h2;split at h
 ·cases h
 rename_i h3;split at h
 ·rename_i q;exact absurd h q
 rename_i h4;refine⟨aT.1 h1,?_,aT.1 h4,h⟩;exact Prod.ext (aT.1 h3) (aT.1 h2)
section
variable (ka:Option Addr)(kn kc:Nat)(K:List ByteArray)(na ba pa:Option Addr)(nn nc bn bc pn pc:Nat)(N:List Int)(T:List Zk)(P:List TxD)(tip x:Int)(w:World)
theorem Zgd(hE:Env w)(hK:Bk.TextsAt w ka kn K)(hN:Tr.IntsAt w na nn N)(hT:Tr.BlksAt w ba bn T)(hP:TxsAt w pa pn P)(sN:SlOk na nn nc)(sT:SlOk ba bn bc)(sP:SlOk pa pn pc)(hp:pn<=2513169434916)(hq:∀ t∈P,Tr.TxSmall t)(hx:opE K N T P tip = x):ZH 39 #[.agg #[F ka kn kc],.agg #[F na nn nc,F ba bn bc,F pa pn pc,E J tip]] w (E J x):=by
 obtain⟨X,hX⟩:=ZG (Yv w [dE #[F ka kn kc] 24,dE #[F na nn nc,F ba bn bc,F pa pn pc,E J tip] 67]);have af:X=(w.alloc (dE #[F ka kn kc] 24)).alloc (dE #[F na nn nc,F ba bn bc,F pa pn pc,E J tip] 67):=hX;have aa:ZD w X:=by rw[hX];exact Zs _ _
 have x0:=kl0 hX _ _ rfl;have x1:=kl hX 1 _ _ rfl;obtain⟨C1,ah⟩:=kh2 (Kw ka kn kc K na ba pa nn nc bn bc pn pc N T P tip x X (hE.later aa) (hK.later aa) (hN.later aa) (hT.later aa) (hP.later aa) sN sT sP hp hq hx) aa;have t0:=Zb x0 0 _ rfl;obtain⟨t1,t2,t3,t4,-⟩:=kc4 x1;have tl:=aA x0;have au:=aA x1;clear hE hK hN hT hP sN sT sP hp hq hx aa x0 x1 hX;go_enter func39,ntmps39;go_wp2_with fail;rw[<-af];clear af;(try go_wp2_with fail);refine C1.mono ?_;rintro e w1 ⟨ag,hr⟩;have ae:=Zd (Zf ah ag);clear ag C1 t0 t1 t2 t3 t4 tl au
 rcases hr with ⟨h0,rfl⟩|⟨h0,d,bm,m,rfl,_,_,_,_⟩
 ·go_wp2;go_ret;exact⟨rfl,Za ae⟩
 ·subst h0;go_wp2;go_ret;exact⟨rfl,Za ae⟩
theorem Nv(hE:Env w)(hK:Bk.TextsAt w ka kn K)(hN:Tr.IntsAt w na nn N)(hT:Tr.BlksAt w ba bn T)(hP:TxsAt w pa pn P)(sN:SlOk na nn nc)(sT:SlOk ba bn bc)(sP:SlOk pa pn pc)(hp:pn<=2513169434916)(hq:∀ t∈P,Tr.TxSmall t)(hx:opE K N T P tip = x)(C)(hC:(if x=0 then (Z1 K N T noB).2 tip else [])=C):Calls Tryz.prog 40 #[.agg #[F ka kn kc],.agg #[F na nn nc,F ba bn bc,F pa pn pc,.int .i64 tip]] w λe w'=>∃ a n c,e = dF (.tuple #[F a n c,.int .i64 x])/\CoinsAt w' a n C/\SlOk a n c/\ZD w w':=by
 obtain⟨X,hX⟩:=ZG (Yv w [dE #[F ka kn kc] 24,dE #[F na nn nc,F ba bn bc,F pa pn pc,.int .i64 tip] 67]);have ax:X=(w.alloc (dE #[F ka kn kc] 24)).alloc (dE #[F na nn nc,F ba bn bc,F pa pn pc,.int .i64 tip] 67):=hX;have aa:ZD w X:=by rw[hX];exact Zs _ _
 have x0:=kl0 hX _ _ rfl;have x1:=kl hX 1 _ _ rfl;have C1:=Zd (Kw ka kn kc K na ba pa nn nc bn bc pn pc N T P tip x X (hE.later aa) (hK.later aa) (hN.later aa) (hT.later aa) (hP.later aa) sN sT sP hp hq hx);have ag:Hid (x=0->(Lit.int .i64 tip).wf=true):=λe=>(He (Wa (hx.trans e)).2.1).1;obtain⟨be,HC⟩:=kh2 aa hC;have t0:=Zb x0 0 _ rfl;obtain⟨t1,t2,t3,t4,-⟩:=kc4 x1;have tl:=aA x0;have br:=aA x1;clear hE hK hN hT hP sN sT sP hp hq hx aa x0 x1 hX hC;go_enter func40,ntmps40;go_wp2_with fail;rw[<-ax];clear ax;(try go_wp2_with fail);refine C1.mono ?_;rintro e w1 ⟨ay,hr⟩;have an:=Zd (Zf be ay);clear ay C1 t0 t1 t2 t3 t4 tl br
 rcases hr with ⟨h0,rfl⟩|⟨h0,d,bm,m,rfl,hD,_,_,_⟩
 ·have gy:(x != 0)=true:=by simp[h0]
  have hc:=Za HC;rw[if_neg h0] at hc;have af:Hid (∃ a n c,(Ending.returned (.tuple #[F none 0 0,.int .i64 x])) = dF (.tuple #[F a n c,.int .i64 x])/\CoinsAt w1 a n C/\SlOk a n c/\ZD w w1):=⟨none,0,0,rfl,hc ▸ RowsAt.nil _ _,Zu,Za an⟩;clear hc HC ag;go_wp2;go_ret2;exact Za af
 ·subst h0;obtain⟨k1,k1n,k1c,n1,n1n,n1c,b1,b1n,b1c,p1,p1n,p1c,f,hq⟩:=hD;obtain⟨ca,cn,cc,hf,aj,sc⟩:=hq.c tip;have hc:=Za HC;rw[if_pos rfl] at hc;rw[hc] at aj;have D2:=Zd (Rj hq (ag rfl));rw[hf] at D2;obtain⟨ap,aq⟩:=kh2 aj sc;clear hq aj sc hf hc HC ag;go_wp2_with fail;refine D2.mono ?_;rintro e w2 ⟨rfl,ah⟩;have af:Hid (∃ a n c,(Ending.returned (.tuple #[F ca cn cc,.int .i64 0])) = dF (.tuple #[F a n c,.int .i64 0])/\CoinsAt w2 a n C/\SlOk a n c/\ZD w w2):=⟨ca,cn,cc,rfl,ap.later ah,Za aq,Zf an ah⟩;clear ah ap aq D2;go_wp2;go_ret2;exact Za af
end
theorem KeptOn.on{Z Z':Nat->Prop}{w w'}{d bm:Nat}{D:Dsk}(h:KeptOn Z w d bm D)(g:Gr w w' Z')(hz:∀ q,Z' q->Z q)(hd:¬Z' d):KeptOn Z w' d bm D:=by
 obtain⟨q1,q2,q3,q4,q5,q6,q7,q8,q9,ae,af,ag,box,dat,s⟩:=h;exact⟨q1,q2,q3,q4,q5,q6,q7,q8,q9,ae,af,ag,g.heap box hd,λW g2=>dat W ((g.mono (λq _ e=>.inr (.inr (hz q e)))).trans g2),s⟩
theorem Znr{D:Dsk}{wk no:Int}{lk}(h:(mnR D wk no lk).1≠0):(mnR D wk no lk).2.1=Yx:=by
 unfold mnR at h ⊢;split
 ·rfl
 rename_i h1;rw[if_neg h1] at h;split
 ·rfl
 rename_i h2;rw[if_neg h2] at h;exact absurd rfl h
def Zrq(bb:Nat)(b:Zk)(B:Nat)(V:World):Prop:=
 ∃ a n c,V.heap[bb]? = some (dE [E J b.1,E J b.2.1,E J b.2.2.1,E J b.2.2.2.1,F a n c].toArray 39 (0,0))/\(∀ W,Gr V W (λq=>q<B)->TxsAt W a n b.2.2.2.2)/\SlOk a n c
theorem Znv(w:World)(b1 b2 b3 bb:Nat)(wk no:Int)(la ln lc l K N T P)(tip:Int)(β : Int->List Zj)(x:Int)(b:Zk)(D':Dsk)(hE:Env w)(hl:OpsAt w la ln l)(sl:SlOk la ln lc)(hn:ln<=8796093022208)(ht:(Lit.int .i64 tip).wf=true)(h1:0<=Xz N T tip)(h2:Xz N T tip<=1000)
  (c1:w.cell? ⟨b1,0,none⟩=some (.int .i64 wk)) (c2:w.cell? ⟨b2,0,none⟩=some (.int .i64 no)) (c3:w.cell? ⟨b3,0,none⟩=some (F la ln lc)) (ab:w.heap[bb]? = some (dE [.int .i64 0,.int .i64 0,.int .i64 0,.int .i64 0,F none 0 0].toArray 39 (0,0))) (hx:mnR ⟨K,N,T,P,tip,β⟩ wk no l=(x,b,D')) :
  DoC 112 #[.pointer (some ⟨b1,0,none⟩),.pointer (some ⟨b2,0,none⟩),.pointer (some ⟨b3,0,none⟩),.pointer (some ⟨bb,0,none⟩)] w (λq=>q=bb) ⟨K,N,T,P,tip,β⟩ x D' (Zrq bb b) where
 enters:=enters_of (fn:=Tryz.f112) (by kernel_rfl) (by kernel_rfl) rfl
 old q e:=by have e:q=bb:=e;exact e ▸ aA ab
 on B V V':=by
  rintro ⟨a,n,c,h1,h2,h3⟩ g;have lb:=aA ab;refine⟨a,n,c,g.heap h1 (λe=>by have:=e.1;omega),λW g2=>h2 W ((g.mono (λq _ e=>e.2)).trans g2),h3⟩
 call B V d bm m hB hV hD hd hbm hm:=by
  obtain⟨k1,k1n,k1c,n1,n1n,n1c,t1,cg,cf,p1,p1n,p1c,f,hq⟩:=hD;have lb:=aA ab;have C1:=Zd (Zlg hq w hV hE (by omega) (by omega) (by omega) ht h1 h2 wk no la ln lc l (hl.later hV) sl hn x b D' hx);have ap:=(hV.block _ lb).trans ab;have q1:=Ze hV c1;have q2:=Ze hV c2;have q3:=Ze hV c3;have bi:=aE _ _ q1;have bj:=aE _ _ q2;have bk:=aE _ _ q3;obtain⟨ag,bo,bf⟩:=kh3 ap hV.size (aA hq.box);clear hq hE hl sl hn ht h1 h2 hx ap ab c1 c2 c3;show Calls Tryz.prog 112 #[.pointer (some ⟨d,0,none⟩),.pointer (some ⟨b1,0,none⟩),.pointer (some ⟨b2,0,none⟩),.pointer (some ⟨b3,0,none⟩),.pointer (some ⟨bb,0,none⟩)] V _;go_enter func112,ntmps112;go_wp2_with fail;refine C1.mono ?_;rintro e w1 ⟨a5,n5,c5,rfl,hF,s5,g1,hk⟩;dsimp only[Rn];have ad:=g1.heap ag (by rintro (e|e) <;> omega);obtain⟨r0,r1,r2,r3,r4,f0,f1,f2,f3,f4,rl⟩:=kf5 ad
  have be:Hid (∀ W,W=(((((w1.setCell ⟨bb,0,none⟩ (.int .i64 b.1)).setCell ⟨bb,1,none⟩ (.int .i64 b.2.1)).setCell ⟨bb,2,none⟩ (.int .i64 b.2.2.1)).setCell ⟨bb,3,none⟩ (.int .i64 b.2.2.2.1)).setCell ⟨bb,4,none⟩ (F a5 n5 c5))->Gr V W (λq=>q=d\/q=bm\/q=bb)/\(x=0->KeptOn (λq=>q<B) W d bm D')/\Zrq bb b B W):=λW hW=>by
   have g2:Gr w1 W (λq=>q=bb):=(by rw[hW];exact (Gr.refl w1 (λq=>q=bb)).five bb (.inl rfl) _ _ _ _ _);have bv:V.heap.size≥B:=(by have:=Za bf;omega);refine⟨(g1.mono (λq _ e=>?_)).trans (g2.mono (λq _ e=>.inr (.inr e))),λe=>(hk e).on g2 (λq e=>?_) (λe=>?_),a5,n5,c5,?_,λW2 g3=>hF W2 ((g2.mono (λq _ e=>?_)).trans (g3.mono (λq _ e=>?_))),s5⟩
   ·rcases e with e|e
    ·exact .inl e
    ·exact .inr (.inl e)
   ·have e:q=bb:=e;show q<B;omega
   ·have e:d=bb:=e;omega
   ·rw[hW];exact Tr.set_cells (Tr.set_cells (Tr.set_cells (Tr.set_cells (Tr.set_cells ad 0 _) 1 _) 2 _) 3 _) 4 _
   ·have e:q=bb:=e;show q<V.heap.size;omega
   ·have e:q<B:=e;show q<V.heap.size;omega
  clear hF s5 g1 hk ad C1 ag q1 q2 q3 bi bj bk;go_wp2;go_ret;exact⟨rfl,be _ rfl⟩
def nmR(K:List ByteArray)(N:List Int)(T:List Zk)(P:List TxD)(tip wk no:Int)(l:List (Int×Int)):Int×Zk×Dsk:=
 if opE K N T P tip≠0 then (opE K N T P tip,Yx,Dsk.none) else
 if (mnR ⟨K,N,T,P,tip,(Z1 K N T noB).2⟩ wk no l).1≠0 then ((mnR ⟨K,N,T,P,tip,(Z1 K N T noB).2⟩ wk no l).1,Yx,Dsk.none) else
 (0,(mnR ⟨K,N,T,P,tip,(Z1 K N T noB).2⟩ wk no l).2.1,(mnR ⟨K,N,T,P,tip,(Z1 K N T noB).2⟩ wk no l).2.2)
def NmkR(w w':World)(x:Int)(b:Zk)(D:Dsk)(e:Ending):Prop:=
 ∃ ka kn kc na nn nc ba bn bc pa pn pc a n c,e = dF (dG #[.agg #[F ka kn kc],.agg #[F na nn nc,F ba bn bc,F pa pn pc,E J D.tip],Rn b a n c,E J x]) /\
  Fresh w.heap.size w' (λw2=>Uo w2 ka kn D.k na nn D.n ba bn D.t pa pn D.p/\TxsAt w2 a n b.2.2.2.2)/\SlOk ka kn kc/\SlOk na nn nc/\SlOk ba bn bc/\SlOk pa pn pc/\SlOk a n c/\ZD w w'
theorem T8{fn:Func}{p q r u:Tmp}{ty tz tv:TypeId}(h:fn.results=#[.cell p ty,.cell q tz,.cell r tv,.tmp u])(tmps:Array Value)(P:Program)(w) :
  (results fn tmps).run P w =
   ((asAddr (tmps.getD p undef)).run P w).andThen λa w₁=>((loadVar ty a).run P w₁).andThen λx w₂=>((asAddr (tmps.getD q undef)).run P w₂).andThen λb w₃=>((loadVar tz b).run P w₃).andThen λy w₄=>((asAddr (tmps.getD r undef)).run P w₄).andThen λc w₅=>((loadVar tv c).run P w₅).andThen λz w₆=>.ok (dG #[x,y,z,tmps.getD u undef]) w₆:=by
 simp only[results,h];simp[Sem.run_bind,Result.andThen]
theorem Zkf(ka kn kc K na ba pa nn nc bn bc pn pc N T P)(tip:Int)(w)(hE:Env w)(hK:Bk.TextsAt w ka kn K)(hN:Tr.IntsAt w na nn N)(hT:Tr.BlksAt w ba bn T)(hP:TxsAt w pa pn P)(sN:SlOk na nn nc)(sT:SlOk ba bn bc)(sP:SlOk pa pn pc)(hp:pn<=2513169434916)(hq:∀ t∈P,Tr.TxSmall t)
  (wk no:Int) (la ln lc l) (hl:OpsAt w la ln l) (sl:SlOk la ln lc) (hn:ln<=8796093022208) (x:Int) (b:Zk) (D:Dsk) (hx:nmR K N T P tip wk no l=(x,b,D)) :
  Calls Tryz.prog 43 #[.agg #[F ka kn kc],.agg #[F na nn nc,F ba bn bc,F pa pn pc,E J tip],E J wk,E J no,F la ln lc] w λe w'=>NmkR w w' x b D e:=by
 obtain⟨X,hX⟩:=ZG (Yv w [dE #[F ka kn kc] 24,dE #[F na nn nc,F ba bn bc,F pa pn pc,E J tip] 67,dE #[E J wk] 3,dE #[E J no] 3,dE #[F la ln lc] 48,dE #[F none 0 0] 24,dE #[F none 0 0,F none 0 0,F none 0 0,E J 0] 67,dE #[E J 0,E J 0,E J 0,E J 0,F none 0 0] 39]);have cq:X=(((((((w.alloc (dE #[F ka kn kc] 24)).alloc (dE #[F na nn nc,F ba bn bc,F pa pn pc,E J tip] 67)).alloc (dE #[E J wk] 3)).alloc (dE #[E J no] 3)).alloc (dE #[F la ln lc] 48)).alloc (dE #[F none 0 0] 24)).alloc (dE #[F none 0 0,F none 0 0,F none 0 0,E J 0] 67)).alloc (dE #[E J 0,E J 0,E J 0,E J 0,F none 0 0] 39):=hX;have ax:ZD w X:=by rw[hX];exact Zs _ _
 have ct:X.heap.size=w.heap.size+8:=by rw[hX];exact Z0 _ _
 have bt:=kl0 hX _ _ rfl;have bv:=kl hX 1 _ _ rfl;have dl:=kl hX 2 _ _ rfl;have dm:=kl hX 3 _ _ rfl;have dn:=kl hX 4 _ _ rfl;have dp:=kl hX 5 _ _ rfl;have dq:=kl hX 6 _ _ rfl;have bx:=kl hX 7 _ _ rfl;obtain⟨x0,bs⟩:=ZF (opE K N T P tip);obtain⟨⟨x1,b1,D1⟩,bh⟩:=ZF (mnR ⟨K,N,T,P,tip,(Z1 K N T noB).2⟩ wk no l)
 have cx:x1≠0->b1=Yx:=λe=>by
  have:=Znr (D:=⟨K,N,T,P,tip,(Z1 K N T noB).2⟩) (wk:=wk) (no:=no) (lk:=l) (by rw[bh];exact e);rw[bh] at this;exact this
 unfold nmR at hx;simp only[bs,bh] at hx
 have C1:=Zd (Kx ka kn kc K na ba pa nn nc bn bc pn pc N T P tip x0 X (hE.later ax) (hK.later ax) (hN.later ax) (hT.later ax) (hP.later ax) sN sT sP hp hq bs 112 #[dH (some ⟨w.heap.size+2,0,none⟩),dH (some ⟨w.heap.size+3,0,none⟩),dH (some ⟨w.heap.size+4,0,none⟩),dH (some ⟨w.heap.size+7,0,none⟩)] (λq=>q=w.heap.size+7) x1 D1 (Zrq (w.heap.size+7) b1) (λe=>by
  have o:=Wa (bs.trans e);have bw:=He o.2.1;exact Znv X (w.heap.size+2) (w.heap.size+3) (w.heap.size+4) (w.heap.size+7) wk no la ln lc l K N T P tip _ x1 b1 D1 (hE.later ax) (hl.later ax) sl hn bw.1 bw.2.1 bw.2.2 (Zb dl 0 _ rfl) (Zb dm 0 _ rfl) (Zb dn 0 _ rfl) bx bh))
 obtain⟨HX,ca,cb,cm,cg,cj,cl⟩:=kh7 hx cx ax ct dp dq bx;have t0:=Zb bt 0 _ rfl;obtain⟨t1,t2,t3,t4,-⟩:=kc4 bv;have tl:=aA bt;have ed:=aA bv;clear hE hK hN hT hP sN sT sP hp hq hx hl sl hn bs bh cx ax ct bt bv dl dm dn dp dq bx hX;go_enter func43,ntmps43;go_wp2_with fail;rw[<-cq];clear cq;(try go_wp2_with fail);refine C1.mono ?_;intro e w1 hr
 obtain⟨k5,ab,ac,n5,ag,am,b5,ae,ak,p5,aj,an,a7,n7,c7,rfl,hF,s1,s2,s3,s4,s7,cw,g1⟩:∃ k5 ab ac n5 ag am b5 ae ak p5 aj an a7 n7 c7,e = dF (dG #[.agg #[F k5 ab ac],.agg #[F n5 ag am,F b5 ae ak,F p5 aj an,E J D.tip],E J x]) /\
   Fresh X.heap.size w1 (λw2=>Uo w2 k5 ab D.k n5 ag D.n b5 ae D.t p5 aj D.p/\TxsAt w2 a7 n7 b.2.2.2.2)/\SlOk k5 ab ac/\SlOk n5 ag am/\SlOk b5 ae ak/\SlOk p5 aj an/\SlOk a7 n7 c7 /\
   w1.heap[w.heap.size+7]? = some (dE [E J b.1,E J b.2.1,E J b.2.2.1,E J b.2.2.2.1,F a7 n7 c7].toArray 39 (0,0))/\Gr X w1 (λq=>q=w.heap.size+7):=by
  have aw:=Za HX
  rcases hr with ⟨h0,⟨k5,ab,ac,n5,ag,am,b5,ae,ak,p5,aj,an,he,hF,s1,s2,s3,s4⟩,hb⟩|⟨h0,g,⟨a7,n7,c7,cy,cp,s7⟩,hr⟩
  ·rw[if_pos h0] at aw;simp only[aU] at aw;obtain⟨rfl,rfl,rfl⟩:=aw;exact⟨k5,ab,ac,n5,ag,am,b5,ae,ak,p5,aj,an,none,0,0,he,λW g=>⟨hF W g,RowsAt.nil _ _⟩,s1,s2,s3,s4,Zu,ZE hb cl,Gr.of hb⟩
  ·rw[if_neg (λq=>q h0)] at aw
   rcases hr with ⟨h1,k5,ab,ac,n5,ag,am,b5,ae,ak,p5,aj,an,he,hF,s1,s2,s3,s4⟩|⟨h1,k5,ab,ac,n5,ag,am,b5,ae,ak,p5,aj,an,he,hF,s1,s2,s3,s4⟩
   ·rw[if_pos h1] at aw;simp only[aU] at aw;obtain⟨rfl,rfl,rfl⟩:=aw;have dw:=ca h1;subst dw;exact⟨k5,ab,ac,n5,ag,am,b5,ae,ak,p5,aj,an,a7,n7,c7,he,λW g=>⟨hF W g,cp W (g.mono (λq _ e=>by have e:q<X.heap.size:=e;show q<X.heap.size+4;omega))⟩,s1,s2,s3,s4,s7,cy,g⟩
   ·rw[if_neg (λq=>q h1)] at aw;simp only[aU] at aw;obtain⟨rfl,rfl,rfl⟩:=aw;exact⟨k5,ab,ac,n5,ag,am,b5,ae,ak,p5,aj,an,a7,n7,c7,he,λW g=>⟨hF W g,cp W (g.mono (λq _ e=>by have e:q<X.heap.size:=e;show q<X.heap.size+4;omega))⟩,s1,s2,s3,s4,s7,cy,g⟩
 have h5:=g1.heap cg (λe=>by have e:w.heap.size+5=w.heap.size+7:=e;omega);have h6:=g1.heap cj (λe=>by have e:w.heap.size+6=w.heap.size+7:=e;omega);obtain⟨o0,of,ol⟩:=kf1 h5;obtain⟨p0,p1,p2,p3,dg,dh,di,dj,pl⟩:=kf4 h6;obtain⟨V,hV⟩:=ZG (((((w1.setCell ⟨w.heap.size+1+1+1+1+1,0,none⟩ (F k5 ab ac)).setCell ⟨w.heap.size+1+1+1+1+1+1,0,none⟩ (F n5 ag am)).setCell ⟨w.heap.size+1+1+1+1+1+1,1,none⟩ (F b5 ae ak)).setCell ⟨w.heap.size+1+1+1+1+1+1,2,none⟩ (F p5 aj an)).setCell ⟨w.heap.size+1+1+1+1+1+1,3,none⟩ (E J D.tip))
 have gV:Gr w1 V (λq=>q=w.heap.size+5\/q=w.heap.size+6\/q=w.heap.size+7):=by
  rw[hV];exact ((Gr.refl w1 (λq=>q=w.heap.size+5\/q=w.heap.size+6\/q=w.heap.size+7)).one (w.heap.size+5) 0 (.inl (.inl rfl)) _).four (w.heap.size+6) (.inl (.inr (.inl rfl))) _ _ _ _
 have v7:V.heap[w.heap.size+7]? = some (dE [E J b.1,E J b.2.1,E J b.2.2.1,E J b.2.2.2.1,F a7 n7 c7].toArray 39 (0,0)):=by
  rw[hV]
  have g:Gr w1 (((((w1.setCell ⟨w.heap.size+1+1+1+1+1,0,none⟩ (F k5 ab ac)).setCell ⟨w.heap.size+1+1+1+1+1+1,0,none⟩ (F n5 ag am)).setCell ⟨w.heap.size+1+1+1+1+1+1,1,none⟩ (F b5 ae ak)).setCell ⟨w.heap.size+1+1+1+1+1+1,2,none⟩ (F p5 aj an)).setCell ⟨w.heap.size+1+1+1+1+1+1,3,none⟩ (E J D.tip)) (λq=>q=w.heap.size+5\/q=w.heap.size+6):=
   ((Gr.refl w1 (λq=>q=w.heap.size+5\/q=w.heap.size+6)).one (w.heap.size+5) 0 (.inl (.inl rfl)) _).four (w.heap.size+6) (.inl (.inr rfl)) _ _ _ _
  exact g.heap cw (λe=>by omega)
 have v6:V.heap[w.heap.size+6]? = some (dE [F n5 ag am,F b5 ae ak,F p5 aj an,E J D.tip].toArray 67 (0,0)):=by
  rw[hV];have g:Gr w1 (w1.setCell ⟨w.heap.size+1+1+1+1+1,0,none⟩ (F k5 ab ac)) (λq=>q=w.heap.size+5):=(Gr.refl w1 (λq=>q=w.heap.size+5)).one (w.heap.size+5) 0 (.inl rfl) _;exact Tr.set_cells (Tr.set_cells (Tr.set_cells (Tr.set_cells (g.heap h6 (λe=>by have e:w.heap.size+6=w.heap.size+5:=e;omega)) 0 _) 1 _) 2 _) 3 _
 have v5:V.heap[w.heap.size+5]? = some (dE [F k5 ab ac].toArray 24 (0,0)):=by
  rw[hV];have g:Gr (w1.setCell ⟨w.heap.size+1+1+1+1+1,0,none⟩ (F k5 ab ac)) (((((w1.setCell ⟨w.heap.size+1+1+1+1+1,0,none⟩ (F k5 ab ac)).setCell ⟨w.heap.size+1+1+1+1+1+1,0,none⟩ (F n5 ag am)).setCell ⟨w.heap.size+1+1+1+1+1+1,1,none⟩ (F b5 ae ak)).setCell ⟨w.heap.size+1+1+1+1+1+1,2,none⟩ (F p5 aj an)).setCell ⟨w.heap.size+1+1+1+1+1+1,3,none⟩ (E J D.tip)) (λq=>q=w.heap.size+6):=(Gr.refl (w1.setCell ⟨w.heap.size+1+1+1+1+1,0,none⟩ (F k5 ab ac)) (λq=>q=w.heap.size+6)).four (w.heap.size+6) (.inl rfl) _ _ _ _;exact g.heap (Tr.set_cells h5 0 _) (λe=>by have e:w.heap.size+5=w.heap.size+6:=e;omega)
 obtain⟨cc,cd,ce,GV⟩:=kh4 v5 v6 v7 gV
 have dr:Hid (∀ W,Gr w1 W (λq=>q=w.heap.size+5\/q=w.heap.size+6\/q=w.heap.size+7)->NmkR w W x b D (dF (dG #[.agg #[F k5 ab ac],.agg #[F n5 ag am,F b5 ae ak,F p5 aj an,E J D.tip],.agg #[E J b.1,E J b.2.1,E J b.2.2.1,E J b.2.2.2.1,F a7 n7 c7],E J x]))):=λW g=>by
  have ef:=Za cm;refine⟨k5,ab,ac,n5,ag,am,b5,ae,ak,p5,aj,an,a7,n7,c7,rfl,λW2 g2=>hF W2 ((g.mono (λq _ e=>?_)).trans (g2.mono (λq _ e=>?_))),s1,s2,s3,s4,s7,?_⟩
  ·show q<X.heap.size;omega
  ·have e:q<w.heap.size:=e;show q<X.heap.size;omega
  ·have gX:Gr w X (λq=>False):=Gr.of cb;have gW:Gr w W (λ_=>False):=(gX.far g1 (λq e=>.inl (by have e:q=w.heap.size+7:=e;omega))).far g (λq e=>.inl (by omega));exact gW.below (Below.refl _ _) (Nat.le_refl _) (λ_ q=>q.elim)
 clear hr hF s1 s2 s3 s4 s7 cw g1 h5 h6 v5 v6 v7 gV HX ca cg cj cl C1 t0 t1 t2 t3 t4 tl ed cm cb
 go_upto_region 2 with fail
 rw[<-hV];clear hV o0 of ol p0 p1 p2 p3 dg dh di dj pl;have v5:=Za cc;have v6:=Za cd;have v7:=Za ce;obtain⟨o0,of,ol⟩:=kf1 v5;obtain⟨p0,p1,p2,p3,dg,dh,di,dj,pl⟩:=kf4 v6;obtain⟨q0,q1,q2,q3,q4,el,en,eo,ep,er,ql⟩:=kf5 v7;clear v5 v6 v7 cc cd ce
 go_region
 all_goals
  go_wp2;(try simp only[Exit.inBlock,Exit.then]);refine bB (v:=dG #[.agg #[F k5 ab ac],.agg #[F n5 ag am,F b5 ae ak,F p5 aj an,E J D.tip],.agg #[E J b.1,E J b.2.1,E J b.2.2.1,E J b.2.2.2.1,F a7 n7 c7],E J x]) ?_ rfl ?_
  ·rw[T8 rfl];go_simp
  ·exact dr _ (((((GV.one (w.heap.size+5) 0 (.inl (.inl rfl)) _).four (w.heap.size+6) (.inl (.inr (.inl rfl))) _ _ _ _).five (w.heap.size+7) (.inl (.inr (.inr rfl))) _ _ _ _ _).trans (Gr.of (Zi _))))
theorem Zmo{D:Dsk}{b:Zk}(h:(tkR D b).1≠0):(tkR D b).2.1=0:=by
 unfold tkR at h ⊢;split
 ·rfl
 rename_i h1;rw[if_neg h1] at h;split
 ·rfl
 rename_i h2;rw[if_neg h2] at h;split
 ·rfl
 rename_i h3;rw[if_neg h3] at h;split
 ·rfl
 rename_i h4;rw[if_neg h4] at h;simp only at h ⊢;split
 ·rfl
 rename_i h5;rw[if_neg h5] at h;exact absurd rfl h
def Zmb(bb:Nat)(nm:Int)(_B:Nat)(V:World):Prop:=V.heap[bb]? = some (dE [E J nm].toArray 3 (0,0))
theorem Zmq(w:World)(b1 bj:Nat)(p hh k o:Int)(a n c L K N T P)(tip:Int)(β : Int->List Zj)(x nm:Int)(D':Dsk)(hE:Env w)(hL:TxsAt w a n L)(sL:SlOk a n c)
  (ab:w.heap[b1]? = some (dE [E J p,E J hh,E J k,E J o,F a n c].toArray 39 (0,0))) (ac:w.heap[bj]? = some (dE [E J 0].toArray 3 (0,0))) (hx:tkR ⟨K,N,T,P,tip,β⟩ (p,hh,k,o,L)=(x,nm,D')) :
  DoC 99 #[dH (some ⟨b1,0,none⟩),dH (some ⟨bj,0,none⟩)] w (λq=>q=bj) ⟨K,N,T,P,tip,β⟩ x D' (Zmb bj nm) where
 enters:=enters_of (fn:=Tryz.f99) (by kernel_rfl) (by kernel_rfl) rfl
 old q e:=by have e:q=bj:=e;exact e ▸ aA ac
 on B V V':=by
  intro h1 g;have lb:=aA ac;exact g.heap h1 (λe=>by have:=e.1;omega)
 call B V d bm m hB hV hD hd hbm hm:=by
  obtain⟨k1,k1n,k1c,n1,n1n,n1c,t1,bi,bh,p1,p1n,p1c,f,hq⟩:=hD;have lb:=aA ac
  have C1:=Zd (Ed hq w hV hE (by omega) (by omega) (by omega) p hh k o a n c L (λW g=>by
   have gW:Gr w W (λ_=>False):=((Gr.of hV:Gr w V (λ_=>False))).far g (λq e=>.inl (by rcases e with e|e <;> omega));exact hL.later (gW.below (Below.refl _ _) (Nat.le_refl _) (λ_ q=>q.elim))) sL x nm D' hx)
  have ak:=(hV.block _ lb).trans ac;have aj:=ZE hV ab;obtain⟨q0,q1,q2,q3,q4,ql⟩:=kc5 aj;obtain⟨af,bb,az⟩:=kh3 ak hV.size (aA hq.box);clear hq hE hL sL hx ak ac ab aj;show Calls Tryz.prog 99 #[dH (some ⟨d,0,none⟩),dH (some ⟨b1,0,none⟩),dH (some ⟨bj,0,none⟩)] V _;go_enter func99,ntmps99;go_wp2_with fail;refine C1.mono ?_;rintro e w1 ⟨rfl,g1,hk⟩;have ab:=g1.heap af (by rintro (e|e) <;> omega);obtain⟨r0,f0,rl⟩:=kf1 ab
  have ap:Hid (∀ W,W=w1.setCell ⟨bj,0,none⟩ (E J nm)->Gr V W (λq=>q=d\/q=bm\/q=bj)/\(x=0->KeptOn (λq=>q<B) W d bm D')/\Zmb bj nm B W):=λW hW=>by
   have g2:Gr w1 W (λq=>q=bj):=(by rw[hW];exact (Gr.refl w1 (λq=>q=bj)).one bj 0 (.inl rfl) _);refine⟨(g1.mono (λq _ e=>?_)).trans (g2.mono (λq _ e=>.inr (.inr e))),λe=>(hk e).kept.on g2 (λq e=>?_) (λe=>?_),?_⟩
   ·rcases e with e|e
    ·exact .inl e
    ·exact .inr (.inl e)
   ·have e:q=bj:=e;show q<B;omega
   ·have e:d=bj:=e;omega
   ·rw[hW];exact Tr.set_cells ab 0 _
  clear g1 hk ab C1 af q0 q1 q2 q3 q4 ql;go_wp2;go_ret;exact⟨rfl,ap _ rfl⟩
def ntR(K:List ByteArray)(N:List Int)(T:List Zk)(P:List TxD)(tip:Int)(b:Zk):Int×Int×Dsk:=
 if opE K N T P tip≠0 then (opE K N T P tip,0,Dsk.none) else
 if (tkR ⟨K,N,T,P,tip,(Z1 K N T noB).2⟩ b).1≠0 then ((tkR ⟨K,N,T,P,tip,(Z1 K N T noB).2⟩ b).1,0,Dsk.none) else
 (0,(tkR ⟨K,N,T,P,tip,(Z1 K N T noB).2⟩ b).2.1,(tkR ⟨K,N,T,P,tip,(Z1 K N T noB).2⟩ b).2.2)
def NtkR(w w':World)(x nm:Int)(D:Dsk)(e:Ending):Prop:=
 ∃ ka kn kc na nn nc ba bn bc pa pn pc,e = dF (dG #[.agg #[F ka kn kc],.agg #[F na nn nc,F ba bn bc,F pa pn pc,E J D.tip],E J nm,E J x]) /\
  Fresh w.heap.size w' (λw2=>Uo w2 ka kn D.k na nn D.n ba bn D.t pa pn D.p)/\SlOk ka kn kc/\SlOk na nn nc/\SlOk ba bn bc/\SlOk pa pn pc/\ZD w w'
theorem Ch(ka kn kc K na ba pa nn nc bn bc pn pc N T P)(tip:Int)(w)(hE:Env w)(hK:Bk.TextsAt w ka kn K)(hN:Tr.IntsAt w na nn N)(hT:Tr.BlksAt w ba bn T)(hP:TxsAt w pa pn P)(sN:SlOk na nn nc)(sT:SlOk ba bn bc)(sP:SlOk pa pn pc)(hp:pn<=2513169434916)(hq:∀ t∈P,Tr.TxSmall t)
  (p hh k o:Int) (a n c L) (hL:TxsAt w a n L) (sL:SlOk a n c) (x nm:Int) (D:Dsk) (hx:ntR K N T P tip (p,hh,k,o,L)=(x,nm,D)) :
  Calls Tryz.prog 32 #[.agg #[F ka kn kc],.agg #[F na nn nc,F ba bn bc,F pa pn pc,E J tip],.agg #[E J p,E J hh,E J k,E J o,F a n c]] w λe w'=>NtkR w w' x nm D e:=by
 obtain⟨X,hX⟩:=ZG (Yv w [dE #[F ka kn kc] 24,dE #[F na nn nc,F ba bn bc,F pa pn pc,E J tip] 67,dE #[E J p,E J hh,E J k,E J o,F a n c] 39,dE #[F none 0 0] 24,dE #[F none 0 0,F none 0 0,F none 0 0,E J 0] 67,dE #[E J 0] 3]);have cf:X=(((((w.alloc (dE #[F ka kn kc] 24)).alloc (dE #[F na nn nc,F ba bn bc,F pa pn pc,E J tip] 67)).alloc (dE #[E J p,E J hh,E J k,E J o,F a n c] 39)).alloc (dE #[F none 0 0] 24)).alloc (dE #[F none 0 0,F none 0 0,F none 0 0,E J 0] 67)).alloc (dE #[E J 0] 3):=hX;have au:ZD w X:=by rw[hX];exact Zs _ _
 have cg:X.heap.size=w.heap.size+6:=by rw[hX];exact Z0 _ _
 have bi:=kl0 hX _ _ rfl;have bk:=kl hX 1 _ _ rfl;have dc:=kl hX 2 _ _ rfl;have dd:=kl hX 3 _ _ rfl;have de:=kl hX 4 _ _ rfl;have bo:=kl hX 5 _ _ rfl;obtain⟨x0,bh⟩:=ZF (opE K N T P tip);obtain⟨⟨x1,m1,D1⟩,be⟩:=ZF (tkR ⟨K,N,T,P,tip,(Z1 K N T noB).2⟩ (p,hh,k,o,L))
 have cm:x1≠0->m1=0:=λe=>by
  have:=Zmo (D:=⟨K,N,T,P,tip,(Z1 K N T noB).2⟩) (b:=(p,hh,k,o,L)) (by rw[be];exact e);rw[be] at this;exact this
 unfold ntR at hx;simp only[bh,be] at hx
 have C1:=Zd (Kx ka kn kc K na ba pa nn nc bn bc pn pc N T P tip x0 X (hE.later au) (hK.later au) (hN.later au) (hT.later au) (hP.later au) sN sT sP hp hq bh 99 #[dH (some ⟨w.heap.size+2,0,none⟩),dH (some ⟨w.heap.size+5,0,none⟩)] (λq=>q=w.heap.size+5) x1 D1 (Zmb (w.heap.size+5) m1) (λ_=>
  Zmq X (w.heap.size+2) (w.heap.size+5) p hh k o a n c L K N T P tip _ x1 m1 D1 (hE.later au) (hL.later au) sL dc bo be))
 obtain⟨HX,br,bs,cc,bz,ca,cb⟩:=kh7 hx cm au cg dd de bo;have t0:=Zb bi 0 _ rfl;obtain⟨t1,t2,t3,t4,-⟩:=kc4 bk;have tl:=aA bi;have ds:=aA bk;clear hE hK hN hT hP sN sT sP hp hq hx hL sL bh be cm au cg bi bk dc dd de bo hX;go_enter func32,ntmps32;go_wp2_with fail;rw[<-cf];clear cf;(try go_wp2_with fail);refine C1.mono ?_;intro e w1 hr
 obtain⟨k5,ab,ac,n5,ag,am,b5,ae,ak,p5,aj,an,rfl,hF,s1,s2,s3,s4,cl,g1⟩:∃ k5 ab ac n5 ag am b5 ae ak p5 aj an,e = dF (dG #[.agg #[F k5 ab ac],.agg #[F n5 ag am,F b5 ae ak,F p5 aj an,E J D.tip],E J x]) /\
   Fresh X.heap.size w1 (λw2=>Uo w2 k5 ab D.k n5 ag D.n b5 ae D.t p5 aj D.p)/\SlOk k5 ab ac/\SlOk n5 ag am/\SlOk b5 ae ak/\SlOk p5 aj an /\
   w1.heap[w.heap.size+5]? = some (dE [E J nm].toArray 3 (0,0))/\Gr X w1 (λq=>q=w.heap.size+5):=by
  have ar:=Za HX
  rcases hr with ⟨h0,⟨k5,ab,ac,n5,ag,am,b5,ae,ak,p5,aj,an,he,hF,s1,s2,s3,s4⟩,hb⟩|⟨h0,g,cn,hr⟩
  ·rw[if_pos h0] at ar;simp only[aU] at ar;obtain⟨rfl,rfl,rfl⟩:=ar;exact⟨k5,ab,ac,n5,ag,am,b5,ae,ak,p5,aj,an,he,hF,s1,s2,s3,s4,ZE hb cb,Gr.of hb⟩
  ·rw[if_neg (λq=>q h0)] at ar
   rcases hr with ⟨h1,k5,ab,ac,n5,ag,am,b5,ae,ak,p5,aj,an,he,hF,s1,s2,s3,s4⟩|⟨h1,k5,ab,ac,n5,ag,am,b5,ae,ak,p5,aj,an,he,hF,s1,s2,s3,s4⟩
   ·rw[if_pos h1] at ar;simp only[aU] at ar;obtain⟨rfl,rfl,rfl⟩:=ar;have dk:=br h1;subst dk;exact⟨k5,ab,ac,n5,ag,am,b5,ae,ak,p5,aj,an,he,hF,s1,s2,s3,s4,cn,g⟩
   ·rw[if_neg (λq=>q h1)] at ar;simp only[aU] at ar;obtain⟨rfl,rfl,rfl⟩:=ar;exact⟨k5,ab,ac,n5,ag,am,b5,ae,ak,p5,aj,an,he,hF,s1,s2,s3,s4,cn,g⟩
 have h3:=g1.heap bz (λe=>by have e:w.heap.size+3=w.heap.size+5:=e;omega);have h4:=g1.heap ca (λe=>by have e:w.heap.size+4=w.heap.size+5:=e;omega);obtain⟨o0,of,ol⟩:=kf1 h3;obtain⟨p0,p1,p2,p3,cx,cy,cz,da,pl⟩:=kf4 h4;obtain⟨V,hV⟩:=ZG (((((w1.setCell ⟨w.heap.size+1+1+1,0,none⟩ (F k5 ab ac)).setCell ⟨w.heap.size+1+1+1+1,0,none⟩ (F n5 ag am)).setCell ⟨w.heap.size+1+1+1+1,1,none⟩ (F b5 ae ak)).setCell ⟨w.heap.size+1+1+1+1,2,none⟩ (F p5 aj an)).setCell ⟨w.heap.size+1+1+1+1,3,none⟩ (E J D.tip))
 have gV:Gr w1 V (λq=>q=w.heap.size+3\/q=w.heap.size+4\/q=w.heap.size+5):=by
  rw[hV];exact ((Gr.refl w1 (λq=>q=w.heap.size+3\/q=w.heap.size+4\/q=w.heap.size+5)).one (w.heap.size+3) 0 (.inl (.inl rfl)) _).four (w.heap.size+4) (.inl (.inr (.inl rfl))) _ _ _ _
 have v5:V.heap[w.heap.size+5]? = some (dE [E J nm].toArray 3 (0,0)):=by
  rw[hV]
  have g:Gr w1 (((((w1.setCell ⟨w.heap.size+1+1+1,0,none⟩ (F k5 ab ac)).setCell ⟨w.heap.size+1+1+1+1,0,none⟩ (F n5 ag am)).setCell ⟨w.heap.size+1+1+1+1,1,none⟩ (F b5 ae ak)).setCell ⟨w.heap.size+1+1+1+1,2,none⟩ (F p5 aj an)).setCell ⟨w.heap.size+1+1+1+1,3,none⟩ (E J D.tip)) (λq=>q=w.heap.size+3\/q=w.heap.size+4):=
   ((Gr.refl w1 (λq=>q=w.heap.size+3\/q=w.heap.size+4)).one (w.heap.size+3) 0 (.inl (.inl rfl)) _).four (w.heap.size+4) (.inl (.inr rfl)) _ _ _ _
  exact g.heap cl (λe=>by omega)
 have v4:V.heap[w.heap.size+4]? = some (dE [F n5 ag am,F b5 ae ak,F p5 aj an,E J D.tip].toArray 67 (0,0)):=by
  rw[hV];have g:Gr w1 (w1.setCell ⟨w.heap.size+1+1+1,0,none⟩ (F k5 ab ac)) (λq=>q=w.heap.size+3):=(Gr.refl w1 (λq=>q=w.heap.size+3)).one (w.heap.size+3) 0 (.inl rfl) _;exact Tr.set_cells (Tr.set_cells (Tr.set_cells (Tr.set_cells (g.heap h4 (λe=>by have e:w.heap.size+4=w.heap.size+3:=e;omega)) 0 _) 1 _) 2 _) 3 _
 have v3:V.heap[w.heap.size+3]? = some (dE [F k5 ab ac].toArray 24 (0,0)):=by
  rw[hV];have g:Gr (w1.setCell ⟨w.heap.size+1+1+1,0,none⟩ (F k5 ab ac)) (((((w1.setCell ⟨w.heap.size+1+1+1,0,none⟩ (F k5 ab ac)).setCell ⟨w.heap.size+1+1+1+1,0,none⟩ (F n5 ag am)).setCell ⟨w.heap.size+1+1+1+1,1,none⟩ (F b5 ae ak)).setCell ⟨w.heap.size+1+1+1+1,2,none⟩ (F p5 aj an)).setCell ⟨w.heap.size+1+1+1+1,3,none⟩ (E J D.tip)) (λq=>q=w.heap.size+4):=(Gr.refl (w1.setCell ⟨w.heap.size+1+1+1,0,none⟩ (F k5 ab ac)) (λq=>q=w.heap.size+4)).four (w.heap.size+4) (.inl rfl) _ _ _ _;exact g.heap (Tr.set_cells h3 0 _) (λe=>by have e:w.heap.size+3=w.heap.size+4:=e;omega)
 obtain⟨bt,bu,bv,GV⟩:=kh4 v3 v4 v5 gV
 have df:Hid (∀ W,Gr w1 W (λq=>q=w.heap.size+3\/q=w.heap.size+4\/q=w.heap.size+5)->NtkR w W x nm D (dF (dG #[.agg #[F k5 ab ac],.agg #[F n5 ag am,F b5 ae ak,F p5 aj an,E J D.tip],E J nm,E J x]))):=λW g=>by
  have du:=Za cc;refine⟨k5,ab,ac,n5,ag,am,b5,ae,ak,p5,aj,an,rfl,λW2 g2=>hF W2 ((g.mono (λq _ e=>?_)).trans (g2.mono (λq _ e=>?_))),s1,s2,s3,s4,?_⟩
  ·show q<X.heap.size;omega
  ·have e:q<w.heap.size:=e;show q<X.heap.size;omega
  ·have gX:Gr w X (λq=>False):=Gr.of bs;have gW:Gr w W (λ_=>False):=(gX.far g1 (λq e=>.inl (by have e:q=w.heap.size+5:=e;omega))).far g (λq e=>.inl (by omega));exact gW.below (Below.refl _ _) (Nat.le_refl _) (λ_ q=>q.elim)
 clear hr hF s1 s2 s3 s4 cl g1 h3 h4 v3 v4 v5 gV HX br bz ca cb C1 t0 t1 t2 t3 t4 tl ds cc bs
 go_upto_region 2 with fail
 rw[<-hV];clear hV o0 of ol p0 p1 p2 p3 cx cy cz da pl;have v3:=Za bt;have v4:=Za bu;have v5:=Za bv;obtain⟨o0,of,ol⟩:=kf1 v3;obtain⟨p0,p1,p2,p3,cx,cy,cz,da,pl⟩:=kf4 v4;obtain⟨q0,dw,ql⟩:=kf1 v5;clear v3 v4 v5 bt bu bv
 go_region
 all_goals
  go_wp2;(try simp only[Exit.inBlock,Exit.then]);refine bB (v:=dG #[.agg #[F k5 ab ac],.agg #[F n5 ag am,F b5 ae ak,F p5 aj an,E J D.tip],E J nm,E J x]) ?_ rfl ?_
  ·rw[T8 rfl];go_simp
  ·exact df _ (((((GV.one (w.heap.size+3) 0 (.inl (.inl rfl)) _).four (w.heap.size+4) (.inl (.inr (.inl rfl))) _ _ _ _).one (w.heap.size+5) 0 (.inl (.inr (.inr rfl))) _).trans (Gr.of (Zi _))))
open Bk (Right nm nmGo nameR place)
def Chn(K:List ByteArray)(h:Int):List Zj->List TxD->List Zj->Prop
 | C,[],D=>C=D
 | C,t::l,D=>∃ C' s n,Zq t=0/\t.2.1.length≠0/\nm K (Zy t)=(K,n,0)/\apD C t n h=(0,C',s)/\Chn K h C' l D
theorem Zkd{K}(hK:Right K)(s:ByteArray):nameR K s=nm K s:=by unfold Bk.nameR;rw[if_pos ((Bk.right_iff K).2 hK)]
theorem Ji{t}(h:Zq t=0):txT t=Zy t:=by unfold txT;rw[if_pos h]
theorem Au{h:Int}{K}(hK:Right K):∀ (S:List TxD) (C C1:List Zj),Z5 h S (K,C)=(S,K,C1)->Chn K h C S C1
 | [],C,C1,e=>by
  rw[Z5] at e;exact (Prod.mk.inj (Prod.mk.inj e).2).2
 | t :: l,C,C1,e=>by
  rw[Z5] at e;by_cases q:(doD h (K,C) t).1=0
  ·rw[if_pos q] at e;injection e with e1 e2;injection e1 with _ e1;have e3:Z5 h l (doD h (K,C) t).2=(l,K,C1):=Prod.ext e1 e2;obtain⟨⟨x,K',C'⟩,hd⟩:=ZF (doD h (K,C) t);rw[hd] at q e3;simp only at q e3;subst q;obtain⟨d1,⟨M,rfl⟩,_⟩:=Lm hK hd;obtain⟨_,M2,s2⟩:=Qa (h:=h) l (K++M) C' d1;rw[e3] at s2
   have hM:M=[]:=by
    have s3:K=K++M++M2:=s2;have:=congrArg List.length s3;rw[cJ,cJ] at this;exact List.length_eq_zero_iff.1 (by omega)
   subst hM;rw[List.append_nil] at hd e3;obtain⟨p1,p2,n,s,p3,p4⟩:=Ll hd;rw[Zkd hK,Ji p1] at p3;exact ⟨C',s,n,p1,p2,p3,p4,Au hK l C' C1 e3⟩
  ·rw[if_neg q] at e;have h1:=congrArg (λr=>r.1.length) e;have h2:=Gx h l (K,C);have h3:=congrArg List.length (J6 h l (K,C));rw[List.length_map] at h3;simp only[List.length_cons] at h1;omega
theorem Zhh{h:Int}{K C C1 S}(hc:Chn K h C S C1):∀ t∈S,(nm K (Zy t)).1=K/\(nm K (Zy t)).2.2=0:=by
 induction S generalizing C with
 |nil=>intro t q;cases q
 |cons t l ih=>
  obtain⟨_,_,_,_,_,h3,_,h5⟩:=hc;intro x hx
  rcases List.mem_cons.1 hx with rfl|hx
  ·rw[h3];exact⟨rfl,rfl⟩
  ·exact ih h5 x hx
theorem Cd{K}:∀ (l:List ByteArray) (aa:List Int),(∀ s∈l,s.size<=4000/\0<Bk.place s K)->Bk.nmGo K aa l=(K,aa++l.map (λs=>(Bk.place s K:Int)),0)
 | [],aa,_=>by rw[Bk.nmGo];simp
 | s :: r,aa,h=>by
  have hs:=h s (by simp);have e:=Bk.nm_there hs.1 hs.2;rw[Bk.nmGo,e];simp only[if_true];rw[Cd r _ (λx hx=>h x (by simp[hx]))];simp
theorem Wt{K}{s:Int}{b:Zk}(h:kbD K s b=true):Yq b=0/\(Bk.place (M5 b) K:Int)=s/\∀ t∈b.2.2.2.2,Zq t=0/\Bk.place (txT t) K≠0:=by
 unfold kbD at h;simp only[Bool.and_eq_true,decide_eq_true_eq,List.all_eq_true] at h;refine⟨h.1,h.2.1,λt ht=>?_⟩;have:=h.2.2 t ht;unfold knT at this;simpa using this
theorem Cm{K}{s:Int}{b:Zk}(h1:Yq b=0)(h2:(Bk.place (M5 b) K:Int)=s)(h3:∀ t∈b.2.2.2.2,Zq t=0/\Bk.place (txT t) K≠0):kbD K s b=true:=by
 unfold kbD;simp only[Bool.and_eq_true,decide_eq_true_eq,List.all_eq_true];refine⟨h1,h2,λt ht=>?_⟩;unfold knT;simpa using h3 t ht
theorem Jt{K M}{s:Int}{b:Zk}(h0:s≠0)(h:kbD K s b=true):kbD (K++M) s b=true:=by
 obtain⟨h1,h2,h3⟩:=Wt h;refine Cm h1 ?_ (λt ht=>⟨(h3 t ht).1,?_⟩)
 ·rw[Bk.place_stays M (by omega)];exact h2
 ·have:=(h3 t ht).2;rw[Bk.place_stays M (by omega)];exact this
theorem Ql{b:Zk}(h:Yq b=0):M5 b=Yw b:=by unfold M5;rw[if_pos h]
theorem Zat{K}(hK:Bk.Right K){s:ByteArray}(h:0<Bk.place s K):s.size<=4000:=by
 have hm:s∈K:=Classical.byContradiction λq=>by have:=Bk.place_zero.2 q;omega
 exact hK.2.2 s hm
theorem Rd{K}(hK:Bk.Right K){s:Int}{b:Zk}(h0:s≠0)(h:kbD K s b=true):Xl K b=(K,s,b.2.2.2.2.map (λt=>(Bk.place (Zy t) K:Int)),0):=by
 obtain⟨h1,h2,h3⟩:=Wt h
 have aa:Bk.allR K (Yb b)=(K,(Yb b).map (λs=>(Bk.place s K:Int)),0):=by
  unfold Bk.allR;rw[if_pos ((Bk.right_iff K).2 hK)]
  have:=Cd (K:=K) (Yb b) [] (λx hx=>by
   have hp:0<Bk.place x K:=by
    unfold Yb at hx
    rcases List.mem_append.1 hx with q|q
    ·obtain⟨t,ht,rfl⟩:=List.mem_map.1 q;have:=h3 t ht;rw[Ji this.1] at this;omega
    ·have e:x=Yw b:=(by simpa using q);rw[e,<-Ql h1];omega
   exact⟨Zat hK hp,hp⟩)
  simpa using this
 unfold Xl;rw[if_neg (by rw[h1];decide),aa];simp only[ne_eq,not_true_eq_false,if_false];rw[Ql h1] at h2;refine Prod.ext rfl (Prod.ext ?_ (Prod.ext ?_ rfl))
 ·simp only[Yb,List.map_append,List.map_map,bY,List.map_nil];rw[List.getD_eq_getElem?_getD,List.getElem?_append_right (by simp)];simp[h2]
 ·simp only[Yb,List.map_append,List.map_map,bY,List.map_nil];rw[List.take_append_of_le_length (by simp)];simp[List.take_of_length_le,Function.comp_def]
theorem Zhe{K M}(hK:Bk.Right K)(hM:Bk.Right (K++M)){s:Int}{b:Zk}(h0:s≠0)(h:kbD K s b=true)(C):Xw (K++M) C b=Xw K C b:=by
 have e1:=Rd hK h0 h;have e2:=Rd hM h0 (Jt h0 h);obtain⟨_,_,h3⟩:=Wt h
 have e3:b.2.2.2.2.map (λt=>(Bk.place (Zy t) (K++M):Int))=b.2.2.2.2.map (λt=>(Bk.place (Zy t) K:Int)):=List.map_congr_left (λt ht=>by
  have:=h3 t ht;rw[Ji this.1] at this;rw[Bk.place_stays M (by omega)])
 have en:nfD (K++M) C b=nfD K C b:=by
  unfold nfD;rw[e1,e2,e3]
 unfold Xw;rw[en]
theorem L7{K M}(hK:Bk.Right K)(hM:Bk.Right (K++M)):∀ (N:List Int) (T:List Zk) (β : Int->List Zj),(∀ x∈N,x≠0)->(Z1 K N T β).1=0->Z1 (K++M) N T β = Z1 K N T β
 | [],_,β,_,_=>rfl
 | _ :: _,[],β,_,_=>rfl
 | s :: N,b :: T,β,hn,h=>by
  have h0:=hn s (by simp);rw[Z1] at h ⊢;rw[Z1];split at h
  ·cases h
  rename_i q1;have q1:kbD K s b=true:=by simpa using q1
  split at h
  ·rename_i q;exact absurd h q
  rename_i q2;rw[Jt h0 q1,Zhe hK hM h0 q1,q1];simp only[Bool.true_eq_false,if_false,if_neg q2];exact L7 hK hM N T _ (λx hx=>hn x (by simp[hx])) h
