import Derived.Test.YtmomfkikogbdeaaGreatDoorH
import Derived.Test.YtmomfkikogbdeaaGreatDoorG39
open Decidable renaming not_not->aZ
open Go renaming lt_of_block->aA,bodyPost_ret->bA
open Go.Ending renaming returned->cY
open Go.IntKind renaming i64->J
open Go.Obj renaming cells->cW
open Go.Value renaming int->E,slice->F,tuple->cZ,pointer->dA
open List renaming length_append->cF,mem_cons->bC,mem_append->cH
open Nat renaming le_refl->aH
open Prod.mk renaming injEq->aU
set_option maxHeartbeats 12800000
set_option maxRecDepth 10000
namespace Go.Proofs.YtmomfkikogbdeaaGreatDoor
open Go.RowKit
theorem Rm{fn:Func}{p q r u:Tmp}{ty Q z:TypeId}(h:fn.results=#[.cell p ty,.cell q Q,.cell r z,.tmp u])(tmps:Array Value)(P:Program)(w:World) :
  (results fn tmps).run P w =
   ((asAddr (tmps.getD p undef)).run P w).andThen λa w₁=>((loadVar ty a).run P w₁).andThen λx w₂=>((asAddr (tmps.getD q undef)).run P w₂).andThen λb w₃=>((loadVar Q b).run P w₃).andThen λy w₄=>((asAddr (tmps.getD r undef)).run P w₄).andThen λc w₅=>((loadVar z c).run P w₅).andThen λah w₆=>.ok (cZ #[x,y,ah,tmps.getD u undef]) w₆:=by
 simp only[results,h];simp[Sem.run_bind,Result.andThen]
theorem Zdx(ka:Option Addr)(kn kc:Nat)(K:List ByteArray)(na ba pa:Option Addr)(nn nc bn bc pn pc:Nat)(N:List Int)(T:List Zl)(P:List TxD)(tip:Int)(w:World)(hE:Env w)(hK:Bk.TextsAt w ka kn K)(hN:Tr.IntsAt w na nn N)(hT:Tr.BlksAt w ba bn T)(hP:TxsAt w pa pn P)(sN:SlOk na nn nc)(sT:SlOk ba bn bc)(sP:SlOk pa pn pc)(hp:pn<=2513169434916)(hq:∀ t∈P,Tr.TxSmall t)
  (wk no:Int) (la:Option Addr) (ln lc:Nat) (l:List (Int×Int)) (hl:OpsAt w la ln l) (sl:SlOk la ln lc) (hn:ln<=8796093022208) (x:Int) (b:Zl) (D:Dsk) (hx:nmR K N T P tip wk no l=(x,b,D)) :
  Calls Tryz.prog 43 #[.agg #[F ka kn kc],.agg #[F na nn nc,F ba bn bc,F pa pn pc,E J tip],E J wk,E J no,F la ln lc] w λe w'=>NmkR w w' x b D e:=by
 obtain⟨X,hX⟩:=ZG (Yp w [cW #[F ka kn kc] 24,cW #[F na nn nc,F ba bn bc,F pa pn pc,E J tip] 67,cW #[E J wk] 3,cW #[E J no] 3,cW #[F la ln lc] 48,cW #[F none 0 0] 24,cW #[F none 0 0,F none 0 0,F none 0 0,E J 0] 67,cW #[E J 0,E J 0,E J 0,E J 0,F none 0 0] 39]);have cm:X=(((((((w.alloc (cW #[F ka kn kc] 24)).alloc (cW #[F na nn nc,F ba bn bc,F pa pn pc,E J tip] 67)).alloc (cW #[E J wk] 3)).alloc (cW #[E J no] 3)).alloc (cW #[F la ln lc] 48)).alloc (cW #[F none 0 0] 24)).alloc (cW #[F none 0 0,F none 0 0,F none 0 0,E J 0] 67)).alloc (cW #[E J 0,E J 0,E J 0,E J 0,F none 0 0] 39):=hX;have aw:Below w.heap.size w X:=by rw[hX];exact Zs _ _
 have cn:X.heap.size=w.heap.size+8:=by rw[hX];exact Z4 _ _
 have br:X.heap[w.heap.size]? = some (cW [F ka kn kc].toArray 24 (0,0)):=by rw[hX];exact Zk _ w 0 _ rfl
 have bh:X.heap[w.heap.size+1]? = some (cW [F na nn nc,F ba bn bc,F pa pn pc,E J tip].toArray 67 (0,0)):=by rw[hX];exact Zk _ w 1 _ rfl
 have dj:X.heap[w.heap.size+2]? = some (cW [E J wk].toArray 3 (0,0)):=by rw[hX];exact Zk _ w 2 _ rfl
 have dk:X.heap[w.heap.size+3]? = some (cW [E J no].toArray 3 (0,0)):=by rw[hX];exact Zk _ w 3 _ rfl
 have dl:X.heap[w.heap.size+4]? = some (cW [F la ln lc].toArray 48 (0,0)):=by rw[hX];exact Zk _ w 4 _ rfl
 have dm:X.heap[w.heap.size+5]? = some (cW [F none 0 0].toArray 24 (0,0)):=by rw[hX];exact Zk _ w 5 _ rfl
 have dn:X.heap[w.heap.size+6]? = some (cW [F none 0 0,F none 0 0,F none 0 0,E J 0].toArray 67 (0,0)):=by rw[hX];exact Zk _ w 6 _ rfl
 have bt:X.heap[w.heap.size+7]? = some (cW [E J 0,E J 0,E J 0,E J 0,F none 0 0].toArray 39 (0,0)):=by rw[hX];exact Zk _ w 7 _ rfl
 obtain⟨x0,bq⟩:=ZF (opE K N T P tip);obtain⟨⟨x1,b1,D1⟩,bj⟩:=ZF (mnR ⟨K,N,T,P,tip,(Ye K N T noB).2⟩ wk no l)
 have ct:x1≠0->b1=Yq:=λe=>by
  have:=Zgw (D:=⟨K,N,T,P,tip,(Ye K N T noB).2⟩) (wk:=wk) (no:=no) (lk:=l) (by rw[bj];exact e);rw[bj] at this;exact this
 unfold nmR at hx;simp only[bq,bj] at hx
 have C1:=Zd (Gg ka kn kc K na ba pa nn nc bn bc pn pc N T P tip x0 X (hE.later aw) (hK.later aw) (hN.later aw) (hT.later aw) (hP.later aw) sN sT sP hp hq bq 112 #[dA (some ⟨w.heap.size+2,0,none⟩),dA (some ⟨w.heap.size+3,0,none⟩),dA (some ⟨w.heap.size+4,0,none⟩),dA (some ⟨w.heap.size+7,0,none⟩)] (λq=>q=w.heap.size+7) x1 D1 (Zkl (w.heap.size+7) b1) (λe=>by
  have o:=Wx (bq.trans e);have bw:=My o.2.1;exact Zha X (w.heap.size+2) (w.heap.size+3) (w.heap.size+4) (w.heap.size+7) wk no la ln lc l K N T P tip _ x1 b1 D1 (hE.later aw) (hl.later aw) sl hn bw.1 bw.2.1 bw.2.2 (Zb dj 0 _ rfl) (Zb dk 0 _ rfl) (Zb dl 0 _ rfl) bt bj))
 have HX:=Zd hx;have bv:=Zd ct;have bx:=Zd aw;have cg:=Zd cn;have cd:=Zd dm;have ce:=Zd dn;have cf:=Zd bt;have t0:=Zb br 0 _ rfl;have t1:=Zb bh 0 _ rfl;have t2:=Zb bh 1 _ rfl;have t3:=Zb bh 2 _ rfl;have t4:=Zb bh 3 _ rfl;have tl:=aA br;have eb:=aA bh;clear hE hK hN hT hP sN sT sP hp hq hx hl sl hn bq bj ct aw cn br bh dj dk dl dm dn bt hX;go_enter Tryz.func43,Tryz.ntmps43;go_wp2_with fail;rw[<-cm];clear cm;(try go_wp2_with fail);refine C1.mono ?_;intro e w1 hr
 obtain⟨z,Q,aa,n5,ae,aj,b5,ac,ah,p5,ag,ak,a7,n7,c7,rfl,hF,s1,s2,s3,s4,s7,cq,g1⟩:∃ z Q aa n5 ae aj b5 ac ah p5 ag ak a7 n7 c7,e = cY (cZ #[.agg #[F z Q aa],.agg #[F n5 ae aj,F b5 ac ah,F p5 ag ak,E J D.tip],E J x]) /\
   Fresh X.heap.size w1 (λw2=>Qw w2 z Q D.k n5 ae D.n b5 ac D.t p5 ag D.p/\TxsAt w2 a7 n7 b.2.2.2.2)/\SlOk z Q aa/\SlOk n5 ae aj/\SlOk b5 ac ah/\SlOk p5 ag ak/\SlOk a7 n7 c7 /\
   w1.heap[w.heap.size+7]? = some (cW [E J b.1,E J b.2.1,E J b.2.2.1,E J b.2.2.2.1,F a7 n7 c7].toArray 39 (0,0))/\Gr X w1 (λq=>q=w.heap.size+7):=by
  have av:=Za HX
  rcases hr with ⟨h0,⟨z,Q,aa,n5,ae,aj,b5,ac,ah,p5,ag,ak,he,hF,s1,s2,s3,s4⟩,hb⟩|⟨h0,g,⟨a7,n7,c7,cu,cl,s7⟩,hr⟩
  ·rw[if_pos h0] at av;simp only[aU] at av;obtain⟨rfl,rfl,rfl⟩:=av;exact⟨z,Q,aa,n5,ae,aj,b5,ac,ah,p5,ag,ak,none,0,0,he,λW g=>⟨hF W g,RowsAt.nil _ _⟩,s1,s2,s3,s4,Zr,ZE hb cf,Gr.of hb⟩
  ·rw[if_neg (λq=>q h0)] at av
   rcases hr with ⟨h1,z,Q,aa,n5,ae,aj,b5,ac,ah,p5,ag,ak,he,hF,s1,s2,s3,s4⟩|⟨h1,z,Q,aa,n5,ae,aj,b5,ac,ah,p5,ag,ak,he,hF,s1,s2,s3,s4⟩
   ·rw[if_pos h1] at av;simp only[aU] at av;obtain⟨rfl,rfl,rfl⟩:=av;have du:=bv h1;subst du;exact⟨z,Q,aa,n5,ae,aj,b5,ac,ah,p5,ag,ak,a7,n7,c7,he,λW g=>⟨hF W g,cl W (g.mono (λq _ e=>by have e:q<X.heap.size:=e;show q<X.heap.size+4;omega))⟩,s1,s2,s3,s4,s7,cu,g⟩
   ·rw[if_neg (λq=>q h1)] at av;simp only[aU] at av;obtain⟨rfl,rfl,rfl⟩:=av;exact⟨z,Q,aa,n5,ae,aj,b5,ac,ah,p5,ag,ak,a7,n7,c7,he,λW g=>⟨hF W g,cl W (g.mono (λq _ e=>by have e:q<X.heap.size:=e;show q<X.heap.size+4;omega))⟩,s1,s2,s3,s4,s7,cu,g⟩
 have h5:=g1.heap cd (λe=>by have e:w.heap.size+5=w.heap.size+7:=e;omega);have h6:=g1.heap ce (λe=>by have e:w.heap.size+6=w.heap.size+7:=e;omega);have o0:=Zb h5 0 _ rfl;have of:=Zg h5 0;have ol:=aA h5;have p0:=Zb h6 0 _ rfl;have p1:=Zb h6 1 _ rfl;have p2:=Zb h6 2 _ rfl;have p3:=Zb h6 3 _ rfl;have de:=Zg h6 0;have df:=Zg h6 1;have dg:=Zg h6 2;have dh:=Zg h6 3;have pl:=aA h6;obtain⟨V,hV⟩:=ZG (((((w1.setCell ⟨w.heap.size+1+1+1+1+1,0,none⟩ (F z Q aa)).setCell ⟨w.heap.size+1+1+1+1+1+1,0,none⟩ (F n5 ae aj)).setCell ⟨w.heap.size+1+1+1+1+1+1,1,none⟩ (F b5 ac ah)).setCell ⟨w.heap.size+1+1+1+1+1+1,2,none⟩ (F p5 ag ak)).setCell ⟨w.heap.size+1+1+1+1+1+1,3,none⟩ (E J D.tip))
 have gV:Gr w1 V (λq=>q=w.heap.size+5\/q=w.heap.size+6\/q=w.heap.size+7):=by
  rw[hV];exact ((Gr.refl w1 (λq=>q=w.heap.size+5\/q=w.heap.size+6\/q=w.heap.size+7)).one (w.heap.size+5) 0 (.inl (.inl rfl)) _).four (w.heap.size+6) (.inl (.inr (.inl rfl))) _ _ _ _
 have v7:V.heap[w.heap.size+7]? = some (cW [E J b.1,E J b.2.1,E J b.2.2.1,E J b.2.2.2.1,F a7 n7 c7].toArray 39 (0,0)):=by
  rw[hV]
  have g:Gr w1 (((((w1.setCell ⟨w.heap.size+1+1+1+1+1,0,none⟩ (F z Q aa)).setCell ⟨w.heap.size+1+1+1+1+1+1,0,none⟩ (F n5 ae aj)).setCell ⟨w.heap.size+1+1+1+1+1+1,1,none⟩ (F b5 ac ah)).setCell ⟨w.heap.size+1+1+1+1+1+1,2,none⟩ (F p5 ag ak)).setCell ⟨w.heap.size+1+1+1+1+1+1,3,none⟩ (E J D.tip)) (λq=>q=w.heap.size+5\/q=w.heap.size+6):=
   ((Gr.refl w1 (λq=>q=w.heap.size+5\/q=w.heap.size+6)).one (w.heap.size+5) 0 (.inl (.inl rfl)) _).four (w.heap.size+6) (.inl (.inr rfl)) _ _ _ _
  exact g.heap cq (λe=>by omega)
 have v6:V.heap[w.heap.size+6]? = some (cW [F n5 ae aj,F b5 ac ah,F p5 ag ak,E J D.tip].toArray 67 (0,0)):=by
  rw[hV];have g:Gr w1 (w1.setCell ⟨w.heap.size+1+1+1+1+1,0,none⟩ (F z Q aa)) (λq=>q=w.heap.size+5):=(Gr.refl w1 (λq=>q=w.heap.size+5)).one (w.heap.size+5) 0 (.inl rfl) _;exact Tr.set_cells (Tr.set_cells (Tr.set_cells (Tr.set_cells (g.heap h6 (λe=>by have e:w.heap.size+6=w.heap.size+5:=e;omega)) 0 _) 1 _) 2 _) 3 _
 have v5:V.heap[w.heap.size+5]? = some (cW [F z Q aa].toArray 24 (0,0)):=by
  rw[hV];have g:Gr (w1.setCell ⟨w.heap.size+1+1+1+1+1,0,none⟩ (F z Q aa)) (((((w1.setCell ⟨w.heap.size+1+1+1+1+1,0,none⟩ (F z Q aa)).setCell ⟨w.heap.size+1+1+1+1+1+1,0,none⟩ (F n5 ae aj)).setCell ⟨w.heap.size+1+1+1+1+1+1,1,none⟩ (F b5 ac ah)).setCell ⟨w.heap.size+1+1+1+1+1+1,2,none⟩ (F p5 ag ak)).setCell ⟨w.heap.size+1+1+1+1+1+1,3,none⟩ (E J D.tip)) (λq=>q=w.heap.size+6):=(Gr.refl (w1.setCell ⟨w.heap.size+1+1+1+1+1,0,none⟩ (F z Q aa)) (λq=>q=w.heap.size+6)).four (w.heap.size+6) (.inl rfl) _ _ _ _;exact g.heap (Tr.set_cells h5 0 _) (λe=>by have e:w.heap.size+5=w.heap.size+6:=e;omega)
 have bz:=Zd v5;have ca:=Zd v6;have cb:=Zd v7;have GV:=Zd gV
 have dp:Hid (∀ W,Gr w1 W (λq=>q=w.heap.size+5\/q=w.heap.size+6\/q=w.heap.size+7)->NmkR w W x b D (cY (cZ #[.agg #[F z Q aa],.agg #[F n5 ae aj,F b5 ac ah,F p5 ag ak,E J D.tip],.agg #[E J b.1,E J b.2.1,E J b.2.2.1,E J b.2.2.2.1,F a7 n7 c7],E J x]))):=λW g=>by
  have ed:=Za cg;refine⟨z,Q,aa,n5,ae,aj,b5,ac,ah,p5,ag,ak,a7,n7,c7,rfl,λW2 g2=>hF W2 ((g.mono (λq _ e=>?_)).trans (g2.mono (λq _ e=>?_))),s1,s2,s3,s4,s7,?_⟩
  ·show q<X.heap.size;omega
  ·have e:q<w.heap.size:=e;show q<X.heap.size;omega
  ·have gX:Gr w X (λq=>False):=Gr.of bx;have gW:Gr w W (λ_=>False):=(gX.far g1 (λq e=>.inl (by have e:q=w.heap.size+7:=e;omega))).far g (λq e=>.inl (by omega));exact gW.below (Below.refl _ _) (aH _) (λ_ q=>q.elim)
 clear hr hF s1 s2 s3 s4 s7 cq g1 h5 h6 v5 v6 v7 gV HX bv cd ce cf C1 t0 t1 t2 t3 t4 tl eb cg bx
 go_upto_region 2 with fail
 rw[<-hV];clear hV o0 of ol p0 p1 p2 p3 de df dg dh pl;have v5:=Za bz;have v6:=Za ca;have v7:=Za cb;have o0:=Zb v5 0 _ rfl;have of:=Zg v5 0;have ol:=aA v5;have p0:=Zb v6 0 _ rfl;have p1:=Zb v6 1 _ rfl;have p2:=Zb v6 2 _ rfl;have p3:=Zb v6 3 _ rfl;have de:=Zg v6 0;have df:=Zg v6 1;have dg:=Zg v6 2;have dh:=Zg v6 3;have pl:=aA v6;have q0:=Zb v7 0 _ rfl;have q1:=Zb v7 1 _ rfl;have q2:=Zb v7 2 _ rfl;have q3:=Zb v7 3 _ rfl;have q4:=Zb v7 4 _ rfl;have ej:=Zg v7 0;have ek:=Zg v7 1;have el:=Zg v7 2;have en:=Zg v7 3;have eo:=Zg v7 4;have ql:=aA v7;clear v5 v6 v7 bz ca cb
 go_region
 all_goals
  go_wp2;(try simp only[Exit.inBlock,Exit.then]);refine bA (v:=cZ #[.agg #[F z Q aa],.agg #[F n5 ae aj,F b5 ac ah,F p5 ag ak,E J D.tip],.agg #[E J b.1,E J b.2.1,E J b.2.2.1,E J b.2.2.2.1,F a7 n7 c7],E J x]) ?_ rfl ?_
  ·rw[Rm rfl];go_simp
  ·exact dp _ (((((GV.one (w.heap.size+5) 0 (.inl (.inl rfl)) _).four (w.heap.size+6) (.inl (.inr (.inl rfl))) _ _ _ _).five (w.heap.size+7) (.inl (.inr (.inr rfl))) _ _ _ _ _).trans (Gr.of (Zi _))))
theorem Zgc{D:Dsk}{b:Zl}(h:(tkR D b).1≠0):(tkR D b).2.1=0:=by
 unfold tkR at h ⊢;split
 ·rfl
 rename_i h1;rw[if_neg h1] at h;split
 ·rfl
 rename_i h2;rw[if_neg h2] at h;split
 ·rfl
 rename_i h3;rw[if_neg h3] at h;split
 ·rfl
 rename_i h4;rw[if_neg h4] at h;simp only at h ⊢;split
 ·rfl
 rename_i h5;rw[if_neg h5] at h;exact absurd rfl h
def Zfr(z:Nat)(nm:Int)(_B:Nat)(V:World):Prop:=V.heap[z]? = some (cW [E J nm].toArray 3 (0,0))
theorem Zge(w:World)(b1 z:Nat)(p hh k o:Int)(a:Option Addr)(n c:Nat)(L:List TxD)(K:List ByteArray)(N:List Int)(T:List Zl)(P:List TxD)(tip:Int)(β : Int->List Zj)(x nm:Int)(D':Dsk)(hE:Env w)(hL:TxsAt w a n L)(sL:SlOk a n c)
  (Q:w.heap[b1]? = some (cW [E J p,E J hh,E J k,E J o,F a n c].toArray 39 (0,0))) (ab:w.heap[z]? = some (cW [E J 0].toArray 3 (0,0))) (hx:tkR ⟨K,N,T,P,tip,β⟩ (p,hh,k,o,L)=(x,nm,D')) :
  DoC 99 #[dA (some ⟨b1,0,none⟩),dA (some ⟨z,0,none⟩)] w (λq=>q=z) ⟨K,N,T,P,tip,β⟩ x D' (Zfr z nm) where
 enters:=enters_of (fn:=Tryz.f99) (by kernel_rfl) (by kernel_rfl) rfl
 old q e:=by have e:q=z:=e;exact e ▸ aA ab
 on B V V':=by
  intro h1 g;have lb:=aA ab;exact g.heap h1 (λe=>by have:=e.1;omega)
 call B V d bm m hB hV hD hd hbm hm:=by
  obtain⟨k1,bd,bb,n1,bf,be,t1,br,bq,p1,bi,bh,f,hq⟩:=hD;have lb:=aA ab
  have C1:=Zd (Fg hq w hV hE (by omega) (by omega) (by omega) p hh k o a n c L (λW g=>by
   have gW:Gr w W (λ_=>False):=((Gr.of hV:Gr w V (λ_=>False))).far g (λq e=>.inl (by rcases e with e|e <;> omega));exact hL.later (gW.below (Below.refl _ _) (aH _) (λ_ q=>q.elim))) sL x nm D' hx)
  have ah:=(hV.block _ lb).trans ab;have aa:=ZE hV Q;have q0:=Zb aa 0 _ rfl;have q1:=Zb aa 1 _ rfl;have q2:=Zb aa 2 _ rfl;have q3:=Zb aa 3 _ rfl;have q4:=Zb aa 4 _ rfl;have ql:=aA aa;have ae:=Zd ah;have ax:=Zd hV.size;have aw:=Zd (aA hq.box);clear hq hE hL sL hx ah ab Q aa;show Calls Tryz.prog 99 #[dA (some ⟨d,0,none⟩),dA (some ⟨b1,0,none⟩),dA (some ⟨z,0,none⟩)] V _;go_enter Tryz.func99,Tryz.ntmps99;go_wp2_with fail;refine C1.mono ?_;rintro e w1 ⟨rfl,g1,hk⟩;have Q:=g1.heap ae (by rintro (e|e) <;> omega);have r0:=Zb Q 0 _ rfl;have f0:=Zg Q 0;have rl:=aA Q
  have al:Hid (∀ W,W=w1.setCell ⟨z,0,none⟩ (E J nm)->Gr V W (λq=>q=d\/q=bm\/q=z)/\(x=0->KeptOn (λq=>q<B) W d bm D')/\Zfr z nm B W):=λW hW=>by
   have g2:Gr w1 W (λq=>q=z):=(by rw[hW];exact (Gr.refl w1 (λq=>q=z)).one z 0 (.inl rfl) _);refine⟨(g1.mono (λq _ e=>?_)).trans (g2.mono (λq _ e=>.inr (.inr e))),λe=>(hk e).kept.on g2 (λq e=>?_) (λe=>?_),?_⟩
   ·rcases e with e|e
    ·exact .inl e
    ·exact .inr (.inl e)
   ·have e:q=z:=e;show q<B;omega
   ·have e:d=z:=e;omega
   ·rw[hW];exact Tr.set_cells Q 0 _
  clear g1 hk Q C1 ae q0 q1 q2 q3 q4 ql;go_wp2;go_ret;exact⟨rfl,al _ rfl⟩
def ntR(K:List ByteArray)(N:List Int)(T:List Zl)(P:List TxD)(tip:Int)(b:Zl):Int×Int×Dsk:=
 if opE K N T P tip≠0 then (opE K N T P tip,0,Dsk.none) else
 if (tkR ⟨K,N,T,P,tip,(Ye K N T noB).2⟩ b).1≠0 then ((tkR ⟨K,N,T,P,tip,(Ye K N T noB).2⟩ b).1,0,Dsk.none) else
 (0,(tkR ⟨K,N,T,P,tip,(Ye K N T noB).2⟩ b).2.1,(tkR ⟨K,N,T,P,tip,(Ye K N T noB).2⟩ b).2.2)
def NtkR(w w':World)(x nm:Int)(D:Dsk)(e:Ending):Prop:=
 ∃ ka kn kc na nn nc ba bn bc pa pn pc,e = cY (cZ #[.agg #[F ka kn kc],.agg #[F na nn nc,F ba bn bc,F pa pn pc,E J D.tip],E J nm,E J x]) /\
  Fresh w.heap.size w' (λw2=>Qw w2 ka kn D.k na nn D.n ba bn D.t pa pn D.p)/\SlOk ka kn kc/\SlOk na nn nc/\SlOk ba bn bc/\SlOk pa pn pc/\Below w.heap.size w w'
theorem Zdw(ka:Option Addr)(kn kc:Nat)(K:List ByteArray)(na ba pa:Option Addr)(nn nc bn bc pn pc:Nat)(N:List Int)(T:List Zl)(P:List TxD)(tip:Int)(w:World)(hE:Env w)(hK:Bk.TextsAt w ka kn K)(hN:Tr.IntsAt w na nn N)(hT:Tr.BlksAt w ba bn T)(hP:TxsAt w pa pn P)(sN:SlOk na nn nc)(sT:SlOk ba bn bc)(sP:SlOk pa pn pc)(hp:pn<=2513169434916)(hq:∀ t∈P,Tr.TxSmall t)
  (p hh k o:Int) (a:Option Addr) (n c:Nat) (L:List TxD) (hL:TxsAt w a n L) (sL:SlOk a n c) (x nm:Int) (D:Dsk) (hx:ntR K N T P tip (p,hh,k,o,L)=(x,nm,D)) :
  Calls Tryz.prog 32 #[.agg #[F ka kn kc],.agg #[F na nn nc,F ba bn bc,F pa pn pc,E J tip],.agg #[E J p,E J hh,E J k,E J o,F a n c]] w λe w'=>NtkR w w' x nm D e:=by
 obtain⟨X,hX⟩:=ZG (Yp w [cW #[F ka kn kc] 24,cW #[F na nn nc,F ba bn bc,F pa pn pc,E J tip] 67,cW #[E J p,E J hh,E J k,E J o,F a n c] 39,cW #[F none 0 0] 24,cW #[F none 0 0,F none 0 0,F none 0 0,E J 0] 67,cW #[E J 0] 3]);have cc:X=(((((w.alloc (cW #[F ka kn kc] 24)).alloc (cW #[F na nn nc,F ba bn bc,F pa pn pc,E J tip] 67)).alloc (cW #[E J p,E J hh,E J k,E J o,F a n c] 39)).alloc (cW #[F none 0 0] 24)).alloc (cW #[F none 0 0,F none 0 0,F none 0 0,E J 0] 67)).alloc (cW #[E J 0] 3):=hX;have ap:Below w.heap.size w X:=by rw[hX];exact Zs _ _
 have cd:X.heap.size=w.heap.size+6:=by rw[hX];exact Z4 _ _
 have bg:X.heap[w.heap.size]? = some (cW [F ka kn kc].toArray 24 (0,0)):=by rw[hX];exact Zk _ w 0 _ rfl
 have az:X.heap[w.heap.size+1]? = some (cW [F na nn nc,F ba bn bc,F pa pn pc,E J tip].toArray 67 (0,0)):=by rw[hX];exact Zk _ w 1 _ rfl
 have da:X.heap[w.heap.size+2]? = some (cW [E J p,E J hh,E J k,E J o,F a n c].toArray 39 (0,0)):=by rw[hX];exact Zk _ w 2 _ rfl
 have db:X.heap[w.heap.size+3]? = some (cW [F none 0 0].toArray 24 (0,0)):=by rw[hX];exact Zk _ w 3 _ rfl
 have dc:X.heap[w.heap.size+4]? = some (cW [F none 0 0,F none 0 0,F none 0 0,E J 0].toArray 67 (0,0)):=by rw[hX];exact Zk _ w 4 _ rfl
 have bi:X.heap[w.heap.size+5]? = some (cW [E J 0].toArray 3 (0,0)):=by rw[hX];exact Zk _ w 5 _ rfl
 obtain⟨x0,bf⟩:=ZF (opE K N T P tip);obtain⟨⟨x1,m1,D1⟩,bd⟩:=ZF (tkR ⟨K,N,T,P,tip,(Ye K N T noB).2⟩ (p,hh,k,o,L))
 have cg:x1≠0->m1=0:=λe=>by
  have:=Zgc (D:=⟨K,N,T,P,tip,(Ye K N T noB).2⟩) (b:=(p,hh,k,o,L)) (by rw[bd];exact e);rw[bd] at this;exact this
 unfold ntR at hx;simp only[bf,bd] at hx
 have C1:=Zd (Gg ka kn kc K na ba pa nn nc bn bc pn pc N T P tip x0 X (hE.later ap) (hK.later ap) (hN.later ap) (hT.later ap) (hP.later ap) sN sT sP hp hq bf 99 #[dA (some ⟨w.heap.size+2,0,none⟩),dA (some ⟨w.heap.size+5,0,none⟩)] (λq=>q=w.heap.size+5) x1 D1 (Zfr (w.heap.size+5) m1) (λ_=>
  Zge X (w.heap.size+2) (w.heap.size+5) p hh k o a n c L K N T P tip _ x1 m1 D1 (hE.later ap) (hL.later ap) sL da bi bd))
 have HX:=Zd hx;have bk:=Zd cg;have bo:=Zd ap;have bz:=Zd cd;have bu:=Zd db;have bv:=Zd dc;have bx:=Zd bi;have t0:=Zb bg 0 _ rfl;have t1:=Zb az 0 _ rfl;have t2:=Zb az 1 _ rfl;have t3:=Zb az 2 _ rfl;have t4:=Zb az 3 _ rfl;have tl:=aA bg;have dq:=aA az;clear hE hK hN hT hP sN sT sP hp hq hx hL sL bf bd cg ap cd bg az da db dc bi hX;go_enter Tryz.func32,Tryz.ntmps32;go_wp2_with fail;rw[<-cc];clear cc;(try go_wp2_with fail);refine C1.mono ?_;intro e w1 hr
 obtain⟨z,Q,aa,n5,ae,aj,b5,ac,ah,p5,ag,ak,rfl,hF,s1,s2,s3,s4,cf,g1⟩:∃ z Q aa n5 ae aj b5 ac ah p5 ag ak,e = cY (cZ #[.agg #[F z Q aa],.agg #[F n5 ae aj,F b5 ac ah,F p5 ag ak,E J D.tip],E J x]) /\
   Fresh X.heap.size w1 (λw2=>Qw w2 z Q D.k n5 ae D.n b5 ac D.t p5 ag D.p)/\SlOk z Q aa/\SlOk n5 ae aj/\SlOk b5 ac ah/\SlOk p5 ag ak /\
   w1.heap[w.heap.size+5]? = some (cW [E J nm].toArray 3 (0,0))/\Gr X w1 (λq=>q=w.heap.size+5):=by
  have an:=Za HX
  rcases hr with ⟨h0,⟨z,Q,aa,n5,ae,aj,b5,ac,ah,p5,ag,ak,he,hF,s1,s2,s3,s4⟩,hb⟩|⟨h0,g,cj,hr⟩
  ·rw[if_pos h0] at an;simp only[aU] at an;obtain⟨rfl,rfl,rfl⟩:=an;exact⟨z,Q,aa,n5,ae,aj,b5,ac,ah,p5,ag,ak,he,hF,s1,s2,s3,s4,ZE hb bx,Gr.of hb⟩
  ·rw[if_neg (λq=>q h0)] at an
   rcases hr with ⟨h1,z,Q,aa,n5,ae,aj,b5,ac,ah,p5,ag,ak,he,hF,s1,s2,s3,s4⟩|⟨h1,z,Q,aa,n5,ae,aj,b5,ac,ah,p5,ag,ak,he,hF,s1,s2,s3,s4⟩
   ·rw[if_pos h1] at an;simp only[aU] at an;obtain⟨rfl,rfl,rfl⟩:=an;have di:=bk h1;subst di;exact⟨z,Q,aa,n5,ae,aj,b5,ac,ah,p5,ag,ak,he,hF,s1,s2,s3,s4,cj,g⟩
   ·rw[if_neg (λq=>q h1)] at an;simp only[aU] at an;obtain⟨rfl,rfl,rfl⟩:=an;exact⟨z,Q,aa,n5,ae,aj,b5,ac,ah,p5,ag,ak,he,hF,s1,s2,s3,s4,cj,g⟩
 have h3:=g1.heap bu (λe=>by have e:w.heap.size+3=w.heap.size+5:=e;omega);have h4:=g1.heap bv (λe=>by have e:w.heap.size+4=w.heap.size+5:=e;omega);have o0:=Zb h3 0 _ rfl;have of:=Zg h3 0;have ol:=aA h3;have p0:=Zb h4 0 _ rfl;have p1:=Zb h4 1 _ rfl;have p2:=Zb h4 2 _ rfl;have p3:=Zb h4 3 _ rfl;have cu:=Zg h4 0;have cw:=Zg h4 1;have cx:=Zg h4 2;have cy:=Zg h4 3;have pl:=aA h4;obtain⟨V,hV⟩:=ZG (((((w1.setCell ⟨w.heap.size+1+1+1,0,none⟩ (F z Q aa)).setCell ⟨w.heap.size+1+1+1+1,0,none⟩ (F n5 ae aj)).setCell ⟨w.heap.size+1+1+1+1,1,none⟩ (F b5 ac ah)).setCell ⟨w.heap.size+1+1+1+1,2,none⟩ (F p5 ag ak)).setCell ⟨w.heap.size+1+1+1+1,3,none⟩ (E J D.tip))
 have gV:Gr w1 V (λq=>q=w.heap.size+3\/q=w.heap.size+4\/q=w.heap.size+5):=by
  rw[hV];exact ((Gr.refl w1 (λq=>q=w.heap.size+3\/q=w.heap.size+4\/q=w.heap.size+5)).one (w.heap.size+3) 0 (.inl (.inl rfl)) _).four (w.heap.size+4) (.inl (.inr (.inl rfl))) _ _ _ _
 have v5:V.heap[w.heap.size+5]? = some (cW [E J nm].toArray 3 (0,0)):=by
  rw[hV]
  have g:Gr w1 (((((w1.setCell ⟨w.heap.size+1+1+1,0,none⟩ (F z Q aa)).setCell ⟨w.heap.size+1+1+1+1,0,none⟩ (F n5 ae aj)).setCell ⟨w.heap.size+1+1+1+1,1,none⟩ (F b5 ac ah)).setCell ⟨w.heap.size+1+1+1+1,2,none⟩ (F p5 ag ak)).setCell ⟨w.heap.size+1+1+1+1,3,none⟩ (E J D.tip)) (λq=>q=w.heap.size+3\/q=w.heap.size+4):=
   ((Gr.refl w1 (λq=>q=w.heap.size+3\/q=w.heap.size+4)).one (w.heap.size+3) 0 (.inl (.inl rfl)) _).four (w.heap.size+4) (.inl (.inr rfl)) _ _ _ _
  exact g.heap cf (λe=>by omega)
 have v4:V.heap[w.heap.size+4]? = some (cW [F n5 ae aj,F b5 ac ah,F p5 ag ak,E J D.tip].toArray 67 (0,0)):=by
  rw[hV];have g:Gr w1 (w1.setCell ⟨w.heap.size+1+1+1,0,none⟩ (F z Q aa)) (λq=>q=w.heap.size+3):=(Gr.refl w1 (λq=>q=w.heap.size+3)).one (w.heap.size+3) 0 (.inl rfl) _;exact Tr.set_cells (Tr.set_cells (Tr.set_cells (Tr.set_cells (g.heap h4 (λe=>by have e:w.heap.size+4=w.heap.size+3:=e;omega)) 0 _) 1 _) 2 _) 3 _
 have v3:V.heap[w.heap.size+3]? = some (cW [F z Q aa].toArray 24 (0,0)):=by
  rw[hV];have g:Gr (w1.setCell ⟨w.heap.size+1+1+1,0,none⟩ (F z Q aa)) (((((w1.setCell ⟨w.heap.size+1+1+1,0,none⟩ (F z Q aa)).setCell ⟨w.heap.size+1+1+1+1,0,none⟩ (F n5 ae aj)).setCell ⟨w.heap.size+1+1+1+1,1,none⟩ (F b5 ac ah)).setCell ⟨w.heap.size+1+1+1+1,2,none⟩ (F p5 ag ak)).setCell ⟨w.heap.size+1+1+1+1,3,none⟩ (E J D.tip)) (λq=>q=w.heap.size+4):=(Gr.refl (w1.setCell ⟨w.heap.size+1+1+1,0,none⟩ (F z Q aa)) (λq=>q=w.heap.size+4)).four (w.heap.size+4) (.inl rfl) _ _ _ _;exact g.heap (Tr.set_cells h3 0 _) (λe=>by have e:w.heap.size+3=w.heap.size+4:=e;omega)
 have bq:=Zd v3;have br:=Zd v4;have bs:=Zd v5;have GV:=Zd gV
 have dd:Hid (∀ W,Gr w1 W (λq=>q=w.heap.size+3\/q=w.heap.size+4\/q=w.heap.size+5)->NtkR w W x nm D (cY (cZ #[.agg #[F z Q aa],.agg #[F n5 ae aj,F b5 ac ah,F p5 ag ak,E J D.tip],E J nm,E J x]))):=λW g=>by
  have ds:=Za bz;refine⟨z,Q,aa,n5,ae,aj,b5,ac,ah,p5,ag,ak,rfl,λW2 g2=>hF W2 ((g.mono (λq _ e=>?_)).trans (g2.mono (λq _ e=>?_))),s1,s2,s3,s4,?_⟩
  ·show q<X.heap.size;omega
  ·have e:q<w.heap.size:=e;show q<X.heap.size;omega
  ·have gX:Gr w X (λq=>False):=Gr.of bo;have gW:Gr w W (λ_=>False):=(gX.far g1 (λq e=>.inl (by have e:q=w.heap.size+5:=e;omega))).far g (λq e=>.inl (by omega));exact gW.below (Below.refl _ _) (aH _) (λ_ q=>q.elim)
 clear hr hF s1 s2 s3 s4 cf g1 h3 h4 v3 v4 v5 gV HX bk bu bv bx C1 t0 t1 t2 t3 t4 tl dq bz bo
 go_upto_region 2 with fail
 rw[<-hV];clear hV o0 of ol p0 p1 p2 p3 cu cw cx cy pl;have v3:=Za bq;have v4:=Za br;have v5:=Za bs;have o0:=Zb v3 0 _ rfl;have of:=Zg v3 0;have ol:=aA v3;have p0:=Zb v4 0 _ rfl;have p1:=Zb v4 1 _ rfl;have p2:=Zb v4 2 _ rfl;have p3:=Zb v4 3 _ rfl;have cu:=Zg v4 0;have cw:=Zg v4 1;have cx:=Zg v4 2;have cy:=Zg v4 3;have pl:=aA v4;have q0:=Zb v5 0 _ rfl;have du:=Zg v5 0;have ql:=aA v5;clear v3 v4 v5 bq br bs
 go_region
 all_goals
  go_wp2;(try simp only[Exit.inBlock,Exit.then]);refine bA (v:=cZ #[.agg #[F z Q aa],.agg #[F n5 ae aj,F b5 ac ah,F p5 ag ak,E J D.tip],E J nm,E J x]) ?_ rfl ?_
  ·rw[Rm rfl];go_simp
  ·exact dd _ (((((GV.one (w.heap.size+3) 0 (.inl (.inl rfl)) _).four (w.heap.size+4) (.inl (.inr (.inl rfl))) _ _ _ _).one (w.heap.size+5) 0 (.inl (.inr (.inr rfl))) _).trans (Gr.of (Zi _))))
open Bk (Right nm nmGo nameR place)
def Chn(K:List ByteArray)(h:Int):List Zj->List TxD->List Zj->Prop
 | C,[],D=>C=D
 | C,t::l,D=>∃ C' s n,Zv t=0/\t.2.1.length≠0/\nm K (Z8 t)=(K,n,0)/\apD C t n h=(0,C',s)/\Chn K h C' l D
theorem Dn{K:List ByteArray}(hK:Right K)(s:ByteArray):nameR K s=nm K s:=by unfold Bk.nameR;rw[if_pos ((Bk.right_iff K).2 hK)]
theorem Qe{t:TxD}(h:Zv t=0):txT t=Z8 t:=by unfold txT;rw[if_pos h]
theorem Nd{h:Int}{K:List ByteArray}(hK:Right K):∀ (S:List TxD) (C C1:List Zj),Z0 h S (K,C)=(S,K,C1)->Chn K h C S C1
 | [],C,C1,e=>by
  rw[Z0] at e;exact (Prod.mk.inj (Prod.mk.inj e).2).2
 | t :: l,C,C1,e=>by
  rw[Z0] at e;by_cases q:(doD h (K,C) t).1=0
  ·rw[if_pos q] at e;injection e with e1 e2;injection e1 with _ e1;have z:Z0 h l (doD h (K,C) t).2=(l,K,C1):=Prod.ext e1 e2;obtain⟨⟨x,K',C'⟩,Q⟩:=ZF (doD h (K,C) t);rw[Q] at q z;simp only at q z;subst q;obtain⟨d1,⟨M,rfl⟩,_⟩:=Gv hK Q;obtain⟨_,M2,s2⟩:=Uf (h:=h) l (K++M) C' d1;rw[z] at s2
   have hM:M=[]:=by
    have s3:K=K++M++M2:=s2;have:=congrArg List.length s3;rw[cF,cF] at this;exact List.length_eq_zero_iff.1 (by omega)
   subst hM;rw[List.append_nil] at Q z;obtain⟨p1,p2,n,s,p3,p4⟩:=Gu Q;rw[Dn hK,Qe p1] at p3;exact ⟨C',s,n,p1,p2,p3,p4,Nd hK l C' C1 z⟩
  ·rw[if_neg q] at e;have h1:=congrArg (λr=>r.1.length) e;have h2:=Sy h l (K,C);have h3:=congrArg List.length (Q6 h l (K,C));rw[List.length_map] at h3;simp only[List.length_cons] at h1;omega
theorem Zbo{h:Int}{K:List ByteArray}{C C1:List Zj}{S:List TxD}(z:Chn K h C S C1):∀ t∈S,(nm K (Z8 t)).1=K/\(nm K (Z8 t)).2.2=0:=by
 induction S generalizing C with
 |nil=>intro t q;cases q
 |cons t l ih=>
  obtain⟨_,_,_,_,_,h3,_,h5⟩:=z;intro x hx
  rcases bC.1 hx with rfl|hx
  ·rw[h3];exact⟨rfl,rfl⟩
  ·exact ih h5 x hx
theorem Dk{K:List ByteArray}:∀ (l:List ByteArray) (z:List Int),(∀ s∈l,s.size<=4000/\0<Bk.place s K)->Bk.nmGo K z l=(K,z++l.map (λs=>(Bk.place s K:Int)),0)
 | [],z,_=>by rw[Bk.nmGo];simp
 | s :: r,z,h=>by
  have Q:=h s (by simp);have e:=Bk.nm_there Q.1 Q.2;rw[Bk.nmGo,e];simp only[if_true];rw[Dk r _ (λx hx=>h x (by simp[hx]))];simp
theorem V5{K:List ByteArray}{s:Int}{b:Zl}(h:kbD K s b=true):Yn b=0/\(Bk.place (Fy b) K:Int)=s/\∀ t∈b.2.2.2.2,Zv t=0/\Bk.place (txT t) K≠0:=by
 unfold kbD at h;simp only[Bool.and_eq_true,decide_eq_true_eq,List.all_eq_true] at h;refine⟨h.1,h.2.1,λt z=>?_⟩;have:=h.2.2 t z;unfold knT at this;simpa using this
theorem Dr{K:List ByteArray}{s:Int}{b:Zl}(h1:Yn b=0)(h2:(Bk.place (Fy b) K:Int)=s)(h3:∀ t∈b.2.2.2.2,Zv t=0/\Bk.place (txT t) K≠0):kbD K s b=true:=by
 unfold kbD;simp only[Bool.and_eq_true,decide_eq_true_eq,List.all_eq_true];refine⟨h1,h2,λt z=>?_⟩;unfold knT;simpa using h3 t z
theorem Qn{K M:List ByteArray}{s:Int}{b:Zl}(h0:s≠0)(h:kbD K s b=true):kbD (K++M) s b=true:=by
 obtain⟨h1,h2,h3⟩:=V5 h;refine Dr h1 ?_ (λt z=>⟨(h3 t z).1,?_⟩)
 ·rw[Bk.place_stays M (by omega)];exact h2
 ·have:=(h3 t z).2;rw[Bk.place_stays M (by omega)];exact this
theorem Tz{b:Zl}(h:Yn b=0):Fy b=Wb b:=by unfold Fy;rw[if_pos h]
theorem Pv{K:List ByteArray}(hK:Bk.Right K){s:ByteArray}(h:0<Bk.place s K):s.size<=4000:=by
 have z:s∈K:=Classical.byContradiction λq=>by have:=Bk.place_zero.2 q;omega
 exact hK.2.2 s z
theorem Tk{K:List ByteArray}(hK:Bk.Right K){s:Int}{b:Zl}(h0:s≠0)(h:kbD K s b=true):Xv K b=(K,s,b.2.2.2.2.map (λt=>(Bk.place (Z8 t) K:Int)),0):=by
 obtain⟨h1,h2,h3⟩:=V5 h
 have z:Bk.allR K (Yk b)=(K,(Yk b).map (λs=>(Bk.place s K:Int)),0):=by
  unfold Bk.allR;rw[if_pos ((Bk.right_iff K).2 hK)]
  have:=Dk (K:=K) (Yk b) [] (λx hx=>by
   have hp:0<Bk.place x K:=by
    unfold Yk at hx
    rcases cH.1 hx with q|q
    ·obtain⟨t,Q,rfl⟩:=List.mem_map.1 q;have:=h3 t Q;rw[Qe this.1] at this;omega
    ·have e:x=Wb b:=(by simpa using q);rw[e,<-Tz h1];omega
   exact⟨Pv hK hp,hp⟩)
  simpa using this
 unfold Xv;rw[if_neg (by rw[h1];decide),z];simp only[ne_eq,not_true_eq_false,if_false];rw[Tz h1] at h2;refine Prod.ext rfl (Prod.ext ?_ (Prod.ext ?_ rfl))
 ·simp only[Yk,List.map_append,List.map_map,List.map_cons,List.map_nil];rw[List.getD_eq_getElem?_getD,List.getElem?_append_right (by simp)];simp[h2]
 ·simp only[Yk,List.map_append,List.map_map,List.map_cons,List.map_nil];rw[List.take_append_of_le_length (by simp)];simp[List.take_of_length_le,Function.comp_def]
theorem Zbl{K M:List ByteArray}(hK:Bk.Right K)(hM:Bk.Right (K++M)){s:Int}{b:Zl}(h0:s≠0)(h:kbD K s b=true)(C:List Zj):Um (K++M) C b=Um K C b:=by
 have z:=Tk hK h0 h;have Q:=Tk hM h0 (Qn h0 h);obtain⟨_,_,h3⟩:=V5 h
 have e3:b.2.2.2.2.map (λt=>(Bk.place (Z8 t) (K++M):Int))=b.2.2.2.2.map (λt=>(Bk.place (Z8 t) K:Int)):=List.map_congr_left (λt ht=>by
  have:=h3 t ht;rw[Qe this.1] at this;rw[Bk.place_stays M (by omega)])
 have en:nfD (K++M) C b=nfD K C b:=by
  unfold nfD;rw[z,Q,e3]
 unfold Um;rw[en]
theorem Tb{K M:List ByteArray}(hK:Bk.Right K)(Q:Bk.Right (K++M)):∀ (N:List Int) (T:List Zl) (β : Int->List Zj),(∀ x∈N,x≠0)->(Ye K N T β).1=0->Ye (K++M) N T β = Ye K N T β
 | [],_,β,_,_=>rfl
 | _ :: _,[],β,_,_=>rfl
 | s :: N,b :: T,β,hn,h=>by
  have h0:=hn s (by simp);rw[Ye] at h ⊢;rw[Ye];split at h
  ·cases h
  rename_i z;have z:kbD K s b=true:=by simpa using z
  split at h
  ·rename_i q;exact absurd h q
  rename_i q2;rw[Qn h0 z,Zbl hK Q h0 z,z];simp only[Bool.true_eq_false,if_false,if_neg q2];exact Tb hK Q N T _ (λx hx=>hn x (by simp[hx])) h
theorem Gc:∀ (l L:List ByteArray) (N:List Int) (M:List ByteArray) (N':List Int),Bk.nmGo L N l=(M,N',0)->N'=N++l.map (λs=>(Bk.place s M:Int))/\∀ s∈l,0<Bk.place s M
 | [],L,N,M,N',h=>by
  rw[Bk.nmGo] at h;simp only[aU,and_true] at h;obtain⟨_,rfl⟩:=h;simp
 | s :: r,L,N,M,N',h=>by
  rw[Bk.nmGo] at h;split at h
  ·rename_i q;obtain⟨p1,p2,_⟩:=Bk.nm_place q;obtain⟨e1,e2⟩:=Gc r _ _ M N' h;have hg:=Bk.nmGo_grows r (Bk.nm L s).1 (N++[(Bk.nm L s).2.1]) (by rw[h]);obtain⟨Q,z⟩:=hg;rw[h] at z;have z:M=(Bk.nm L s).1++Q:=z;have hs:Bk.place s M=Bk.place s (Bk.nm L s).1:=(by rw[z];exact Bk.place_stays Q p2);refine⟨?_,λx hx=>?_⟩
   ·rw[e1,p1,<-hs];simp
   ·rcases bC.1 hx with rfl|hx
    ·rw[hs];exact p2
    ·exact e2 x hx
  ·rename_i q;simp only[aU] at h;exact absurd h.2.2 q
theorem Zas{b:Zl}(h:Yn b=0):∀ t∈b.2.2.2.2,Zv t=0:=by
 obtain⟨p,z,k,n,L⟩:=b;exact (Vg h).2.2.2.2
theorem Zah{K Q:List ByteArray}{b:Zl}{s:Int}{Ns:List Int}(hK:Bk.Right K)(h:Xv K b=(Q,s,Ns,0)):Bk.Right Q/\(∃ M,Q=K++M)/\kbD Q s b=true/\s≠0:=by
 unfold Xv at h;split at h
 ·rename_i q;simp only[aU] at h;exact absurd h.2.2.2 q
 rename_i hc;have hc:=aZ.1 hc;split at h
 ·rename_i q;simp only[aU] at h;exact absurd h.2.2.2 q
 rename_i z;have z:=aZ.1 z;simp only[aU] at h;obtain⟨h1,h2,_,_⟩:=h;obtain⟨⟨A,B,ap⟩,hr⟩:=ZF (Bk.allR K (Yk b));rw[hr] at h1 h2 z;have z:ap=0:=z;subst z;have h1:A=Q:=h1;subst h1
 have ac:Bk.nmGo K [] (Yk b)=(A,B,0):=by
  unfold Bk.allR at hr;rw[if_pos ((Bk.right_iff K).2 hK)] at hr;exact hr
 have hg:=Bk.nmGo_grows (Yk b) K [] (by rw[ac]);have hR:=Bk.nmGo_right (Yk b) K [] hK (by rw[ac]);rw[ac] at hg hR;obtain⟨e1,e2⟩:=Gc _ _ _ _ _ ac;have hb:0<Bk.place (Wb b) A:=e2 _ (by unfold Yk;simp)
 have hs:s=(Bk.place (Wb b) A:Int):=by
  rw[<-h2,e1];simp only[Yk,List.map_append,List.map_map,List.map_cons,List.map_nil,List.nil_append];rw[List.getD_eq_getElem?_getD,List.getElem?_append_right (by simp)];simp
 refine⟨hR,hg,Dr hc (by rw[Tz hc];exact hs.symm) (λt ht=>?_),by omega⟩;have ah:=(Zas hc t ht);refine⟨ah,?_⟩;rw[Qe ah];have:=e2 (Z8 t) (by unfold Yk;simp only[cH,List.mem_map];exact .inl ⟨t,ht,rfl⟩);omega
theorem Ed{K:List ByteArray}{s:Int}{b:Zl}:∀ (N:List Int) (T:List Zl) (β γ : Int->List Zj),N.length=T.length->Ye K N T β = (0,γ)->kbD K s b=true->(Um K (γ b.1) b).1=0->Ye K (N++[s]) (T++[b]) β = (0,Sp γ s (Um K (γ b.1) b).2.1)
 | [],[],β,γ,_,h,h1,h2=>by
  rw[Ye] at h;simp only[aU,true_and] at h;subst h;show Ye K [s] [b] β = _;rw[Ye,h1,Ye];simp[h2]
 | [],_ :: _,β,γ,hl,_,_,_=>by simp at hl
 | _ :: _,[],β,γ,hl,_,_,_=>by simp at hl
 | x :: N,c :: T,β,γ,hl,h,h1,h2=>by
  rw[Ye] at h;show Ye K (x :: (N++[s])) (c :: (T++[b])) β = _;rw[Ye];split at h
  ·cases h
  rename_i z;rw[if_neg z];split at h
  ·rename_i q;exact absurd (congrArg Prod.fst h) q
  rename_i Q;rw[if_neg Q];exact Ed N T _ γ (by simpa using hl) h h1 h2
theorem Zei{N:List Int}{T:List Zl}(z:Tr.chkTr N T=0):∀ (n k:Nat) (_:k<N.length) (h':k<T.length),k<=n->T[k].2.1<=(k:Int)+1
 | n,k,h,h',hn=>by
  have ok:=Tr.TrOk.of z;obtain⟨a1,a2⟩:=Tr.ahead z k h h';have p:=ok.hgt N[k] (List.getElem_mem h);rw[a1] at p
  rcases a2 with e|e
  ·rw[e,Tr.fnd_out ok.len ok.zero] at p;have:T[k].2.1=0+1:=p;omega
  ·obtain⟨j,hj,Q⟩:=List.getElem_of_mem e;have ae:j<k:=(by rw[List.length_take] at hj;omega);rw[List.getElem_take] at Q;have aa:j<T.length:=(by omega);have b1:=(Tr.ahead z j (by omega) aa).1
   match n,hn with
   | 0,hn=>omega
   | n+1,hn=>
    have ih:=Zei z n j (by omega) aa (by omega);rw[<-Q,b1] at p;omega
theorem Zgd{N:List Int}{T:List Zl}{t:Int}(h:Tr.bstD N T=(t,0)):0<=Y8 N T t/\Y8 N T t<=24:=by
 obtain⟨z,ht⟩:=Xr h;have ok:=Tr.TrOk.of z;have hb:=(My h).2.1;have h24:=(Vk z).2.1;refine⟨hb,?_⟩;unfold Y8 Tr.blockE;rw[if_neg (λq=>q z)];split
 ·rename_i q;have q:t∈N:=by simpa using q
  obtain⟨k,Q,rfl⟩:=List.getElem_of_mem q;have aa:k<T.length:=by rw[<-ok.len];exact Q
  have:=Zei z k k Q aa (aH _);simp only;rw[(Tr.ahead z k Q aa).1];omega
 ·show (0:Int)<=24;decide
theorem Ap{K:List ByteArray}{C:List Zj}{P:List TxD}{h:Int}(e:swE K C P h=0){N:List Int}{T:List Zl}{t:Int}{β : Int->List Zj}(hC : β t=C)(hh:Y8 N T t+1=h):poE (Z0 h P (K,C)).2.1 N T (Z0 h P (K,C)).1 t β = 0:=by
 obtain⟨o,hl⟩:=Rj e;obtain⟨hK,ag,h1,h2⟩:=Uu o;obtain⟨r1,_⟩:=Uf P K C hK (h:=h);have Q:=Ri P K C [] hK (h:=h) (by rw[List.append_nil];exact r1);rw[List.append_nil] at Q;obtain⟨⟨z,K2,C2⟩,hr⟩:=ZF (Z0 h P (K,C))
 have ap:z.length<=P.length:=by
  have:=Sy h P (K,C);have e2:=congrArg List.length (Q6 h P (K,C));rw[List.length_map,hr] at e2;have e2:(swT h P (K,C)).length=z.length:=e2;omega
 have ac:=(Pj P K C hK ag (h:=h)).2.2;rw[hr] at Q r1 ac ⊢;simp only at Q r1 ac ⊢;have ck:=Zbo (Nd r1 z C C2 Q);unfold poE;split
 ·rfl
 have al:z.all (knT K2)=true:=List.all_eq_true.2 (λx hx=>by
  have c1:=(ac x hx).1;have c2:=ck x hx;have c3:=Bk.nm_place c2.2;rw[c2.1] at c3;unfold knT;rw[Qe c1];have:=c3.2.1;simp[c1];omega)
 rw[if_neg (by rw[al];decide),hC,hh,Q]
 have am:swE K2 C z h=0:=by
  unfold swE;rw[Df r1 ag h1 h2];simp;omega
 rw[if_neg (by rw[am];decide)];simp
theorem Ep{K:List ByteArray}{N:List Int}{T:List Zl}{P:List TxD}{tip:Int}{b:Zl}{nm:Int}{D:Dsk}(h:opE K N T P tip=0)(e:tkR ⟨K,N,T,P,tip,(Ye K N T noB).2⟩ b=(0,nm,D)) :
  opE D.k D.n D.t D.p D.tip=0/\(Ye D.k D.n D.t noB).2=D.β/\D.n=N++[nm]/\D.t=T++[b]/\kbD D.k nm b=true/\(∃ M,D.k=K++M)/\Tr.addE N T nm b=(D.n,D.t,0):=by
 obtain⟨o1,o2,o3,_⟩:=Wx h;have hK:=(Bk.right_iff K).1 o1;obtain⟨⟨z,s,Ns,x1⟩,h1⟩:=ZF (Xv K b);obtain⟨⟨N1,T1,x2⟩,h2⟩:=ZF (Tr.addE N T s b);obtain⟨⟨x3,C3,U3⟩,h3⟩:=ZF (Um z ((Ye K N T noB).2 b.1) b);obtain⟨⟨t,x4⟩,h4⟩:=ZF (Tr.bstD N1 T1);obtain⟨bx,hz⟩:=ZF (Y8 N1 T1 t);unfold tkR at e;simp only[h1,h2,h3,h4,hz] at e;split at e
 ·rename_i q;exact absurd (congrArg Prod.fst e) q
 rename_i q1;have q1:=aZ.1 q1;subst q1;split at e
 ·rename_i q;exact absurd (congrArg Prod.fst e) q
 rename_i q2;have q2:=aZ.1 q2;subst q2;split at e
 ·rename_i q;exact absurd (congrArg Prod.fst e) q
 rename_i q3;have q3:=aZ.1 q3;subst q3;split at e
 ·rename_i q;exact absurd (congrArg Prod.fst e) q
 rename_i q4;have q4:=aZ.1 q4;subst q4;split at e
 ·rename_i q;exact absurd (congrArg Prod.fst e) q
 rename_i q5;have q5:=aZ.1 q5;obtain⟨k1,⟨M1,af⟩,k3,k4⟩:=Zah hK h1;obtain⟨hc,_,_,a1,a2⟩:=Tr.addE_ok h2;have ok:=Tr.TrOk.of hc;have bd:∀ x∈N,x≠0:=λx hx=>by have:=(ok.nm x hx).1;omega
 have az:Ye z N T noB=(0,(Ye K N T noB).2):=by
  rw[af,Tb hK (af ▸ k1) N T noB bd o3];exact Prod.ext o3 rfl
 have ad:=Ed N T noB _ ok.len az k3 (by rw[h3]);rw[h3,<-a1,<-a2] at ad;have bg:=Zgd h4;rw[hz] at bg;have bf:¬1000<bx+1:=by omega
 obtain⟨γ,hγ⟩:∃ γ,Sp (Ye K N T noB).2 s C3 = γ:=⟨_,rfl⟩;simp only[hγ] at e q5 ad;unfold Zcp at e q5;rw[if_neg bf] at e q5;simp only at e q5
 have hF:swF z (γ t) P (bx+1) (swE z (γ t) P (bx+1))=((Z0 (bx+1) P (z,γ t)).2.1,(Z0 (bx+1) P (z,γ t)).1,(Z0 (bx+1) P (z,γ t)).2.2,Zp (γ t) - Zp (Z0 (bx+1) P (z,γ t)).2.2):=by
  unfold swF;rw[if_pos q5]
 rw[hF] at e;simp only[aU,true_and] at e;obtain⟨rfl,rfl⟩:=e;simp only;obtain⟨r1,M2,ae⟩:=Uf P z (γ t) k1 (h:=bx+1);have be:∀ x∈N1,x≠0:=λx hx=>by have:=((Tr.TrOk.of (Xr h4).1).nm x hx).1;omega
 have aq:Ye (Z0 (bx+1) P (z,γ t)).2.1 N1 T1 noB=(0,γ):=by
  rw[ae,Tb k1 (ae ▸ r1) N1 T1 noB be (by rw[ad])];exact ad
 have po:=Ap q5 (N:=N1) (T:=T1) (t:=t) (β:=γ) rfl (by rw[hz]);refine⟨?_,by rw[aq],a1,a2,by rw[ae];exact Qn k4 k3,⟨M1++M2,by rw[ae,af,List.append_assoc]⟩,h2⟩;unfold opE;rw[if_neg (by rw[(Bk.right_iff _).2 r1];decide),h4];simp only[ne_eq,not_true_eq_false,if_false,aq];exact po
theorem mvd{V W:World}{b:Nat}{o:Obj}(z:Below V.heap.size V W)(h:Hid (V.heap[b]? = some o)):Hid (W.heap[b]? = some o):=ZE z h
theorem onb{U V W:World}(h:Hid (Below U.heap.size U V))(z:Below V.heap.size V W):Hid (Below U.heap.size U W):=Zf h z
section
variable {V : World} {b : Nat} {t : TypeId} {v0 v1 v2 v3 v4 : Value}
theorem cl1(h:Hid (V.heap[b]? = some (cW [v0].toArray t (0,0)))):V.cell? ⟨b,0,none⟩=some v0/\b<V.heap.size:=⟨Zb h 0 _ rfl,aA h⟩
theorem cl2(h:Hid (V.heap[b]? = some (cW [v0,v1].toArray t (0,0)))):V.cell? ⟨b,0,none⟩=some v0/\V.cell? ⟨b,1,none⟩=some v1/\b<V.heap.size:=⟨Zb h 0 _ rfl,Zb h 1 _ rfl,aA h⟩
theorem cl3(h:Hid (V.heap[b]? = some (cW [v0,v1,v2].toArray t (0,0)))):V.cell? ⟨b,0,none⟩=some v0/\V.cell? ⟨b,1,none⟩=some v1/\V.cell? ⟨b,2,none⟩=some v2/\b<V.heap.size:=⟨Zb h 0 _ rfl,Zb h 1 _ rfl,Zb h 2 _ rfl,aA h⟩
theorem cl4(h:Hid (V.heap[b]? = some (cW [v0,v1,v2,v3].toArray t (0,0)))):V.cell? ⟨b,0,none⟩=some v0/\V.cell? ⟨b,1,none⟩=some v1/\V.cell? ⟨b,2,none⟩=some v2/\V.cell? ⟨b,3,none⟩=some v3/\b<V.heap.size:=⟨Zb h 0 _ rfl,Zb h 1 _ rfl,Zb h 2 _ rfl,Zb h 3 _ rfl,aA h⟩
theorem cl5(h:Hid (V.heap[b]? = some (cW [v0,v1,v2,v3,v4].toArray t (0,0)))):V.cell? ⟨b,0,none⟩=some v0/\V.cell? ⟨b,1,none⟩=some v1/\V.cell? ⟨b,2,none⟩=some v2/\V.cell? ⟨b,3,none⟩=some v3/\V.cell? ⟨b,4,none⟩=some v4/\b<V.heap.size:=⟨Zb h 0 _ rfl,Zb h 1 _ rfl,Zb h 2 _ rfl,Zb h 3 _ rfl,Zb h 4 _ rfl,aA h⟩
end
