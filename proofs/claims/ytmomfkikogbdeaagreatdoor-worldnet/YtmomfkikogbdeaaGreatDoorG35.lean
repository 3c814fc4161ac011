import Derived.Test.YtmomfkikogbdeaaGreatDoorH
import Derived.Test.YtmomfkikogbdeaaGreatDoorG33
import Derived.Test.YtmomfkikogbdeaaGreatDoorG34
open Go renaming lt_of_block->aA,wpAnyH_ready->aG
open Go.Act renaming put->aC
open Go.Ending renaming returned->cY
open Go.IntKind renaming i64->J
open Go.Obj renaming cells->cW
open Go.Value renaming int->E,slice->F,tuple->cZ,pointer->dA
open Nat renaming lt_of_lt_of_le->aE
open Prod.mk renaming injEq->aU
namespace Go.Proofs.YtmomfkikogbdeaaGreatDoor
open Go.RowKit
structure Dsk where
 k:List ByteArray
 n:List Int
 t:List Zl
 p:List TxD
 tip:Int
 β : Int->List Zj
def tkR(D:Dsk)(b:Zl):Int×Int×Dsk:=
 if (Xv D.k b).2.2.2≠0 then ((Xv D.k b).2.2.2,0,D) else
 if (Tr.addE D.n D.t (Xv D.k b).2.1 b).2.2≠0 then ((Tr.addE D.n D.t (Xv D.k b).2.1 b).2.2,0,D) else
 if (Um (Xv D.k b).1 (D.β b.1) b).1≠0 then ((Um (Xv D.k b).1 (D.β b.1) b).1,0,D) else
 if (Tr.bstD (Tr.addE D.n D.t (Xv D.k b).2.1 b).1 (Tr.addE D.n D.t (Xv D.k b).2.1 b).2.1).2≠0 then ((Tr.bstD (Tr.addE D.n D.t (Xv D.k b).2.1 b).1 (Tr.addE D.n D.t (Xv D.k b).2.1 b).2.1).2,0,D) else
 let N1:=(Tr.addE D.n D.t (Xv D.k b).2.1 b).1
 let T1:=(Tr.addE D.n D.t (Xv D.k b).2.1 b).2.1
 let t:=(Tr.bstD N1 T1).1
 let γ:=Sp D.β (Xv D.k b).2.1 (Um (Xv D.k b).1 (D.β b.1) b).2.1
 let v:=Zcp (Xv D.k b).1 (γ t) D.p (Y8 N1 T1 t+1)
 if v.2.2≠0 then (v.2.2,0,D) else (0,(Xv D.k b).2.1,⟨v.1,N1,T1,v.2.1,t,γ⟩)
def DeskOn(Z:Nat->Prop)(w:World)(d bm m:Nat)(D:Dsk):Prop:=Zfq Z w d bm m D.k D.n D.t D.p D.tip D.β
def TakR(Z:Nat->Prop)(w w':World)(d bm m:Nat)(D:Dsk)(x nm:Int)(e:Ending):Prop:=
 e = cY (cZ #[E J nm,E J x])/\Gr w w' (λq=>q=d\/q=bm)/\(x=0->DeskOn Z w' d bm (m+1) D)
section
variable {Z : Nat -> Prop} {w w' : World} {d bm m : Nat} {ka na ba pa : Option Addr} {kn kc nn nc bn bc pn pc : Nat} {K : List ByteArray} {N : List Int} {T : List Zl} {P : List TxD} {tip : Int} {f : Int -> Value} {β : Int -> List Zj}
theorem DeskAt.named(h:DeskAt Z w d bm m ka kn kc K na nn nc N ba bn bc T pa pn pc P tip f β){v z:World}(Q:Below w.heap.size w v)(h1:Below v.heap.size v z){ka':Option Addr}{kn' kc':Nat}{K':List ByteArray}(hK:Fresh v.heap.size z (λw2=>Bk.TextsAt w2 ka' kn' K'))(sk:SlOk ka' kn' kc') :
  DeskAt Z (z.setCell ⟨d,0,none⟩ (F ka' kn' kc')) d bm m ka' kn' kc' K' na nn nc N ba bn bc T pa pn pc P tip f β:=by
 have h2:=h.later (Zf Q h1);have g:Gr z (z.setCell ⟨d,0,none⟩ (F ka' kn' kc')) (λq=>q=d):=(Gr.refl z (λq=>q=d)).one d 0 (.inl rfl) _;have l1:=aA h.box;have l2:=h.mp.lt;have l3:=Q.size;refine h2.set g (Tr.set_cells h2.box 0 _) (λW gW D0=>⟨?_,D0.n,D0.b,D0.p⟩) sk h.sn h.sb h.sp
 exact hK W ((g.mono (λq _ e=>by have e:q=d:=e;omega)).trans (gW.mono (λq _ e=>by
  rcases e with e|e|e
  ·omega
  ·omega
  ·exact aE (h.zb q e) l3)))
theorem DeskAt.grown(h:DeskAt Z w d bm m ka kn kc K na nn nc N ba bn bc T pa pn pc P tip f β){v Q:World}(hv:Below w.heap.size w v)(h1:Below v.heap.size v Q){na' ba':Option Addr}{z nc' bc':Nat}{N':List Int}{T':List Zl}(hF:Fresh v.heap.size Q (λw2=>Tr.IntsAt w2 na' z N'/\Tr.BlksAt w2 ba' z T'))(s1:SlOk na' z nc')(s2:SlOk ba' z bc') :
  DeskAt Z ((Q.setCell ⟨d,1,none⟩ (F na' z nc')).setCell ⟨d,2,none⟩ (F ba' z bc')) d bm m ka kn kc K na' z nc' N' ba' z bc' T' pa pn pc P tip f β:=by
 have h2:=h.later (Zf hv h1);have g:Gr Q ((Q.setCell ⟨d,1,none⟩ (F na' z nc')).setCell ⟨d,2,none⟩ (F ba' z bc')) (λq=>q=d):=((Gr.refl Q (λq=>q=d)).one d 1 (.inl rfl) _).one d 2 (.inl rfl) _;have l1:=aA h.box;have l2:=h.mp.lt;have l3:=hv.size;refine h2.set g (Tr.set_cells (Tr.set_cells h2.box 1 _) 2 _) (λW gW D0=>?_) h.sk s1 s2 h.sp;have aa:=hF W ((g.mono (λq _ e=>by have e:q=d:=e;omega)).trans (gW.mono (λq _ e=>e.elim (λe=>by omega) (λe=>e.elim (λe=>by omega) (λe=>aE (h.zb q e) l3)))));exact⟨D0.k,aa.1,aa.2,D0.p⟩
theorem DeskAt.tipped(h:DeskAt Z w d bm m ka kn kc K na nn nc N ba bn bc T pa pn pc P tip f β)(t:Int) :
  DeskAt Z (w.setCell ⟨d,4,none⟩ (E J t)) d bm m ka kn kc K na nn nc N ba bn bc T pa pn pc P t f β:=by
 have g:Gr w (w.setCell ⟨d,4,none⟩ (E J t)) (λq=>q=d):=(Gr.refl w (λq=>q=d)).one d 4 (.inl rfl) _;exact h.set g (Tr.set_cells h.box 4 _) (λW z D0=>⟨D0.k,D0.n,D0.b,D0.p⟩) h.sk h.sn h.sb h.sp
end
theorem My{N:List Int}{T:List Zl}{t:Int}(h:Tr.bstD N T=(t,0)):(Lit.int .i64 t).wf=true/\0<=Y8 N T t/\Y8 N T t<=1000:=by
 obtain⟨hc,z⟩:=Xr h;have Q:=Vk hc;refine⟨?_,Q.2.2.2.2.2 t⟩
 rcases z with rfl|z
 ·decide
 ·exact Q.2.2.1 t z
theorem Zkh{N:List Int}{T:List Zl}{s:Int}{b:Zl}{N':List Int}{T':List Zl}(h:Tr.addE N T s b=(N',T',0)):(Lit.int .i64 s).wf=true/\(Lit.int .i64 b.1).wf=true/\Tr.chkTr N' T'=0:=by
 obtain⟨h1,h2,h3,rfl,rfl⟩:=Tr.addE_ok h;have Q:=Tr.chkTr_snoc h1 h2 h3;have z:=Vk Q;exact⟨z.2.2.1 s (by simp),z.2.2.2.1 b (by simp),Q⟩
section
variable {Z : Nat -> Prop} {w : World} {d bm m : Nat} {ka na ba pa : Option Addr} {kn kc nn nc bn bc pn pc : Nat} {K : List ByteArray} {N : List Int} {T : List Zl} {P : List TxD} {tip : Int} {f : Int -> Value} {β : Int -> List Zj}
set_option maxRecDepth 10000 in
set_option maxHeartbeats 12800000 in
theorem Fg(h:DeskAt Z w d bm m ka kn kc K na nn nc N ba bn bc T pa pn pc P tip f β)(bb:World)(ct:Below bb.heap.size bb w)(hE:Env bb)(hd:bb.heap.size<=d)(fw:bb.heap.size<=bm)(hm:m<1000000)(p hh k o:Int)(a:Option Addr)(n c:Nat)(L:List TxD)(hL:∀ W,Gr w W (λq=>q=d\/q=bm)->TxsAt W a n L)(sL:SlOk a n c)(x fc:Int)(D:Dsk)(hx:tkR ⟨K,N,T,P,tip,β⟩ (p,hh,k,o,L)=(x,fc,D)) :
  Calls Tryz.prog 100 #[dA (some ⟨d,0,none⟩),.agg #[E J p,E J hh,E J k,E J o,F a n c]] w λe w'=>TakR Z w w' d bm m D x fc e:=by
 obtain⟨⟨K1,nm,Ns,x1⟩,h1⟩:=ZF (Xv K (p,hh,k,o,L));obtain⟨⟨N1,T1,x2⟩,h2⟩:=ZF (Tr.addE N T nm (p,hh,k,o,L));obtain⟨⟨x3,C3,U3⟩,h3⟩:=ZF (Um K1 (β p) (p,hh,k,o,L));obtain⟨⟨t,x4⟩,h4⟩:=ZF (Tr.bstD N1 T1);obtain⟨id,hz⟩:=ZF (Y8 N1 T1 t);obtain⟨⟨K2,P2,x5⟩,h5⟩:=ZF (Zcp K1 (Sp β nm C3 t) P (id+1));unfold tkR at hx;simp only[h1,h2,h3,h4,hz,h5] at hx;obtain⟨X,hX⟩:=ZG (w.alloc (cW #[E J p,E J hh,E J k,E J o,F a n c] 39));have dp:Below w.heap.size w X:=by rw[hX];exact Zh _ _
 have ax:X.heap[w.heap.size]? = some (cW [E J p,E J hh,E J k,E J o,F a n c].toArray 39 (0,0)):=by rw[hX];exact heap_alloc_new w _
 have dq:d<w.heap.size:=aA h.box;have eu:bm<w.heap.size:=h.mp.lt;have CN:=Zd (λV (hv:Below w.heap.size w V)=>Ay ka kn kc K p hh k o a n c L K1 nm Ns x1 V (hE.later (Zf ct hv)) (h.later hv).now.k (hL V (Gr.of hv)) h1);have dg:=Zd (λV (g:Gr w V (λq=>q=d\/q=bm))=>(g.below ct ct.size (λq e=>by rcases e with e|e <;> omega):Below bb.heap.size bb V));have KS:Hid (∀ U:World,Gr X U (λq=>q=d\/q=bm)->(d<U.heap.size/\U.cell? ⟨w.heap.size,0,none⟩=some (E J p)/\U.cell? ⟨w.heap.size,1,none⟩=some (E J hh)/\U.cell? ⟨w.heap.size,2,none⟩=some (E J k)/\U.cell? ⟨w.heap.size,3,none⟩=some (E J o)/\U.cell? ⟨w.heap.size,4,none⟩=some (F a n c)/\w.heap.size<U.heap.size)):=λU hu=>⟨aE dq (Nat.le_trans dp.size hu.size),hu.cell (Zb ax 0 _ rfl) (by simp;omega),hu.cell (Zb ax 1 _ rfl) (by simp;omega),hu.cell (Zb ax 2 _ rfl) (by simp;omega),hu.cell (Zb ax 3 _ rfl) (by simp;omega),hu.cell (Zb ax 4 _ rfl) (by simp;omega),aE (aA ax) hu.size⟩;have HH:=Zd h;have bd:=Zd dp;have HX:=Zd hx;have HL:=Zd hL;have el:=Zd sL;have HE:=Zd hE;have HM:=Zd hm;have H2:=Zd h2;have H3:=Zd h3;have H4:=Zd h4;have HZ:=Zd hz;have H5:=Zd h5;have ff:=Zd dq;have gl:=Zd eu;clear h ct hE hd fw hm hL sL hx h1 h2 h3 h4 hz h5 dp ax dq eu;go_enter Tryz.func100,Tryz.ntmps100
 go_upto_region 1 with fail
 rw[<-hX];clear hX
 go_cut [4,5] from 6 to 19 (λs4 s5 wx=>s4 = E J nm/\s5 = E J x1/\Hid (∃ ka' kn' kc',DeskAt Z wx d bm m ka' kn' kc' K1 na nn nc N ba bn bc T pa pn pc P tip f β/\Gr X wx (λq=>q=d\/q=bm)))
 case first=>
  refine wp_region_held_drew (S:=λU=>(d<U.heap.size/\U.cell? ⟨w.heap.size,0,none⟩=some (E J p)/\U.cell? ⟨w.heap.size,1,none⟩=some (E J hh)/\U.cell? ⟨w.heap.size,2,none⟩=some (E J k)/\U.cell? ⟨w.heap.size,3,none⟩=some (E J o)/\U.cell? ⟨w.heap.size,4,none⟩=some (F a n c)/\w.heap.size<U.heap.size)) (by kernel_rfl) (KS _ (Gr.of (Zi X))) (λz=>?_);refine tk 0 ⟨some 7,.move (.tmp 0),181, "desk.go:59",#[],none⟩ ?_ rfl ?_ z ?_;rotate_left
  ·(intro U Q;obtain⟨s0,s1,s2,s3,s4,s5,s6⟩:=Q;go_simp;first|done|with_reducible rfl)
  (try simp only[aC,ZA,ZB,ZC]);refine tk 1 ⟨some 8,.move (.tmp 0),181, "desk.go:59",#[],none⟩ ?_ rfl ?_ z ?_;rotate_left
  ·(intro U Q;obtain⟨s0,s1,s2,s3,s4,s5,s6⟩:=Q;go_simp;first|done|with_reducible rfl)
  (try simp only[aC,ZA,ZB,ZC]);refine tk 2 ⟨some 9,.nilCheck (.tmp 8),0, "desk.go:59",#[⟨1,.data⟩],none⟩ ?_ rfl ?_ z ?_;rotate_left
  ·(intro U Q;obtain⟨s0,s1,s2,s3,s4,s5,s6⟩:=Q;go_simp;first|done|with_reducible rfl)
  (try simp only[aC,ZA,ZB,ZC]);refine tk 3 ⟨some 10,.fieldAddr 254 (.tmp 9) 0,0, "desk.go:59",#[⟨2,.data⟩],none⟩ ?_ rfl ?_ z ?_;rotate_left
  ·(intro U Q;obtain⟨s0,s1,s2,s3,s4,s5,s6⟩:=Q;go_simp;first|done|with_reducible rfl)
  (try simp only[aC,ZA,ZB,ZC]);refine tk 5 ⟨some 12,.load 39 (.tmp 3),39, "desk.go:59",#[],none⟩ ?_ rfl ?_ z ?_;rotate_left
  ·(intro U Q;obtain⟨s0,s1,s2,s3,s4,s5,s6⟩:=Q;go_simp;first|done|with_reducible rfl)
  (try simp only[aC,ZA,ZB,ZC]);have hb:=Zf bd (Zi X);have l0:=Ze hb (Zb HH.box 0 _ rfl);have ll:=aE ff hb.size;refine aG (rs:=[4]) (by kernel_rfl) (by simp) ?_;refine AllReadyH.cons (o:=⟨some 11,.load 24 (.tmp 10),24, "desk.go:59",#[⟨3,.data⟩],none⟩) rfl (λKQ hK=>?_) AllReadyH.nil;go_simp;clear l0 ll;refine hK.out _ _ (KS _ (Gr.of (Zi X))) (λab=>?_);clear hK KQ z;have z:=ab;clear ab;(try simp only[aC,ZA,ZB,ZC]);refine aG (rs:=[6]) (by kernel_rfl) (by simp) ?_;refine AllReadyH.cons (o:=⟨some 13,.call { callee:=Callee.value (.func 27),args:=#[.tmp 11,.tmp 12],argTypes:=#[24,39] },53, "desk.go:59",#[⟨4,.data⟩,⟨5,.data⟩],none⟩) rfl (λKQ hK=>?_) AllReadyH.nil;refine Zm (by kernel_rfl) 27 #[.agg #[F ka kn kc],.agg #[E J p,E J hh,E J k,E J o,F a n c]] (by kernel_rfl) (CN _ hb) ?_;rintro e v1 ⟨k5,gb,ga,n5,gv,gu,rfl,fv,gi,-,-,ay⟩;refine⟨_,rfl,?_⟩;have gX:Gr X v1 (λq=>q=d\/q=bm):=Gr.of (Zf (Zi X) ay);refine hK.out _ _ (KS _ gX) (λab=>?_);clear hK KQ z;have z:=ab;clear ab;(try simp only[aC,ZA,ZB,ZC]);refine tk 7 ⟨some 6,.move (.tmp 13),53, "desk.go:59",#[⟨6,.data⟩],none⟩ ?_ rfl ?_ z ?_;rotate_left
  ·(intro U Q;go_simp;first|done|with_reducible rfl)
  (try simp only[aC,ZA,ZB,ZC]);refine tk 8 ⟨some 14,.extract (.tmp 6) 0,24, "desk.go:59",#[⟨7,.data⟩],none⟩ ?_ rfl ?_ z ?_;rotate_left
  ·(intro U Q;go_simp;first|done|with_reducible rfl)
  (try simp only[aC,ZA,ZB,ZC]);refine tk 9 ⟨some 15,.extract (.tmp 6) 1,3, "desk.go:59",#[⟨7,.data⟩,⟨14,.gcOnly .lateStores⟩],none⟩ ?_ rfl ?_ z ?_;rotate_left
  ·(intro U Q;go_simp;first|done|with_reducible rfl)
  (try simp only[aC,ZA,ZB,ZC]);refine tk 10 ⟨some 16,.extract (.tmp 6) 2,25, "desk.go:59",#[⟨7,.data⟩,⟨15,.gcOnly .lateStores⟩],none⟩ ?_ rfl ?_ z ?_;rotate_left
  ·(intro U Q;go_simp;first|done|with_reducible rfl)
  (try simp only[aC,ZA,ZB,ZC]);refine tk 11 ⟨some 17,.extract (.tmp 6) 3,30, "desk.go:59",#[⟨7,.data⟩,⟨15,.gcOnly .lateStores⟩],none⟩ ?_ rfl ?_ z ?_;rotate_left
  ·(intro U Q;go_simp;first|done|with_reducible rfl)
  (try simp only[aC,ZA,ZB,ZC]);refine tk 12 ⟨some 18,.nilCheck (.tmp 7),0, "desk.go:59",#[⟨0,.data⟩,⟨0,.phase⟩,⟨1,.phase⟩,⟨2,.phase⟩,⟨3,.phase⟩,⟨4,.phase⟩,⟨5,.phase⟩,⟨6,.phase⟩,⟨7,.phase⟩,⟨8,.phase⟩,⟨9,.textOnly .lateStores⟩,⟨10,.textOnly .lateStores⟩,⟨11,.textOnly .lateStores⟩],none⟩ ?_ rfl ?_ z ?_;rotate_left
  ·(intro U Q;go_simp;first|done|with_reducible rfl)
  (try simp only[aC,ZA,ZB,ZC]);refine tk 13 ⟨some 19,.fieldAddr 254 (.tmp 18) 0,0, "desk.go:59",#[⟨12,.data⟩,⟨0,.phase⟩,⟨1,.phase⟩,⟨2,.phase⟩,⟨3,.phase⟩,⟨4,.phase⟩,⟨5,.phase⟩,⟨6,.phase⟩,⟨7,.phase⟩,⟨8,.phase⟩,⟨9,.textOnly .lateStores⟩,⟨10,.textOnly .lateStores⟩,⟨11,.textOnly .lateStores⟩],none⟩ ?_ rfl ?_ z ?_;rotate_left
  ·(intro U Q;go_simp;first|done|with_reducible rfl)
  (try simp only[aC,ZA,ZB,ZC]);have dr:=Zf hb ay;have ar:=(HH.later dr).box;have y0:=Zb ar 0 _ rfl;have g0:=Zg ar 0;have yl:=aA ar;refine aG (rs:=[14]) (by kernel_rfl) (by simp) ?_;refine AllReadyH.cons (o:=⟨none,.store 24 (.tmp 19) (.tmp 14),0, "desk.go:59",#[⟨13,.data⟩,⟨8,.data⟩,⟨6,.chain⟩,⟨0,.phase⟩,⟨1,.phase⟩,⟨2,.phase⟩,⟨3,.phase⟩,⟨4,.phase⟩,⟨5,.phase⟩,⟨6,.phase⟩,⟨7,.phase⟩,⟨8,.phase⟩,⟨9,.textOnly .lateStores⟩,⟨10,.textOnly .lateStores⟩,⟨11,.textOnly .lateStores⟩],none⟩) rfl (λKQ hK=>?_) AllReadyH.nil;go_simp;refine hK.out _ _ (KS _ (gX.one d 0 (.inl (.inl rfl)) _)) (λab=>?_);clear hK KQ z;have z:=ab;clear ab;(try simp only[aC]);refine tk 15 ⟨some 4,.assign (.tmp 15),3, "desk.go:59",#[⟨9,.data⟩,⟨14,.chain⟩,⟨0,.phase⟩,⟨1,.phase⟩,⟨2,.phase⟩,⟨3,.phase⟩,⟨4,.phase⟩,⟨5,.phase⟩,⟨6,.phase⟩,⟨7,.phase⟩,⟨8,.phase⟩,⟨9,.phase⟩,⟨10,.textOnly .lateStores⟩,⟨11,.textOnly .lateStores⟩,⟨12,.phase⟩,⟨13,.phase⟩,⟨14,.phase⟩],none⟩ ?_ rfl ?_ z ?_;rotate_left
  ·(intro U Q;go_simp;first|done|with_reducible rfl)
  (try simp only[aC,ZA,ZB,ZC]);refine tk 16 ⟨some 5,.assign (.tmp 17),30, "desk.go:59",#[⟨11,.data⟩,⟨15,.chain⟩,⟨0,.phase⟩,⟨1,.phase⟩,⟨2,.phase⟩,⟨3,.phase⟩,⟨4,.phase⟩,⟨5,.phase⟩,⟨6,.phase⟩,⟨7,.phase⟩,⟨8,.phase⟩,⟨9,.phase⟩,⟨10,.phase⟩,⟨11,.phase⟩,⟨12,.phase⟩,⟨13,.phase⟩,⟨14,.phase⟩,⟨15,.phase⟩],none⟩ ?_ rfl ?_ z ?_;rotate_left
  ·(intro U Q;go_simp;first|done|with_reducible rfl)
  (try simp only[aC,ZA,ZB,ZC]);refine wpAnyH_done (by kernel_rfl) ?_ _;clear z;go_wp2_with fail;go_meet
  case rel=>exact⟨rfl,rfl,k5,gb,ga,HH.named hb ay fv gi,gX.one d 0 (.inl (.inl rfl)) _⟩
 case rest=>
  obtain⟨rfl,rfl,HC⟩:=hcut;clear CN;obtain⟨k1,fb,fa,ep,g1⟩:=Za HC;have am:=Zd ep;have G1:=Zd g1;clear HC ep g1;by_cases z1:x1=0
  ·subst z1;have ds:=Za HX;rw[if_neg (λq=>q rfl)] at ds;have cd:=Zd ds;clear ds HX;obtain⟨n1,ev⟩:=ZF (N1.length);have CA:=Zd (λV (hv:Below wc.heap.size wc V)=>Tr.add_is na ba nn nc bn bc N T nm p hh k o a n c L N1 T1 n1 x2 V (am.later hv).now.n (am.later hv).now.b am.sn am.sb (Za HL V ((Gr.of bd).trans (G1.trans (Gr.of hv)))) el H2 ev);clear ev
   go_upto_region 3 with fail
   go_cut [5] from 22 to 36 (λs5 wx=>s5 = E J x2/\Hid (∃ na' nc' ba' bc',DeskAt Z wx d bm m k1 fb fa K1 na' n1 nc' N1 ba' n1 bc' T1 pa pn pc P tip f β/\Gr wc wx (λq=>q=d\/q=bm)))
   case first=>
    refine wp_region_held_drew (S:=λU=>(d<U.heap.size/\U.cell? ⟨w.heap.size,0,none⟩=some (E J p)/\U.cell? ⟨w.heap.size,1,none⟩=some (E J hh)/\U.cell? ⟨w.heap.size,2,none⟩=some (E J k)/\U.cell? ⟨w.heap.size,3,none⟩=some (E J o)/\U.cell? ⟨w.heap.size,4,none⟩=some (F a n c)/\w.heap.size<U.heap.size)) (by kernel_rfl) (KS _ (G1.trans (Gr.of (Zi wc)))) (λz=>?_);refine tk 0 ⟨some 23,.move (.tmp 0),181, "desk.go:61",#[],none⟩ ?_ rfl ?_ z ?_;rotate_left
    ·(intro U Q;obtain⟨s0,s1,s2,s3,s4,s5,s6⟩:=Q;go_simp;first|done|with_reducible rfl)
    (try simp only[aC,ZA,ZB,ZC]);refine tk 1 ⟨some 24,.move (.tmp 0),181, "desk.go:61",#[],none⟩ ?_ rfl ?_ z ?_;rotate_left
    ·(intro U Q;obtain⟨s0,s1,s2,s3,s4,s5,s6⟩:=Q;go_simp;first|done|with_reducible rfl)
    (try simp only[aC,ZA,ZB,ZC]);refine tk 2 ⟨some 25,.nilCheck (.tmp 24),0, "desk.go:61",#[⟨1,.data⟩],none⟩ ?_ rfl ?_ z ?_;rotate_left
    ·(intro U Q;obtain⟨s0,s1,s2,s3,s4,s5,s6⟩:=Q;go_simp;first|done|with_reducible rfl)
    (try simp only[aC,ZA,ZB,ZC]);refine tk 3 ⟨some 26,.fieldAddr 254 (.tmp 25) 1,0, "desk.go:61",#[⟨2,.data⟩],none⟩ ?_ rfl ?_ z ?_;rotate_left
    ·(intro U Q;obtain⟨s0,s1,s2,s3,s4,s5,s6⟩:=Q;go_simp;first|done|with_reducible rfl)
    (try simp only[aC,ZA,ZB,ZC]);refine tk 4 ⟨some 27,.fieldAddr 67 (.tmp 26) 0,0, "desk.go:61",#[⟨3,.data⟩],none⟩ ?_ rfl ?_ z ?_;rotate_left
    ·(intro U Q;obtain⟨s0,s1,s2,s3,s4,s5,s6⟩:=Q;go_simp;first|done|with_reducible rfl)
    (try simp only[aC,ZA,ZB,ZC]);refine tk 6 ⟨some 29,.move (.tmp 4),3, "desk.go:61",#[],none⟩ ?_ rfl ?_ z ?_;rotate_left
    ·(intro U Q;obtain⟨s0,s1,s2,s3,s4,s5,s6⟩:=Q;go_simp;first|done|with_reducible rfl)
    (try simp only[aC,ZA,ZB,ZC]);refine tk 7 ⟨some 30,.load 39 (.tmp 3),39, "desk.go:61",#[],none⟩ ?_ rfl ?_ z ?_;rotate_left
    ·(intro U Q;obtain⟨s0,s1,s2,s3,s4,s5,s6⟩:=Q;go_simp;first|done|with_reducible rfl)
    (try simp only[aC,ZA,ZB,ZC]);have hb:=Zi wc;have l1:=Ze hb (Zb am.box 1 _ rfl);have l2:=Ze hb (Zb am.box 2 _ rfl);have ll:=aE (aA am.box) hb.size;refine aG (rs:=[5]) (by kernel_rfl) (by simp) ?_;refine AllReadyH.cons (o:=⟨some 28,.load 28 (.tmp 27),28, "desk.go:61",#[⟨4,.data⟩],none⟩) rfl (λKQ hK=>?_) AllReadyH.nil;go_simp;clear l1 l2 ll;refine hK.out _ _ (KS _ (G1.trans (Gr.of (Zi wc)))) (λab=>?_);clear hK KQ z;have z:=ab;clear ab;(try simp only[aC,ZA,ZB,ZC]);refine aG (rs:=[8]) (by kernel_rfl) (by simp) ?_;refine AllReadyH.cons (o:=⟨some 31,.call { callee:=Callee.value (.func 63),args:=#[.tmp 28,.tmp 29,.tmp 30],argTypes:=#[28,3,39] },137, "desk.go:61",#[⟨5,.data⟩,⟨6,.data⟩,⟨7,.data⟩],none⟩) rfl (λKQ hK=>?_) AllReadyH.nil;refine Zm (by kernel_rfl) 63 #[.agg #[F na nn nc,F ba bn bc],E J nm,.agg #[E J p,E J hh,E J k,E J o,F a n c]] (by kernel_rfl) (CA _ hb) ?_;rintro e v1 ⟨a1,c1,a2,c2,rfl,fu,gg,gh,ay⟩;refine⟨_,rfl,?_⟩;have gX:Gr wc v1 (λq=>q=d\/q=bm):=Gr.of (Zf hb ay);refine hK.out _ _ (KS _ (G1.trans gX)) (λab=>?_);clear hK KQ z;have z:=ab;clear ab;(try simp only[aC,ZA,ZB,ZC]);refine tk 9 ⟨some 22,.move (.tmp 31),137, "desk.go:61",#[⟨8,.data⟩],none⟩ ?_ rfl ?_ z ?_;rotate_left
    ·(intro U Q;go_simp;first|done|with_reducible rfl)
    (try simp only[aC,ZA,ZB,ZC]);refine tk 10 ⟨some 32,.extract (.tmp 22) 0,28, "desk.go:61",#[⟨9,.data⟩],none⟩ ?_ rfl ?_ z ?_;rotate_left
    ·(intro U Q;go_simp;first|done|with_reducible rfl)
    (try simp only[aC,ZA,ZB,ZC]);refine tk 11 ⟨some 33,.extract (.tmp 22) 1,30, "desk.go:61",#[⟨9,.data⟩,⟨15,.gcOnly .lateStores⟩],none⟩ ?_ rfl ?_ z ?_;rotate_left
    ·(intro U Q;go_simp;first|done|with_reducible rfl)
    (try simp only[aC,ZA,ZB,ZC]);refine tk 12 ⟨some 34,.nilCheck (.tmp 23),0, "desk.go:61",#[⟨0,.data⟩,⟨0,.phase⟩,⟨1,.phase⟩,⟨2,.phase⟩,⟨3,.phase⟩,⟨4,.phase⟩,⟨5,.phase⟩,⟨6,.phase⟩,⟨7,.phase⟩,⟨8,.phase⟩,⟨9,.phase⟩,⟨10,.phase⟩,⟨11,.textOnly .lateStores⟩],none⟩ ?_ rfl ?_ z ?_;rotate_left
    ·(intro U Q;go_simp;first|done|with_reducible rfl)
    (try simp only[aC,ZA,ZB,ZC]);refine tk 13 ⟨some 35,.fieldAddr 254 (.tmp 34) 1,0, "desk.go:61",#[⟨12,.data⟩,⟨0,.phase⟩,⟨1,.phase⟩,⟨2,.phase⟩,⟨3,.phase⟩,⟨4,.phase⟩,⟨5,.phase⟩,⟨6,.phase⟩,⟨7,.phase⟩,⟨8,.phase⟩,⟨9,.phase⟩,⟨10,.phase⟩,⟨11,.textOnly .lateStores⟩],none⟩ ?_ rfl ?_ z ?_;rotate_left
    ·(intro U Q;go_simp;first|done|with_reducible rfl)
    (try simp only[aC,ZA,ZB,ZC]);refine tk 14 ⟨some 36,.fieldAddr 67 (.tmp 35) 0,0, "desk.go:61",#[⟨13,.data⟩,⟨0,.phase⟩,⟨1,.phase⟩,⟨2,.phase⟩,⟨3,.phase⟩,⟨4,.phase⟩,⟨5,.phase⟩,⟨6,.phase⟩,⟨7,.phase⟩,⟨8,.phase⟩,⟨9,.phase⟩,⟨10,.phase⟩,⟨11,.textOnly .lateStores⟩],none⟩ ?_ rfl ?_ z ?_;rotate_left
    ·(intro U Q;go_simp;first|done|with_reducible rfl)
    (try simp only[aC,ZA,ZB,ZC]);have dr:=Zf hb ay;have ar:=(am.later dr).box;have y1:=Zb ar 1 _ rfl;have y2:=Zb ar 2 _ rfl;have g1:=Zg ar 1;have g2:=Zg ar 2;have yl:=aA ar;refine aG (rs:=[15]) (by kernel_rfl) (by simp) ?_;refine AllReadyH.cons (o:=⟨none,.store 28 (.tmp 36) (.tmp 32),0, "desk.go:61",#[⟨14,.data⟩,⟨10,.data⟩,⟨8,.chain⟩,⟨0,.phase⟩,⟨1,.phase⟩,⟨2,.phase⟩,⟨3,.phase⟩,⟨4,.phase⟩,⟨5,.phase⟩,⟨6,.phase⟩,⟨7,.phase⟩,⟨8,.phase⟩,⟨9,.phase⟩,⟨10,.phase⟩,⟨11,.textOnly .lateStores⟩],none⟩) rfl (λKQ hK=>?_) AllReadyH.nil;go_simp;refine hK.out _ _ (KS _ (G1.trans ((gX.one d 1 (.inl (.inl rfl)) _).one d 2 (.inl (.inl rfl)) _))) (λab=>?_);clear hK KQ z;have z:=ab;clear ab;(try simp only[aC]);refine tk 16 ⟨some 5,.assign (.tmp 33),30, "desk.go:61",#[⟨11,.data⟩,⟨15,.chain⟩,⟨0,.phase⟩,⟨1,.phase⟩,⟨2,.phase⟩,⟨3,.phase⟩,⟨4,.phase⟩,⟨5,.phase⟩,⟨6,.phase⟩,⟨7,.phase⟩,⟨8,.phase⟩,⟨9,.phase⟩,⟨10,.phase⟩,⟨11,.phase⟩,⟨12,.phase⟩,⟨13,.phase⟩,⟨14,.phase⟩,⟨15,.phase⟩],none⟩ ?_ rfl ?_ z ?_;rotate_left
    ·(intro U Q;go_simp;first|done|with_reducible rfl)
    (try simp only[aC,ZA,ZB,ZC]);refine wpAnyH_done (by kernel_rfl) ?_ _;clear z;go_wp2_with fail;go_meet
    case rel=>exact⟨rfl,a1,c1,a2,c2,am.grown hb ay fu gg gh,(gX.one d 1 (.inl (.inl rfl)) _).one d 2 (.inl (.inl rfl)) _⟩
   case rest=>
    obtain⟨rfl,HC⟩:=hcut;clear CA;obtain⟨a1,c1,a2,c2,eq,g2⟩:=Za HC;have ek:=Zd eq;have G2:=Zd (G1.trans g2);clear HC eq g2 am G1;by_cases z2:x2=0
    ·subst z2;have dt:=Za cd;rw[if_neg (λq=>q rfl)] at dt;have ce:=Zd dt;clear dt cd;have de:=Zd (Zkh H2);have GW:=Zd ((Gr.of bd).trans G2);obtain⟨e0,e1,e2,e3,e4,e5,e6⟩:=KS _ G2;have D3:=Zd (Sh ek nm p hh k o a n c L x3 C3 U3 (HE.later (dg _ GW)) (Za HL _ GW) HM de.1 de.2.1 H3);clear KS bd H2 H3 HL el de;go_wp2_with fail;refine D3.mono ?_;rintro e w3 ⟨rfl,f3,er,g3⟩;have aq:=Zd er;have G3:=Zd (GW.trans (g3.mono (λq _ e=>(.inr e:q=d\/q=bm))));clear er g3 D3 ek G2 GW e0 e1 e2 e3 e4 e5 e6;by_cases z3:x3=0
     ·subst z3;have du:=Za ce;rw[if_neg (λq=>q rfl)] at du;have cf:=Zd du;clear du ce;have D4:=Zd (Tr.best_is a1 a2 n1 c1 n1 c2 N1 T1 t x4 w3 aq.now.n aq.now.b aq.sn aq.sb H4);have e1:=Zb aq.box 1 _ rfl;have e2:=Zb aq.box 2 _ rfl;have ih:=aA aq.box;go_wp2_with fail;refine D4.mono ?_;rintro e w4 ⟨rfl,dm⟩;clear D4 e1 e2 ih;have bi:=Zd (aq.later dm);have G4:=Zd (G3.trans (Gr.of dm));clear aq G3 dm;have e4:=Zb bi.box 4 _ rfl;have f4:=Zg bi.box 4;have ih:=aA bi.box;obtain⟨V,hV⟩:=ZG (w4.setCell ⟨d,4,none⟩ (E J t));have cb:Hid (DeskAt Z V d bm (m+1) k1 fb fa K1 a1 n1 c1 N1 a2 n1 c2 T1 pa pn pc P t f3 (Sp β nm C3)):=(by rw[hV];exact bi.tipped t);have GV:Hid (Gr w V (λq=>q=d\/q=bm)):=(by rw[hV];exact G4.one d 4 (.inl (.inl rfl)) _);clear bi G4;by_cases z4:x4=0
      ·subst z4;have dv:=Za cf;rw[if_neg (λq=>q rfl)] at dv;have cg:=Zd dv;clear dv cf;have ca:=Zd (My H4);have ew:=ca.2.1;have ey:=ca.2.2;rw[Za HZ] at ew ey;have fy:IntKind.i64.wrap (id+1)=id+1:=(by rw[IntKind.wrap_i64];omega);clear ew ey;have D5:=Zd (J6 cb id HZ);have CS:=Zd (λV2 (hv:Below V.heap.size V V2)=>Zbj (cb.later hv) (HE.later (dg _ (GV.trans (Gr.of hv)))) ca.1 (id+1) K2 P2 x5 H5);clear cb ca H4 H5 HZ HE dg;go_wp2_with fail;rw[<-hV];clear hV e4 f4 ih;(try go_wp2_with fail);refine D5.mono ?_;rintro e w6 ⟨rfl,dn⟩;have D6:=Zd (CS w6 dn);have G6:=Zd (GV.trans (Gr.of dn));clear dn D5 CS GV;go_wp2_with fail;refine D6.mono ?_;rintro e w7 ⟨rfl,k7,gq,gp,p7,gy,gx,es,g7⟩;have fe:=Zd es;have G7:=Zd (G6.trans (g7.mono (λq _ e=>(.inl e:q=d\/q=bm))));clear es g7 D6 G6 fy;by_cases z5:x5=0
       ·subst z5;have dw:=Za cg;rw[if_neg (λq=>q rfl)] at dw;simp only[aU] at dw;obtain⟨rfl,rfl,rfl⟩:=dw;clear cg;go_wp2;go_ret2;exact⟨rfl,Za G7,λ_=>⟨_,_,_,_,_,_,_,_,_,_,_,_,_,Za fe⟩⟩
       ·have aa:=Za cg;rw[if_pos z5] at aa;simp only[aU] at aa;obtain⟨rfl,rfl,rfl⟩:=aa;clear cg;have ie:(x5 == 0)=false:=(by simp[z5]);have ig:(x5 != 0)=true:=(by simp[z5]);go_wp2;go_ret2;exact⟨rfl,G7,λe=>absurd e z5⟩
      ·have aa:=Za cf;rw[if_pos z4] at aa;simp only[aU] at aa;obtain⟨rfl,rfl,rfl⟩:=aa;clear cf;clear cb;have ie:(x4 == 0)=false:=(by simp[z4]);have ig:(x4 != 0)=true:=(by simp[z4]);go_wp2_with fail;rw[<-hV];clear hV;(try go_wp2);go_ret2;exact⟨rfl,GV,λe=>absurd e z4⟩
     ·have aa:=Za ce;rw[if_pos z3] at aa;simp only[aU] at aa;obtain⟨rfl,rfl,rfl⟩:=aa;clear ce;have ie:(x3 == 0)=false:=(by simp[z3]);have ig:(x3 != 0)=true:=(by simp[z3]);go_wp2;go_ret2;exact⟨rfl,G3,λe=>absurd e z3⟩
    ·have aa:=Za cd;rw[if_pos z2] at aa;simp only[aU] at aa;obtain⟨rfl,rfl,rfl⟩:=aa;clear cd;have ie:(x2 == 0)=false:=(by simp[z2]);have ig:(x2 != 0)=true:=(by simp[z2]);go_wp2;go_ret2;exact⟨rfl,((Gr.of bd).trans G2),λe=>absurd e z2⟩
  ·have aa:=Za HX;rw[if_pos z1] at aa;simp only[aU] at aa;obtain⟨rfl,rfl,rfl⟩:=aa;clear HX;have ie:(x1 == 0)=false:=(by simp[z1]);have ig:(x1 != 0)=true:=(by simp[z1]);go_wp2;go_ret2;exact⟨rfl,((Gr.of bd).trans G1),λe=>absurd e z1⟩
end
