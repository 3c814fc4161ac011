/- The contract of Sweep. -/
import Derived.Test.YtmomfkikogbdeaaGreatDoorPolSwToPolKeepW
import Derived.Maps.OwnOps
import Derived.Maps.OwnSet
import Derived.Maps.Views
import Derived.Test.YtmomfkikogbdeaaGreatDoorTxCheckToTxCheckD
import Derived.Test.YtmomfkikogbdeaaGreatDoorBookAllWToBlkNames
import Derived.Test.YtmomfkikogbdeaaGreatDoorBlkPrintB
set_option maxHeartbeats 6400000
set_option maxRecDepth 10000
namespace Go.Proofs.YtmomfkikogbdeaaGreatDoor
open Go.RowKit
def D0(lo hi:Nat):Nat→Prop:=fun q=>(lo≤q∧q<hi)∨(Value.slice none 0 0).ownBlock=some q
theorem D0.ge{lo hi q:Nat}(h:D0 lo hi q):lo≤q∧q<hi:=by
 rcases h with h|h
 ·exact h
 ·cases h
def DV(lo hi:Nat)(v:Value):Nat→Prop:=fun q=>(lo≤q∧q<hi)∨v.ownBlock=some q
theorem DV.dirty{lo hi b p:Nat}{w:World}{v:Value}{K:List (List Value)}{L:List TxD}{N0:Nat}(h:St b p w v K L)(hh:hi≤N0)(hp:N0≤p)(q:Nat)(hq:DV lo hi v q):q≠p∧q<w.heap.size∧(D0 lo hi q∨N0≤q):=by
 have:=h.pl
 rcases hq with e|e
 ·exact⟨by omega,by omega,.inl (.inl e)⟩
 ·have:=h.own.lt q e
  exact⟨by omega,this.2,.inr (by omega)⟩
def SwI(b b2 lo hi N0:Nat)(C0:List Zd)(p:Nat)(D:Nat→Prop)(w:World)(X:List (TxD×List Zd)):Prop:=
 ∃ va vc K,St b p w (.slice va (X.map (·.1)).length vc) K (X.map (·.1))∧FeI w b2 (Zi C0 - Zi (Yl C0 X))∧N0≤p∧D=DV lo hi (.slice va (X.map (·.1)).length vc)∧0≤Zi C0 - Zi (Yl C0 X)∧(X=[]∨(Zi C0≤1000000000∧Yc (Yl C0 X)))
theorem Rx{C:List Zd}(h:Yc C):0≤Zi C:=Xg C (fun c hc=>by have:=Z9 (h.one c hc);omega)
theorem Zci(b b2 lo hi:Nat)(w0:World)(C0:List Zd)(hb:w0.heap[b]? = some (.cells #[.slice none 0 0] 37 (0,0)))(hb2:FeI w0 b2 0)(h1:lo≤b∧b<hi)(h2:lo≤b2∧b2<hi)(hne:b≠b2)(hhi:hi≤w0.heap.size) :
  Zcs 79 #[.pointer (some ⟨b,0,none⟩),.pointer (some ⟨b2,0,none⟩)] w0 C0 (D0 lo hi) (SwI b b2 lo hi w0.heap.size C0) where
 enters:=enters_of (fn:=Tryz.f79) (by kernel_rfl) (by kernel_rfl) rfl
 start p w hw hp pl:=⟨none,0,[],St.start ((hw.block b (by omega)).trans hb) (by omega) pl,by
  have:Zi C0 - Zi (Yl C0 [])=0:=by rw[Xx];omega
  unfold FeI;rw[this];exact (hw.block b2 (by omega)).trans hb2,hp,rfl,by rw[Xx];omega,.inl rfl⟩
 dirty p D w X:=by
  rintro ⟨va,vc,K,h,_,hp,rfl,_⟩ q hq
  exact DV.dirty h hhi hp q hq
 on p D w w' X:=by
  rintro ⟨va,vc,K,h,hf,hp,hD,r⟩ g
  exact⟨va,vc,K,h.on g (fun q e=>by subst e;exact⟨Nat.le_refl _,by omega⟩),(g.block b2 (lt_of_block hf) (fun e=>by have e:b2=p:=e;omega)).trans hf,hp,hD,r⟩
 call p D wA w X t C' u0 u1 u2:=by
  rintro ⟨va,vc,K,h,hf,hp,rfl,h0,hr⟩ hbw hF r1 r2 r3 hl
  have hs:Zi C0≤1000000000:=by
   rcases hr with rfl|hr
   ·rw[Xx] at r1;exact r1.sum
   ·exact hr.1
  have n1:=Rx r1
  have n2:=Rx r2
  have n3:=r1.sum
  refine (Di b b2 p va vc K (X.map (·.1)) _ u0 u1 u2 t wA w h _ hf hne (by omega) h0 (by omega) (by omega) (by omega) hbw hF (by rw[List.length_map];exact hl)).mono ?_
  rintro e w' ⟨rfl,⟨v',K',hS,hf'⟩,hg⟩
  obtain⟨a,c,rfl,_,_⟩:=hS.txs
  have e1:(X++[(t,C')]).map (·.1)=X.map (·.1)++[t]:=by simp
  refine⟨rfl,hg.mono (fun q _ e=>?_),DV lo hi (.slice a ((X++[(t,C')]).map (·.1)).length c),a,c,K',?_,?_,hp,rfl,?_,.inr ⟨hs,?_⟩⟩
  ·rcases e with (e|e)|e
   ·subst e;exact .inl h1
   ·subst e;exact .inl h2
   ·exact .inr e
  ·rw[e1];exact hS
  ·rw[Xd]
   have:Zi C0 - Zi (Yl C0 X)+(Zi (Yl C0 X) - Zi C')=Zi C0 - Zi C':=by omega
   rw[←this];exact hf'
  ·rw[Xd];omega
  ·rw[Xd];exact r2
theorem St.reads{b p:Nat}{w w2:World}{va:Option Addr}{vc:Nat}{K:List (List Value)}{L:List TxD}{S:Nat→Prop}(h:St b p w (.slice va L.length vc) K L)(g:Gr w w2 S)(hS:∀ q,S q→q≤p):TxsAt w2 va L.length L∧SlOk va L.length vc:=by
 have o:=g.own h.own (fun k hk e=>by have:=(h.own.lt k hk).1;have:=hS k e;omega)
 obtain⟨a,c,e,h1,h2⟩:=Tr.rows_of_own Tr.txR o (h.kept w2 (g.mono (fun q _ e=>.inl (hS q e)))) rfl
 injection e with e1 _ e3
 subst e1 e3
 exact⟨h1,h2⟩
def Cu(w w':World)(x:Int)(K:List ByteArray)(L:List TxD)(C:List Zd)(f:Int)(e:Ending):Prop:=
 ∃ ka kn kc sa sn sc ca cn cc,e = .returned (.tuple #[.agg #[.slice ka kn kc],.slice sa sn sc,.slice ca cn cc,.int .i64 f,.int .i64 x]) ∧
  Fresh w.heap.size w' (fun w2=>Bk.TextsAt w2 ka kn K∧TxsAt w2 sa sn L∧CoinsAt w2 ca cn C)∧SlOk ka kn kc∧SlOk sa sn sc∧SlOk ca cn cc∧Below w.heap.size w w'
def swF(K:List ByteArray)(C:List Zd)(l:List TxD)(h x:Int):List ByteArray×List TxD×List Zd×Int:=
 if x=0 then ((Xt h l (K,C)).2.1,(Xt h l (K,C)).1,(Xt h l (K,C)).2.2,Zi C - Zi (Xt h l (K,C)).2.2) else ([],[],[],0)
def Y5(w:World):List Obj→World
 | []=>w
 | o :: r=>Y5 (w.alloc o) r
theorem Yn:∀ (os:List Obj) (w:World),(Y5 w os).heap.size=w.heap.size+os.length
 | [],_=>rfl
 | o :: r,w=>by rw[Y5,Yn r,List.length_cons];simp;omega
theorem Z7:∀ (os:List Obj) (w:World),Below w.heap.size w (Y5 w os)
 | [],_=>Below.refl _ _
 | o :: r,w=>bel_on (bel_new w o) (Z7 r (w.alloc o))
theorem Zj:∀ (os:List Obj) (w:World) (i:Nat) (o:Obj),os[i]? = some o→(Y5 w os).heap[w.heap.size+i]? = some o
 | [],_,_,_,h=>by simp at h
 | o :: r,w,0,x,h=>by
  simp at h;subst h
  have h1:(w.alloc o).heap[w.heap.size]? = some o:=heap_alloc_new w o
  exact ((Z7 r (w.alloc o)).block _ (lt_of_block h1)).trans h1
 | o :: r,w,i+1,x,h=>by
  have:=Zj r (w.alloc o) i x (by simpa using h)
  rw[show (w.alloc o).heap.size+i=w.heap.size+(i+1) by simp;omega] at this
  exact this
theorem Uu{fn:Func}{p q u v z:Tmp}{ty ty2 ty3:TypeId}(h:fn.results=#[.cell p ty,.cell q ty2,.tmp u,.cell v ty3,.tmp z])(tmps:Array Value)(P:Program)(w:World) :
  (results fn tmps).run P w =
   ((asAddr (tmps.getD p undef)).run P w).andThen fun a w₁=>((loadVar ty a).run P w₁).andThen fun x w₂=>((asAddr (tmps.getD q undef)).run P w₂).andThen fun a2 w₃=>((loadVar ty2 a2).run P w₃).andThen fun y w₄=>((asAddr (tmps.getD v undef)).run P w₄).andThen fun a3 w₅=>((loadVar ty3 a3).run P w₅).andThen fun z3 w₆=>.ok (.tuple #[x,y,tmps.getD u undef,z3,tmps.getD z undef]) w₆:=by
 simp only[results,h]
 simp[Sem.run_bind,Result.andThen]
theorem Pp(ka:Option Addr)(kn kc:Nat)(K:List ByteArray)(la:Option Addr)(ln lc:Nat)(C:List Zd)(a:Option Addr)(m c:Nat)(L:List TxD)(h x:Int)(K':List ByteArray)(L':List TxD)(C':List Zd)(f:Int)(w:World)
  (hE:Env w) (hK:Bk.TextsAt w ka kn K) (hC:CoinsAt w la ln C) (sC:SlOk la ln lc) (hL:TxsAt w a m L) (hx:swE K C L h=x) (hr:swF K C L h x=(K',L',C',f)) :
  Calls Tryz.prog 23 #[.agg #[.slice ka kn kc],.slice la ln lc,.slice a m c,.int .i64 h] w fun e w'=>Cu w w' x K' L' C' f e:=by
 obtain⟨X,hX⟩:∃ X,X=Y5 w [.cells #[.slice ka kn kc] 24,.cells #[.slice none 0 0] 24,.cells #[.slice none 0 0] 37,.cells #[.int .i64 0] 3]:=⟨_,rfl⟩
 have hbX:Below w.heap.size w X:=by rw[hX];exact Z7 _ _
 have hXs:X.heap.size=w.heap.size+4:=by rw[hX];exact Yn _ _
 have x0:X.heap[w.heap.size]? = some (.cells #[.slice ka kn kc] 24 (0,0)):=by rw[hX];exact Zj _ w 0 _ rfl
 have x1:X.heap[w.heap.size+1]? = some (.cells #[.slice none 0 0] 24 (0,0)):=by rw[hX];exact Zj _ w 1 _ rfl
 have x2:X.heap[w.heap.size+2]? = some (.cells #[.slice none 0 0] 37 (0,0)):=by rw[hX];exact Zj _ w 2 _ rfl
 have x3:X.heap[w.heap.size+3]? = some (.cells #[.int .i64 0] 3 (0,0)):=by rw[hX];exact Zj _ w 3 _ rfl
 have hX':X=(((w.alloc (.cells #[.slice ka kn kc] 24)).alloc (.cells #[.slice none 0 0] 24)).alloc (.cells #[.slice none 0 0] 37)).alloc (.cells #[.int .i64 0] 3):=hX
 have hKp:=Zci (w.heap.size+2) (w.heap.size+3) (w.heap.size+2) (w.heap.size+4) X C x2 x3 (by omega) (by omega) (by omega) (by omega)
 have hin:∀ V,Gr X V (D0 (w.heap.size+2) (w.heap.size+4))→Below w.heap.size w V:=fun V g=>g.below hbX hbX.size (fun q e=>by have:=e.ge;omega)
 have C1:=hide (Pm _ _ _ _ ka kn kc K la ln lc C a m c L h x X hKp w hin hE hK hC sC hL hx)
 have HBX:=hide hbX
 have HXs:=hide hXs
 have HR:=hide hr
 have HIN:=hide hin
 have HX1:=hide x1
 have HX2:=hide x2
 have HX3:=hide x3
 have t0:=Za (X:=[.slice ka kn kc]) x0 0 _ rfl
 have tl:=lt_of_block x0
 clear hE hK hC sC hL hx hr hbX hXs x0 x1 x2 x3 hX hKp hin
 go_enter Tryz.func23,Tryz.ntmps23
 go_wp2_with fail
 rw[←hX']
 clear hX'
 (try go_wp2_with fail)
 refine (unhide C1).mono ?_
 rintro e w1 hres
 rcases hres with ⟨h0,rfl,hb1⟩|⟨h0,p,D,rfl,hp,hg1,hd,hI⟩
 ·have gx:(x != 0)=true:=by simp[h0]
  have y1:=(hb1.block _ (lt_of_block (unhide HX1))).trans (unhide HX1)
  have y2:=(hb1.block _ (lt_of_block (unhide HX2))).trans (unhide HX2)
  have y3:=(hb1.block _ (lt_of_block (unhide HX3))).trans (unhide HX3)
  have y10:=Za (X:=[.slice none 0 0]) y1 0 _ rfl
  have y20:=Za (X:=[.slice none 0 0]) y2 0 _ rfl
  have y30:=Za (X:=[.int .i64 0]) y3 0 _ rfl
  have y1f:=Zb y1 0
  have y2f:=Zb y2 0
  have y3f:=Zb y3 0
  have y1l:=lt_of_block y1
  have y2l:=lt_of_block y2
  have y3l:=lt_of_block y3
  have HRE:Hid (K'=[]∧L'=[]∧C'=[]∧f=0):=by
   have:=unhide HR
   unfold swF at this
   rw[if_neg h0] at this
   simp only[Prod.mk.injEq] at this
   exact⟨this.1.symm,this.2.1.symm,this.2.2.1.symm,this.2.2.2.symm⟩
  have HB:=hide (bel_on (unhide HBX) hb1)
  clear hb1 y1 y2 y3 C1 HR
  go_wp2
  (try simp only[Exit.inBlock,Exit.then])
  refine bodyPost_ret (v:=.tuple #[.agg #[.slice none 0 0],.slice none 0 0,.slice none 0 0,.int .i64 0,.int .i64 x]) ?_ rfl ?_
  ·rw[Uu rfl]
   go_simp
  ·obtain⟨rfl,rfl,rfl,rfl⟩:=unhide HRE
   exact⟨_,_,_,_,_,_,_,_,_,rfl,fun _ _=>⟨Bk.TextsAt.nil _ _,RowsAt.nil _ _,RowsAt.nil _ _⟩,Zo,Zo,Zo,((((unhide HB).setCell (p:=⟨w.heap.size+1,0,none⟩) (by simp) _).setCell (p:=⟨w.heap.size+2,0,none⟩) (by simp) _).setCell (p:=⟨w.heap.size+3,0,none⟩) (by simp) _)⟩
 ·obtain⟨va,vc,Kl,hS,hf,_,_,_,_⟩:=hI
  obtain⟨ka',kn',kc',la',ln',lc',hpb,hFr,sK',sC'⟩:=hd
  have y1:=(hg1.block _ (lt_of_block (unhide HX1)) (fun e=>by have:=e.ge;omega)).trans (unhide HX1)
  have y10:=Za (X:=[.slice none 0 0]) y1 0 _ rfl
  have y20:=Za (X:=[_]) hS.box 0 _ rfl
  have y30:=Za (X:=[_]) hf 0 _ rfl
  have p0:=Za hpb 0 _ rfl
  have p1:=Za hpb 1 _ rfl
  have pl:=lt_of_block hpb
  have y1f:=Zb y1 0
  have y2f:=Zb hS.box 0
  have y3f:=Zb hf 0
  have y1l:=lt_of_block y1
  have y2l:=lt_of_block hS.box
  have y3l:=lt_of_block hf
  subst h0
  have hRE:Xt h L (K,C)=(L',K',C')∧f=Zi C - Zi C':=by
   have:=unhide HR
   unfold swF at this
   rw[if_pos rfl] at this
   simp only[Prod.mk.injEq] at this
   obtain⟨r1,r2,r3,r4⟩:=this
   exact⟨Prod.ext r2 (Prod.ext r1 r3),by rw[←r4,r3]⟩
  obtain⟨hsw,hfe⟩:=hRE
  have e1:(swT h L (K,C)).map (·.1)=L':=by rw[Rn,hsw]
  have e2:Yl C (swT h L (K,C))=C':=by have:=Rw h L (K,C);rw[hsw] at this;exact this
  rw[hsw] at hFr
  rw[e1] at hS y20
  rw[e2,←hfe] at hf y30
  obtain⟨n,hn⟩:∃ n,L'.length=n:=⟨_,rfl⟩
  have FIN:Hid (∀ W,Gr w1 W (fun q=>w.heap.size+1≤q∧q<w.heap.size+4)→Cu w W 0 K' L' C' f (.returned (.tuple #[.agg #[.slice ka' kn' kc'],.slice va n vc,.slice la' ln' lc',.int .i64 f,.int .i64 0]))):=fun W g=>by
   have hxs:=unhide HXs
   have hb1:=(unhide HIN) w1 hg1
   have hsz:=hg1.size
   subst hn
   refine⟨ka',kn',kc',va,L'.length,vc,la',ln',lc',rfl,fun W2 g2=>?_,sK',(hS.reads (Gr.refl w1 (fun _=>False)) (fun _ q=>q.elim)).2,sC',g.below hb1 hb1.size (fun q e=>by omega)⟩
   have r1:=hFr W2 ((g.mono (fun q _ e=>by omega)).trans (g2.mono (fun q _ e=>by omega)))
   have r2:=(hS.reads ((g.mono (T:=fun q=>q<w.heap.size+4) (fun q _ e=>e.2)).trans (g2.mono (fun q _ e=>by omega))) (fun q e=>by omega)).1
   exact⟨r1.1,r2,r1.2⟩
  rw[hn] at y20
  clear hS hf hFr hpb hg1 hsw hfe e1 e2 y1 HR C1 sK' sC' HX1 HX2 HX3 hn
  go_wp2_with fail
  go_region
  go_wp2
  (try simp only[Exit.inBlock,Exit.then])
  refine bodyPost_ret (v:=.tuple #[.agg #[.slice ka' kn' kc'],.slice va n vc,.slice la' ln' lc',.int .i64 f,.int .i64 0]) ?_ rfl ?_
  ·rw[Uu rfl]
   go_simp
  ·exact (unhide FIN) _ ((((Gr.refl w1 (fun q=>w.heap.size+1≤q∧q<w.heap.size+4)).one (w.heap.size+1) 0 (.inl (by omega)) _).one (w.heap.size+1+1) 0 (.inl (by omega)) _).one (w.heap.size+1+1+1) 0 (.inl (by omega)) _).draw
open Go.RowKit Go.Maps
def Zba(v:Value):Option (DataW Value×List MemPlace):=some (.held v,[])
abbrev Kt:Value:=.slice none 0 0
abbrev Zch(x:Int):Lit:=.int .i64 x
theorem Zaz:Keyed Tryz.prog 3:=int_keyed Tryz.underlying3
theorem Zbf(w:World):(zeroValue 29).run Tryz.prog w = .ok (.slice none 0 0) w:=by kernel_rfl
theorem E0{x y:Int}(h:x≠y):Zch x≠Zch y:=by
 intro e;injection e with _ e;exact h e
theorem Rr{x:Int}(h : -1000000≤x)(h2:x≤1000000):(Lit.int .i64 x).wf=true:=by simp[Lit.wf,IntKind.min,IntKind.max,IntKind.signed,IntKind.bits];omega
def BMap(bm n:Nat)(f:Int→Value)(w:World):Prop:=∃ D,w.ownsMap Tryz.prog 3 Zba bm n D∧IsMap D∧∀ x:Int,D.atKey (Zch x) (.held Kt) = .held (f x)
theorem BMap.heap{bm n:Nat}{f:Int→Value}{w w':World}(h:BMap bm n f w)(hb:w'.heap[bm]? = w.heap[bm]?):BMap bm n f w':=by
 obtain⟨D,⟨es,clock,h1,r⟩,r2⟩:=h
 exact⟨D,⟨es,clock,hb.trans h1,r⟩,r2⟩
theorem BMap.lt{bm n:Nat}{f:Int→Value}{w:World}(h:BMap bm n f w):bm<w.heap.size:=by
 obtain⟨D,h1,_⟩:=h
 exact h1.lt
theorem BMap.keep{bm n:Nat}{f:Int→Value}{w w':World}(h:BMap bm n f w)(hb:Below w.heap.size w w'):BMap bm n f w':=h.heap (hb.block bm h.lt)
theorem BMap.gr{bm n:Nat}{f:Int→Value}{w w':World}{S:Nat→Prop}(h:BMap bm n f w)(g:Gr w w' S)(hn:¬S bm):BMap bm n f w':=h.heap (g.block bm h.lt hn)
theorem BMap.isMap{bm n:Nat}{f:Int→Value}{w:World}(h:BMap bm n f w):∃ es clock,w.heap[bm]? = some (.map es clock):=by
 obtain⟨D,⟨es,clock,h1,r⟩,r2⟩:=h
 exact⟨es,clock,h1⟩
theorem BMap.made(w:World):BMap w.heap.size 0 (fun _=>Kt) (w.alloc (.map #[] 0)):=
 ⟨.map [],World.ownsMap_made w Tryz.prog 3 Zba,⟨_,rfl⟩,fun _=>rfl⟩
theorem BMap.look{bm n:Nat}{f:Int→Value}{w:World}(h:BMap bm n f w)(x:Int)(hx:(Lit.int .i64 x).wf=true):(Instr.lookup 252 (.map (some bm)) (.int .i64 x) false).run Tryz.prog w = .ok (f x) w:=by
 obtain⟨D,h1,_,h3⟩:=h
 obtain⟨v,ps,hrun,hv⟩:=h1.lookup Zaz Tryz.underlying252 (Zbf w) (zd:=.held Kt) (zp:=[]) rfl (keyOf_int_mk Tryz.underlying3 hx)
 rw[h3] at hv
 have hv2:v=f x:=DataW.held.inj (Prod.mk.inj (Option.some.inj hv)).1
 rw[hv2] at hrun
 exact hrun
theorem BMap.drew_look{bm n:Nat}{f:Int→Value}{w:World}(h:BMap bm n f w)(x:Int)(hx:(Lit.int .i64 x).wf=true):(Instr.lookup 252 (.map (some bm)) (.int .i64 x) false).run Tryz.prog w.drew = .ok (f x) w.drew:=BMap.look (w:=w.drew) (h.heap rfl) x hx
theorem BMap.put{bm n:Nat}{f:Int→Value}{w:World}(h:BMap bm n f w)(hn:n<1000000)(x:Int)(hx:(Lit.int .i64 x).wf=true)(v:Value) :
  ∃ w',(Instr.mapUpdate 252 (.map (some bm)) (.int .i64 x) v).run Tryz.prog w = .ok () w'∧BMap bm (n+1) (fun y=>if y=x then v else f y) w'∧w.grownBy w' (some bm):=by
 obtain⟨D,h1,h2,h3⟩:=h
 obtain⟨w',hrun,r1,r2⟩:=h1.update Zaz Tryz.underlying252 (by unfold maxLen;omega) (keyOf_int_mk Tryz.underlying3 hx) (val:=v) (d:=.held v) (ps:=[]) rfl
 refine⟨w',hrun,⟨_,r1,?_,fun y=>?_⟩,r2⟩
 ·obtain⟨es,rfl⟩:=h2;exact⟨_,rfl⟩
 ·by_cases e:y=x
  ·subst e;rw[atKey_put_same h2 (by simp[WideAt.IsKeyLit])];show _=DataW.held (if y=y then v else f y);rw[if_pos rfl]
  ·rw[atKey_put_other (E0 e),h3];show _=DataW.held (if y=x then v else f y);rw[if_neg e]
theorem below_dw(w:World)(n:Nat):Below w.heap.size w (w.drewN n):=⟨rfl,rfl,rfl,Nat.le_refl _,fun _ _=>rfl⟩
theorem Df{α : Type}{l k:List α}{j:Nat}(h1:j<l.length)(h2:j<k.length)(h:l.take j=k.take j)(e:l[j]=k[j]):l.take (j+1)=k.take (j+1):=by
 rw[List.take_succ_eq_append_getElem h1,List.take_succ_eq_append_getElem h2,h,e]
theorem Ho{α : Type}{l k:List α}{j:Nat}(h1:j<l.length)(h2:j<k.length)(e:l[j]≠k[j]):l≠k:=fun h=>by
 subst h;exact e rfl
theorem Mv(b1 o1 b2 o2 n c d:Nat)(l k:List (Int×Int))(o:Bool)(w:World)(hn:n≤maxLen)(z1:l.length=n)(z2:k.length=n)
  (h1:∀ i,i<n→w.cell? ⟨b1,o1+i*2,none⟩=some (.int .i64 (l.getD i (0,0)).1)∧w.cell? ⟨b1,o1+i*2+1,none⟩=some (.int .i64 (l.getD i (0,0)).2))
  (h2:∀ i,i<n→w.cell? ⟨b2,o2+i*2,none⟩=some (.int .i64 (k.getD i (0,0)).1)∧w.cell? ⟨b2,o2+i*2+1,none⟩=some (.int .i64 (k.getD i (0,0)).2)) (ho:decide (l=k)=o) :
  Calls Tryz.prog 94 #[.slice (some ⟨b1,o1,none⟩) n c,.slice (some ⟨b2,o2,none⟩) n d] w fun e w'=>e = .returned (.bool o)∧∃ m,w'=w.drewN m:=by
 subst ho
 unfold maxLen at hn
 have H1:=hide h1
 have H2:=hide h2
 have Z1:=hide z1
 have Z2:=hide z2
 clear h1 h2 z1 z2
 go_enter Tryz.func94,Tryz.ntmps94
 go_wp2
 go_loopw [13] (fun i wr=>∃ j m:Nat,j≤n∧i = .int .i64 j∧wr=w.drewN m∧Hid (l.take j=k.take j)) (fun i _=>n - (intOf i).toNat)
 case atStart=>exact⟨0,0,Nat.zero_le _,rfl,rfl,rfl⟩
 case round=>
  obtain⟨j,m,hk,rfl,rfl,A⟩:=hrel
  by_cases hlt:j<n
  ·have hl1:j<l.length:=by rw[unhide Z1];exact hlt
   have hl2:j<k.length:=by rw[unhide Z2];exact hlt
   obtain⟨g1,g2⟩:=(unhide H1) j hlt
   obtain⟨g3,g4⟩:=(unhide H2) j hlt
   have e1:l.getD j (0,0)=l[j]:=by simp[hl1]
   have e2:k.getD j (0,0)=k[j]:=by simp[hl2]
   rw[e1] at g1 g2
   rw[e2] at g3 g4
   have TS:=hide (Df hl1 hl2 (unhide A))
   have TU:=hide (Ho hl1 hl2)
   obtain⟨q,hq⟩:∃ q,l[j]=q:=⟨_,rfl⟩
   obtain⟨r,hr⟩:∃ r,k[j]=r:=⟨_,rfl⟩
   rw[hq] at g1 g2
   rw[hr] at g3 g4
   rw[hq,hr] at TS TU
   obtain⟨q1,q2⟩:=q
   obtain⟨r1,r2⟩:=r
   simp only at g1 g2 g3 g4
   clear hq hr e1 e2 A
   by_cases he:q1=r1
   ·subst he
    by_cases hf:q2=r2
    ·subst hf
     have T:=hide ((unhide TS) rfl)
     clear TS TU
     go_wp2
     go_quiet (fail)
     go_wp2
     go_roundw
     case rel=>exact⟨j+1,m+nq,by omega,by go_num,rfl,T⟩
     case measure=>simp[intOf];omega
    ·have U:Hid (decide (l=k)=false):=decide_eq_false ((unhide TU) (fun e=>hf (by injection e)))
     clear TS TU
     go_wp2
     go_quiet (fail)
     go_wp2
     go_ret
     exact⟨by rw[unhide U];rfl,m+nq,by simp[World.drewN,Nat.add_assoc]⟩
   ·have U:Hid (decide (l=k)=false):=decide_eq_false ((unhide TU) (fun e=>he (by injection e)))
    clear TS TU
    go_wp2
    go_quiet (fail)
    go_wp2
    go_ret
    exact⟨by rw[unhide U];rfl,m+nq,by simp[World.drewN,Nat.add_assoc]⟩
  ·have U:Hid (decide (l=k)=true):=by
    have h:=unhide A
    rw[List.take_of_length_le (by rw[unhide Z1];omega),List.take_of_length_le (by rw[unhide Z2];omega)] at h
    exact decide_eq_true h
   clear A
   go_wp2
   go_ret
   exact⟨by rw[unhide U];rfl,m,rfl⟩
theorem Mx(a b:Option Addr)(n m c d:Nat)(w:World)(h:n≠m) :
  Calls Tryz.prog 94 #[.slice a n c,.slice b m d] w fun e w'=>e = .returned (.bool false)∧w=w':=by
 have g:((n:Int) != (m:Int))=true:=by simp;omega
 clear h
 go_enter Tryz.func94,Tryz.ntmps94
 go_wp2
 go_ret
 exact⟨rfl,rfl⟩
theorem Mw(a b:Option Addr)(c d:Nat)(w:World) :
  Calls Tryz.prog 94 #[.slice a 0 c,.slice b 0 d] w fun e w'=>e = .returned (.bool true)∧w=w':=by
 go_enter Tryz.func94,Tryz.ntmps94
 go_wp2
 refine wp_loop_rounds 1 ?_
 rw[rounds_succ]
 go_wp2
 go_ret
 exact⟨rfl,rfl⟩
theorem Bs(a b:Option Addr)(n m c d:Nat)(l k:List (Int×Int))(o:Bool)(w:World)(hn:n≤maxLen)(hA:OpsAt w a n l)(hB:OpsAt w b m k)(ho:decide (l=k)=o) :
  Calls Tryz.prog 94 #[.slice a n c,.slice b m d] w fun e w'=>e = .returned (.bool o)∧Below w.heap.size w w':=by
 by_cases h:n=m
 ·subst h
  by_cases h0:n=0
  ·subst h0
   have e1:l=[]:=List.length_eq_zero_iff.1 hA.1
   have e2:k=[]:=List.length_eq_zero_iff.1 hB.1
   subst e1 e2
   rw[decide_eq_true rfl] at ho
   subst ho
   exact (Mw a b c d w).mono fun e w' ⟨h1,h2⟩=>⟨h1,h2 ▸ Below.refl _ _⟩
  ·obtain⟨b1,o1,rfl,h1⟩:=hA.2 (by omega)
   obtain⟨b2,o2,rfl,h2⟩:=hB.2 (by omega)
   exact (Mv b1 o1 b2 o2 n c d l k o w hn hA.1 hB.1 h1 h2 ho).mono fun e w' ⟨e1,q,e2⟩=>⟨e1,by rw[e2];exact below_dw w q⟩
 ·have e:l≠k:=fun e=>h (by rw[←hA.1,←hB.1,e])
  rw[decide_eq_false e] at ho
  subst ho
  exact (Mx a b n m c d w h).mono fun e w' ⟨h1,h2⟩=>⟨h1,h2 ▸ Below.refl _ _⟩
def Ur(g:TxD→Bool):List TxD→Nat→Int
 | [],_=>-1
 | t :: r,k=>if g t=true then k else Ur g r (k+1)
theorem Zaf(g:TxD→Bool)(L:List TxD)(k:Nat)(h:k<L.length):Ur g (L.drop k) k=if g L[k]=true then (k:Int) else Ur g (L.drop (k+1)) (k+1):=by
 rw[List.drop_eq_getElem_cons h,Ur]
theorem K9(g:TxD→Bool):∀ (L:List TxD) (k:Nat),decide (0≤Ur g L k)=L.any g
 | [],_=>by simp[Ur]
 | t :: r,k=>by
  rw[Ur,List.any_cons]
  by_cases h:g t=true
  ·rw[if_pos h,h];simp
  ·have h':g t=false:=by simpa using h
   rw[if_neg h,K9 g r,h',Bool.false_or]
structure Nf(f:Nat)(caps:Array Value)(W0:World)(g:TxD→Bool):Prop where
 enters:∀ args w,(callFunc f args).run Tryz.prog w = .ok (.enter f args) w
 call:∀ w,Below W0.heap.size W0 w→∀ (th:Int) (ai ao:Option Addr) (ni ci no co:Nat) (I:List InD) (O:List Zw),InsAt w ai ni I→OutsAt w ao no O→SlOk ai ni ci→SlOk ao no co →
  Calls Tryz.prog f (#[.agg #[.int .i64 th,.slice ai ni ci,.slice ao no co]]++caps) w fun e w'=>e = .returned (.bool (g (th,I,O)))∧Below w.heap.size w w'
theorem Mp(f:Nat)(caps:Array Value)(g:TxD→Bool)(a:Option Addr)(n c:Nat)(L:List TxD)(w:World)(hT:Nf f caps w g)(hL:TxsAt w a n L)(hn:n≤maxLen) :
  Calls Tryz.prog 156 #[.slice a n c,.func (.func f) #[] caps] w fun e w'=>e = .returned (.int .i64 (Ur g L 0))∧Below w.heap.size w w':=by
 have HT:=hide hT
 have HL:=hide hL
 have HZ:=hide hL.1
 have hn':n≤9223372036854775807:=hn
 clear hT hL hn
 go_enter Tryz.func156,Tryz.ntmps156
 go_wp2
 go_loopw [5,8] (fun _ i wr=>∃ k:Nat,k≤n∧i = .int .i64 k∧Hid (Ur g L 0=Ur g (L.drop k) k)∧Below w.heap.size w wr) (fun _ i _=>n - (intOf i).toNat)
 case atStart=>exact⟨0,Nat.zero_le _,rfl,rfl,Below.refl _ _⟩
 case round=>
  obtain⟨k,hk,rfl,A,hb⟩:=hrel
  have HB:=hide hb
  by_cases hlt:k<n
  ·have hlk:k<L.length:=by rw[unhide HZ];exact hlt
   obtain⟨b,off,rfl,hbl,hrow⟩:=(unhide HL).2 (by omega)
   obtain⟨c0,⟨ai,ni,ci,c1,hI1,sI1⟩,ao,no,co,c2,hO1,sO1⟩:=hrow k hlk
   have c0:=cell_later hb c0
   have c1:=cell_later hb c1
   have c2:=cell_later hb c2
   have hbl:b<wr.heap.size:=Nat.lt_of_lt_of_le hbl hb.size
   have S:=hide (Zaf g L k hlk)
   obtain⟨t,ht⟩:∃ t,L[k]=t:=⟨_,rfl⟩
   rw[ht] at c0 hI1 hO1 S
   obtain⟨th,tI,tO⟩:=t
   have CC:=hide ((unhide HT).call wr hb th ai ao ni ci no co tI tO (hI1.later hb) (hO1.later hb) sI1 sO1)
   have eg:=(unhide HT).enters
   simp only at c0
   clear hI1 hO1 sI1 sO1 ht hrow hb
   cases hg:g (th,tI,tO) with
   | true=>
    rw[hg] at CC S
    have S2:Hid (Ur g L 0=k):=by show _=_;rw[unhide A,unhide S,if_pos rfl]
    clear S A hg
    go_wp2_with fail
    refine (unhide CC).mono ?_
    rintro e w2 ⟨rfl,hb2⟩
    have HB2:=hide (bel_on (unhide HB) hb2)
    clear hb2 CC
    go_wp2
    go_ret
    exact⟨by rw[unhide S2];rfl,unhide HB2⟩
   | false=>
    rw[hg] at CC S
    have S2:Hid (Ur g L 0=Ur g (L.drop (k+1)) (k+1)):=by show _=_;rw[unhide A,unhide S,if_neg (by decide)]
    clear S A hg
    go_wp2_with fail
    refine (unhide CC).mono ?_
    rintro e w2 ⟨rfl,hb2⟩
    have HB2:=hide (bel_on (unhide HB) hb2)
    clear hb2 CC
    go_wp2
    go_roundw
    case rel=>exact⟨k+1,by omega,by go_num,S2,unhide HB2⟩
    case measure=>simp[intOf];omega
  ·have S2:Hid (Ur g L 0 = -1):=by
    show _=_
    rw[unhide A,List.drop_of_length_le (by rw[unhide HZ];omega)];rfl
   clear A hb
   go_wp2
   go_ret
   exact⟨by rw[unhide S2];rfl,unhide HB⟩
theorem Sv(f:Nat)(caps:Array Value)(g:TxD→Bool)(a:Option Addr)(n c:Nat)(L:List TxD)(o:Bool)(w:World)(hT:Nf f caps w g)(hL:TxsAt w a n L)(hn:n≤maxLen)(ho:L.any g=o) :
  Calls Tryz.prog 89 #[.slice a n c,.func (.func f) #[] caps] w fun e w'=>e = .returned (.bool o)∧Below w.heap.size w w':=by
 have C1:=hide (Mp f caps g a n c L w hT hL hn)
 have HO:Hid (decide (0≤Ur g L 0)=o):=by show _=_;rw[K9];exact ho
 obtain⟨i,hi⟩:∃ i,Ur g L 0=i:=⟨_,rfl⟩
 rw[hi] at C1 HO
 clear hT hL hn ho hi
 go_enter Tryz.func89,Tryz.ntmps89
 go_wp2_with fail
 refine (unhide C1).mono ?_
 rintro e w1 ⟨rfl,hb⟩
 have HB:=hide hb
 clear hb C1
 go_wp2
 go_ret
 exact⟨by rw[←unhide HO];rfl,unhide HB⟩
end Go.Proofs.YtmomfkikogbdeaaGreatDoor
namespace Go.Proofs.YtmomfkikogbdeaaGreatDoor.Bk
open Go.RowKit Go.Maps
theorem Ef{s t:ByteArray}(h:s≠t):s.toList≠t.toList:=fun e=>h (by
 rw[ByteArray.toList_eq,ByteArray.toList_eq] at e
 have h4:s.data=t.data:=by rw[←Array.toList_inj];exact e
 cases s;cases t;simp_all)
theorem Zbn{s t:ByteArray}(h:s≠t):(s.toList == t.toList)=false:=by simp[Ef h]
theorem Kj{s:ByteArray}{L:List ByteArray}{j:Nat}(h:j<L.length)(h0:place s (L.take j)=0)(e:L[j]≠s):place s (L.take (j+1))=0:=by
 rw[place_zero] at *
 rw[List.take_succ_eq_append_getElem h]
 simp only[List.mem_append,List.mem_singleton,not_or]
 exact⟨h0,fun q=>e q.symm⟩
theorem Tc{s:ByteArray}:∀ {A B:List ByteArray},place s A=0→place s (A++s :: B)=A.length+1
 | [],B,_=>by simp[place]
 | x :: A,B,h=>by
  have hx:x≠s:=fun q=>by simp[place,q] at h
  have hA:place s A=0:=by
   rw[place_zero] at *
   exact fun q=>h (List.mem_cons_of_mem _ q)
  rw[List.cons_append,place,if_neg hx,Tc hA,if_neg (by omega),List.length_cons]
theorem L9{s:ByteArray}{L:List ByteArray}{j:Nat}(h:j<L.length)(h0:place s (L.take j)=0)(e:L[j]=s):place s L=j+1:=by
 have h1:L=L.take j++s :: L.drop (j+1):=by
  conv=>lhs;rw[←List.take_append_drop j L,List.drop_eq_getElem_cons h,e]
 rw[h1,Tc h0,List.length_take]
 omega
theorem indexS_is(a:Option Addr)(n c:Nat)(L:List ByteArray)(s:ByteArray)(x:Int)(w:World)(hn:n≤maxLen)(h:TextsAt w a n L)(hx:(place s L:Int) - 1=x) :
  Calls Tryz.prog 291 #[.slice a n c,.string s] w fun e w'=>e = .returned (.int .i64 x)∧Below w.heap.size w w':=by
 have HT:=hide h
 have HX:=hide hx
 unfold maxLen at hn
 clear h hx
 go_enter Tryz.func291,Tryz.ntmps291
 go_wp2
 go_loop [8] (fun i=>∃ j:Nat,j≤n∧i = .int .i64 j∧Hid (place s (L.take j)=0)) (fun i=>n - (intOf i).toNat)
 case atStart=>exact⟨0,Nat.zero_le _,rfl,rfl⟩
 case round=>
  obtain⟨j,hk,rfl,A⟩:=hrel
  by_cases hlt:j<n
  ·obtain⟨hz,hcs⟩:=unhide HT
   obtain⟨b,off,rfl,hc⟩:=hcs (by omega)
   have h1:j<L.length:=by omega
   have f:=hc j h1
   have PS:=hide (Kj h1 (unhide A))
   have PH:=hide (L9 h1 (unhide A))
   obtain⟨t,ht⟩:∃ t,L[j]=t:=⟨_,rfl⟩
   rw[ht] at f PS PH
   clear ht A hc hcs hz
   by_cases e:t=s
   ·subst e
    have R:Hid (x=j):=by show _=_;rw[←unhide HX,(unhide PH) rfl];omega
    clear PS PH
    go_wp2
    go_ret
    exact⟨by rw[unhide R];rfl,Below.refl _ _⟩
   ·have R:=hide ((unhide PS) e)
    have g:=Zbn (fun h:s=t=>e h.symm)
    clear PS PH e
    go_wp2
    go_round
    case rel=>exact⟨j+1,by omega,by go_num,R⟩
    case measure=>simp[intOf];omega
  ·have R:Hid (x = -1):=by
    have h:=unhide A
    rw[List.take_of_length_le (by rw[(unhide HT).1];omega)] at h
    show _=_;rw[←unhide HX,h];rfl
   clear A
   go_wp2
   go_ret
   exact⟨by rw[unhide R];rfl,Below.refl _ _⟩
end Go.Proofs.YtmomfkikogbdeaaGreatDoor.Bk
namespace Go.Proofs.YtmomfkikogbdeaaGreatDoor
open Go.RowKit
def KAt(w:World)(d:Nat)(K:List ByteArray):Prop:=∃ ka kn kc,w.cell? ⟨d,0,none⟩=some (.slice ka kn kc)∧Bk.TextsAt w ka kn K∧SlOk ka kn kc∧d<w.heap.size
theorem KAt.later{w w':World}{d:Nat}{K:List ByteArray}(h:KAt w d K)(hb:Below w.heap.size w w'):KAt w' d K:=by
 obtain⟨ka,kn,kc,h1,h2,h3,h4⟩:=h
 exact⟨ka,kn,kc,cell_later hb h1,h2.later hb,h3,Nat.lt_of_lt_of_le h4 hb.size⟩
def knT(K:List ByteArray)(t:TxD):Bool:=decide (Zp t=0) && !decide (Bk.place (txT t) K=0)
def kbD(K:List ByteArray)(s:Int)(b:Zg):Bool:=decide (Yg b=0) && (decide ((Bk.place (Zap b) K:Int)=s) && b.2.2.2.2.all (knT K))
theorem Pq(d:Nat)(s:ByteArray)(K:List ByteArray)(x:Int)(w:World)(h:KAt w d K)(hx:(Bk.place s K:Int)=x) :
  Calls Tryz.prog 261 #[.pointer (some ⟨d,0,none⟩),.string s] w fun e w'=>e = .returned (.int .i64 x)∧Below w.heap.size w w':=by
 obtain⟨ka,kn,kc,h1,h2,h3,h4⟩:=h
 have C1:=hide (Bk.indexS_is ka kn kc K s (x - 1) w h3.len h2 (by omega))
 have hl:=Bk.place_le s K
 have hk:=h2.1
 have hs:kn≤9223372036854775807:=h3.len
 have hw1:IntKind.i64.wrap (x - 1+1)=x:=by rw[IntKind.wrap_i64];omega
 have hw2:IntKind.i64.wrap x=x:=by rw[IntKind.wrap_i64];omega
 have he:x - 1+1=x:=by omega
 clear h2 h3 hx hl hk hs
 go_enter Tryz.func261,Tryz.ntmps261
 go_wp2_with fail
 refine (unhide C1).mono ?_
 rintro e w1 ⟨rfl,hb⟩
 have HB:=hide hb
 clear hb C1
 go_wp2
 go_ret
 exact⟨by simp,unhide HB⟩
theorem Gl(q d:Nat)(K:List ByteArray)(w:World)(hE:Env w)(hq:w.cell? ⟨q,0,none⟩=some (.pointer (some ⟨d,0,none⟩)))(hK:KAt w d K) :
  Nf 262 #[.pointer (some ⟨q,0,none⟩)] w (fun x=>!knT K x) where
 enters:=enters_of (fn:=Tryz.f262) (by kernel_rfl) (by kernel_rfl) rfl
 call V hV th ai ao ni ci no co I O hI hO sI sO:=by
  obtain⟨X,hX⟩:∃ X,X=V.alloc (.cells #[.int .i64 th,.slice ai ni ci,.slice ao no co] 59):=⟨_,rfl⟩
  have hbX:Below V.heap.size V X:=by rw[hX];exact bel_new _ _
  have hX0:X.heap[V.heap.size]? = some (.cells [.int .i64 th,.slice ai ni ci,.slice ao no co].toArray 59 (0,0)):=by rw[hX];exact Zm _ _ _ _ _
  have hwX:=bel_on hV hbX
  obtain⟨x1,hx1⟩:∃ x1,Zp (th,I,O)=x1:=⟨_,rfl⟩
  obtain⟨T,hT⟩:∃ T,txT (th,I,O)=T:=⟨_,rfl⟩
  obtain⟨y,hy⟩:∃ y,(Bk.place T K:Int)=y:=⟨_,rfl⟩
  have C1:=hide (Rs th ai ao ni ci no co I O T x1 X (hE.later hwX) (hI.later hbX) (hO.later hbX) sI hx1 hT)
  have C2:=hide (fun U (hu:Below w.heap.size w U)=>Pq d T K y U (hK.later hu) hy)
  have HG:Hid ((!knT K (th,I,O))=(decide (x1≠0) || decide (y=0))):=by
   show _=_
   unfold knT
   rw[hx1,hT,←hy]
   by_cases e:x1=0
   ·simp[e]
   ·simp[e]
  show Calls _ _ _ _ (fun e w'=>e = .returned (.bool (!knT K (th,I,O)))∧_)
  rw[unhide HG]
  have t0:=Za hX0 0 _ rfl
  have t1:=Za hX0 1 _ rfl
  have t2:=Za hX0 2 _ rfl
  have tl:=lt_of_block hX0
  have HB:=hide hbX
  have HWX:=hide hwX
  have HQ:=hide hq
  clear hE hq hK hV hI hO sI sO hbX hX0 hwX hx1 hT hy HG
  go_enter Tryz.func262,Tryz.ntmps262
  go_wp2_with fail
  rw[←hX]
  clear hX
  (try go_wp2_with fail)
  refine (unhide C1).mono ?_
  rintro e w1 ⟨rfl,hb1⟩
  have HB1:=hide (bel_on (unhide HB) hb1)
  have C3:=hide ((unhide C2) w1 (bel_on (unhide HWX) hb1))
  have q1:=cell_later (bel_on (unhide HWX) hb1) (unhide HQ)
  have ql:=World.block_lt_of_cell? _ _ q1
  clear hb1 C1 C2 t0 t1 t2 tl
  by_cases e1:x1=0
  ·subst e1
   go_wp2_with fail
   refine (unhide C3).mono ?_
   rintro e w2 ⟨rfl,hb2⟩
   have HB2:=hide (bel_on (unhide HB1) hb2)
   clear hb2 C3
   go_wp2
   go_ret
   exact⟨by cases h:decide (y=0) <;> simp_all,unhide HB2⟩
  ·have gx:(x1 != 0)=true:=by simp[e1]
   go_wp2
   go_ret
   exact⟨by simp[e1],unhide HB1⟩
theorem Nu(K:List ByteArray):∀ (L:List TxD),(!(L.any fun x=>!knT K x))=L.all (knT K)
 | []=>rfl
 | t :: L=>by
  rw[List.any_cons,List.all_cons,←Nu K L]
  cases knT K t <;> simp
theorem Ps(d:Nat)(K:List ByteArray)(a:Option Addr)(n c:Nat)(L:List TxD)(o:Bool)(w:World)(hE:Env w)(hK:KAt w d K)(hL:TxsAt w a n L)(hn:n≤maxLen)(ho:L.all (knT K)=o) :
  Calls Tryz.prog 217 #[.pointer (some ⟨d,0,none⟩),.slice a n c] w fun e w'=>e = .returned (.bool o)∧Below w.heap.size w w':=by
 obtain⟨X,hX⟩:∃ X,X=w.alloc (.cells #[.pointer (some ⟨d,0,none⟩)] 181):=⟨_,rfl⟩
 have hbX:Below w.heap.size w X:=by rw[hX];exact bel_new _ _
 have hX0:X.heap[w.heap.size]? = some (.cells [.pointer (some ⟨d,0,none⟩)].toArray 181 (0,0)):=by rw[hX];exact Z8 _ _ _
 have C1:=hide (Sv _ _ _ a n c L (!o) X (Gl w.heap.size d K X (hE.later hbX) (Za hX0 0 _ rfl) (hK.later hbX)) (hL.later hbX) hn (by rw[←ho,←Nu,Bool.not_not]))
 have HB:=hide hbX
 clear hE hK hL hn ho hbX hX0
 go_enter Tryz.func217,Tryz.ntmps217
 go_wp2_with fail
 rw[←hX]
 clear hX
 (try go_wp2_with fail)
 refine (unhide C1).mono ?_
 rintro e w1 ⟨rfl,hb⟩
 have HB2:=hide (bel_on (unhide HB) hb)
 clear hb C1
 go_wp2
 go_ret
 exact⟨by simp,unhide HB2⟩
theorem Fi(d:Nat)(K:List ByteArray)(s p h k o:Int)(a:Option Addr)(m c:Nat)(T:List TxD)(y:Bool)(w:World)(hE:Env w)(hK:KAt w d K)(hT:TxsAt w a m T)(sT:SlOk a m c)(hy:kbD K s (p,h,k,o,T)=y) :
  Calls Tryz.prog 216 #[.pointer (some ⟨d,0,none⟩),.int .i64 s,.agg #[.int .i64 p,.int .i64 h,.int .i64 k,.int .i64 o,.slice a m c]] w fun e w'=>e = .returned (.bool y)∧Below w.heap.size w w':=by
 obtain⟨X,hX⟩:∃ X,X=w.alloc (.cells #[.int .i64 p,.int .i64 h,.int .i64 k,.int .i64 o,.slice a m c] 39):=⟨_,rfl⟩
 have hbX:Below w.heap.size w X:=by rw[hX];exact bel_new _ _
 have hX0:X.heap[w.heap.size]? = some (.cells [.int .i64 p,.int .i64 h,.int .i64 k,.int .i64 o,.slice a m c].toArray 39 (0,0)):=by rw[hX];exact Zl _ _ _ _ _ _ _
 obtain⟨x1,hx1⟩:∃ x1,Yg (p,h,k,o,T)=x1:=⟨_,rfl⟩
 obtain⟨t,ht⟩:∃ t,Zap (p,h,k,o,T)=t:=⟨_,rfl⟩
 obtain⟨z,hz⟩:∃ z,(Bk.place t K:Int)=z:=⟨_,rfl⟩
 obtain⟨g,hg⟩:∃ g,T.all (knT K)=g:=⟨_,rfl⟩
 have C1:=hide (Lu p h k o a m c T t x1 X (hE.later hbX) (hT.later hbX) hx1 ht)
 have C2:=hide (fun U (hu:Below w.heap.size w U)=>Pq d t K z U (hK.later hu) hz)
 have C3:=hide (fun U (hu:Below w.heap.size w U)=>Ps d K a m c T g U (hE.later hu) (hK.later hu) (hT.later hu) sT.len hg)
 have HY:Hid ((decide (x1=0) && (decide (z=s) && g))=y):=by
  show _=_
  rw[←hy];unfold kbD;rw[hx1,ht,hz];simp only;rw[hg]
 have HB:=hide hbX
 have HX0:=hide hX0
 have e0:=Za hX0 0 _ rfl
 have e1:=Za hX0 1 _ rfl
 have e2:=Za hX0 2 _ rfl
 have e3:=Za hX0 3 _ rfl
 have e4:=Za hX0 4 _ rfl
 have el:=lt_of_block hX0
 clear hE hK hT sT hy hbX hX0 hx1 ht hz hg
 go_enter Tryz.func216,Tryz.ntmps216
 go_wp2_with fail
 rw[←hX]
 clear hX
 (try go_wp2_with fail)
 refine (unhide C1).mono ?_
 rintro e w1 ⟨rfl,hb1⟩
 have HB1:=hide (bel_on (unhide HB) hb1)
 have H1X:=hide hb1
 have D2:=hide ((unhide C2) w1 (bel_on (unhide HB) hb1))
 clear hb1 C1 C2 e0 e1 e2 e3 e4 el
 by_cases q1:x1=0
 ·subst q1
  go_wp2_with fail
  refine (unhide D2).mono ?_
  rintro e w2 ⟨rfl,hb2⟩
  have HB2:=hide (bel_on (unhide HB1) hb2)
  have D3:=hide ((unhide C3) w2 (bel_on (unhide HB1) hb2))
  have h2:=((bel_on (unhide H1X) hb2).block _ (lt_of_block (unhide HX0))).trans (unhide HX0)
  have e4:=Za h2 4 _ rfl
  have el:=lt_of_block h2
  clear hb2 D2 C3 h2
  by_cases q2:z=s
  ·subst q2
   go_wp2_with fail
   refine (unhide D3).mono ?_
   rintro e w3 ⟨rfl,hb3⟩
   have HB3:=hide (bel_on (unhide HB2) hb3)
   clear hb3 D3
   go_wp2
   go_ret
   exact⟨by rw[←unhide HY];simp,unhide HB3⟩
  ·have gz:(z == s)=false:=by simp[q2]
   go_wp2
   go_ret
   exact⟨by rw[←unhide HY];simp[q2],unhide HB2⟩
 ·have gx:(x1 == 0)=false:=by simp[q1]
  go_wp2
  go_ret
  exact⟨by rw[←unhide HY];simp[q1],unhide HB1⟩
end Go.Proofs.YtmomfkikogbdeaaGreatDoor
