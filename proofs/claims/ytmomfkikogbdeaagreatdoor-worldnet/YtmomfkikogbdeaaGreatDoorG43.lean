import Derived.Test.YtmomfkikogbdeaaGreatDoorH
import Derived.Test.YtmomfkikogbdeaaGreatDoorG39
open Go renaming lt_of_block->aA,wpAnyH_ready->aG,heap_alloc_new->aR
open Go.Act renaming put->aC
open Go.Callee renaming value->aP
open Go.Ending renaming returned->cY
open Go.IntKind renaming i64->J
open Go.Obj renaming cells->cW
open Go.RowKit renaming Below->aD
open Go.Value renaming int->E,slice->F,pointer->dA
open Nat renaming le_of_eq->cN,le_trans->aS
namespace Go.Proofs.YtmomfkikogbdeaaGreatDoor
open Go.RowKit
structure DoN(w0 w:World)(f:Nat)(caps:Array Value)(K:List ByteArray)(y:Vu)(x:Int)(D:Dsk)(R:Nat->Nat->World->Prop):Prop where
 enters:∀ args w,(callFunc f args).run Tryz.prog w = .ok (.enter f args) w
 on:∀ lo hi V V',R lo hi V->Gr V V' (λq=>q<w0.heap.size\/(w.heap.size<=q/\q<lo)\/hi<=q)->R lo hi V'
 call:∀ V,aD w.heap.size w V->∀ ka kn kc na nn nc ba bn bc pa pn pc,Bk.TextsAt V ka kn K->SlOk ka kn kc->Tr.IntsAt V na nn y.1->Tr.BlksAt V ba bn y.2.1->TxsAt V pa pn y.2.2.1->SlOk na nn nc->SlOk ba bn bc->SlOk pa pn pc ->
  Calls Tryz.prog f (#[.agg #[F ka kn kc],.agg #[F na nn nc,F ba bn bc,F pa pn pc,E J y.2.2.2]]++caps) V λe V'=>M3 V V' x D e/\Gr V V' (λq=>w0.heap.size<=q/\q<w.heap.size)/\R V.heap.size V'.heap.size V'
def WD.put(W:WD)(i:Nat)(D:Dsk):WD:=⟨D.k,W.n.set i (D.n,D.t,D.p,D.tip),W.m⟩
def PostC(w0 w:World)(D:Dsk)(R:Nat->Nat->World->Prop)(lo hi:Nat)(ka:Option Addr)(kn kc:Nat)(na:Option Addr)(nn nc:Nat)(ba:Option Addr)(bn bc:Nat)(pa:Option Addr)(pn pc:Nat)(U:World):Prop:=
 Gr w U (λq=>w0.heap.size<=q/\q<w.heap.size)/\R lo hi U/\(∀ z,Gr U z (λq=>q<lo\/hi<=q)->Qw z ka kn D.k na nn D.n ba bn D.t pa pn D.p)/\SlOk ka kn kc/\SlOk na nn nc/\SlOk ba bn bc/\SlOk pa pn pc
theorem PostC.on{w0 w U Q:World}{D:Dsk}{R:Nat->Nat->World->Prop}{lo hi:Nat}{ka na ba pa:Option Addr}{kn kc nn nc bn bc pn pc:Nat}(h:PostC w0 w D R lo hi ka kn kc na nn nc ba bn bc pa pn pc U)(hR:∀ lo hi V V',R lo hi V->Gr V V' (λq=>q<w0.heap.size\/(w.heap.size<=q/\q<lo)\/hi<=q)->R lo hi V')(hw:w.heap.size<=hi)(z:Gr U Q (λq=>(w.heap.size<=q/\q<lo)\/hi<=q)):PostC w0 w D R lo hi ka kn kc na nn nc ba bn bc pa pn pc Q:=
 ⟨h.1.far z (λq e=>.inl (by omega)),hR _ _ _ _ h.2.1 (z.mono (λq _ e=>.inr e)),λW2 g2=>h.2.2.1 W2 ((z.mono (λq _ e=>by omega)).trans g2),h.2.2.2⟩
theorem Zfn{α : Type}{Z:Tr.Rec α}{w:World}{K:List (List Value)}{L:List α}(h:Tr.AllC Z w K L){i:Nat}{cs:List Value}{x : α}(hx:Z.C w cs x):Tr.AllC Z w (K.set i cs) (L.set i x):=by
 refine⟨by simp[h.1],λj h1 h2=>?_⟩;by_cases e:i=j
 ·subst e;rw[List.getElem_set_self,List.getElem_set_self];exact hx
 ·rw[List.getElem_set_ne e,List.getElem_set_ne e];exact h.2 j (by simpa using h1) (by simpa using h2)
theorem Zix{Z:Nat->Prop}{s:Nat}{W:WD}{wx:World}{ka:Option Addr}{kn kc g cap i H:Nat}{vm:Value}{Kn Km:List (List Value)}{D:Dsk}{z n1 b1 p1:Option Addr}{Q ab ac ag aa af ae ah:Nat}(h:ScAt Z s W wx ka kn kc (F (some ⟨g,0,none⟩) W.n.length cap) vm Kn Km)
  (hi:i<W.n.length) (hF:∀ W2,Gr wx W2 (λq=>q<H)->Qw W2 z Q D.k n1 ac D.n b1 aa D.t p1 ae D.p) (hH:s<H/\g<H/\∀ q,Z q\/vm.ownBlock=some q->q<H) (s1:SlOk z Q ab) (s2:SlOk n1 ac ag) (s3:SlOk b1 aa af) (s4:SlOk p1 ae ah) :
  Sc Z s (W.put i D) (Tr.setsW (wx.setCell ⟨s,0,none⟩ (F z Q ab)) g (i*4) [F n1 ac ag,F b1 aa af,F p1 ae ah,E J D.tip]) /\
  Gr wx (Tr.setsW (wx.setCell ⟨s,0,none⟩ (F z Q ab)) g (i*4) [F n1 ac ag,F b1 aa af,F p1 ae ah,E J D.tip]) (λq=>q=s\/q=g):=by
 have hb:=h.box;have az:g≠s:=Xd h.on.rn hb (by decide) g rfl;have ga:Gr wx (wx.setCell ⟨s,0,none⟩ (F z Q ab)) (λq=>q=s):=(Gr.refl wx (λq=>q=s)).one s 0 (.inl rfl) _;have gb:Gr (wx.setCell ⟨s,0,none⟩ (F z Q ab)) (Tr.setsW (wx.setCell ⟨s,0,none⟩ (F z Q ab)) g (i*4) [F n1 ac ag,F b1 aa af,F p1 ae ah,E J D.tip]) (λq=>q=g):=Tr.setsW_gr _ _ _ (Gr.refl _ _) (.inl rfl);have gg:=(ga.mono (T:=λq=>q=s\/q=g) (λq _ e=>.inl e)).trans (gb.mono (λq _ e=>.inr e));have hk:i<Kn.length:=by rw[h.on.now.2.1.1];exact hi
 refine⟨⟨z,Q,ab,F (some ⟨g,0,none⟩) W.n.length cap,vm,Kn.set i [F n1 ac ag,F b1 aa af,F p1 ae ah,E J D.tip],Km,gb.heap (Tr.set_cells hb 0 _) (λe=>az (Eq.symm e)),λq e=>⟨Nat.lt_of_lt_of_le (h.zs q e).1 gg.size,(h.zs q e).2⟩,?_,?_,λV gV=>?_,s1⟩,gg⟩
 ·show World.ownsRow _ _ _ _ _ (W.n.set i _).length _;rw[List.length_set];exact Tr.own_put (Z:=Tr.nodR) (ga.own h.on.rn (λq hq e=>Xd h.on.rn hb (by decide) q hq e)) h.on.now.2.1.wid hk rfl
 ·exact gg.own h.on.rm (λq hq e=>by
   rcases e with e|e
   ·exact Xd h.on.rm hb (by decide) q hq e
   ·exact Tr.own_apart h.on.rn h.on.rm (by decide) q (by rw[e];rfl) hq)
 ·have gw:Gr wx V (λq=>(Z q\/q=s)\/(Value.slice (some ⟨g,0,none⟩) W.n.length cap).ownBlock=some q\/vm.ownBlock=some q):=(gg.mono (λq _ e=>e.elim (λe=>.inl (.inr e)) (λe=>.inr (.inl (by rw[e];rfl))))).trans gV
  have gh:Gr wx V (λq=>q<H):=gw.mono (λq _ e=>by
   rcases e with (e|e)|e|e
   ·exact hH.2.2 q (.inl e)
   ·omega
   ·injection e with e;have e:g=q:=e;omega
   ·exact hH.2.2 q (.inr e))
  obtain⟨d1,d2,d3⟩:=h.on.dat V gw;have aj:=hF V gh;exact⟨aj.k,Zfn d2 ⟨n1,ac,ag,b1,aa,af,p1,ae,ah,rfl,aj.n,aj.b,aj.p,s2,s3,s4⟩,d3⟩
theorem Qg{P:Program}{o:Oper}{ρ : Operand->Value}{w:World}{f:Nat}{caps z:Array Value}(t:Operand)(xs:Array Operand)(ts:Array TypeId)(ho:o.op = .call { callee:=.value t,args:=xs,argTypes:=ts })(ht : ρ t = .func (.func f) #[] caps)(hv:xs.map ρ = z)(Q:∀ args w,(callFunc f args).run P w = .ok (.enter f args) w) :
  (execOp ρ o).run P w = .ok (.enter f (z++caps)) w:=by
 unfold execOp;simp[ho,resolve,ht,Deferred.ofValue,invoke,Q,<-hv]
def ChW(Z:Nat->Prop)(s:Nat)(W:WD)(i:Nat)(x:Int)(D:Dsk)(R:Nat->Nat->World->Prop)(w0 w':World):Prop:=Sc Z s (if x=0 then W.put i D else W) w'/\Gr w0 w' (λq=>¬Z q)/\(∃ lo hi,R lo hi w'/\w0.heap.size<=lo/\hi<=w'.heap.size)/\∀ q,Xw w' s q->q<w0.heap.size
set_option maxRecDepth 10000 in
set_option maxHeartbeats 12800000 in
theorem Pp(Z:Nat->Prop)(s:Nat)(W:WD)(i:Nat)(f:Nat)(caps:Array Value)(x:Int)(D:Dsk)(R:Nat->Nat->World->Prop)(w0 w:World)(hS:Sc Z s W w0)(h0:aD w0.heap.size w0 w)(hi:i<W.n.length)(hD:DoN w0 w f caps W.k W.n[i] x D R) :
  Calls Tryz.prog 266 #[dA (some ⟨s,0,none⟩),E J i,.func (.func f) #[] caps] w λe w'=>e = cY (E J x)/\ChW Z s W i x D R w0 w':=by
 obtain⟨ka,kn,kc,vn,vm,Kn,Km,hA⟩:=hS;have hb:=hA.box;have hw:=hA.on;obtain⟨na,nc,ma,mc,rfl,rfl,_,_,_,_⟩:=hw.read
 obtain⟨g,rfl⟩:∃ g,na=some ⟨g,0,none⟩:=by
  rcases hw.rn.2 with ⟨_,e⟩|⟨g,cap,ff,e,_⟩
  ·omega
  ·injection e with e;exact⟨g,e⟩
 have hk:i<Kn.length:=by rw[hw.now.2.1.1];exact hi
 obtain⟨y,hy⟩:=ZF (W.n[i]);rw[hy] at hD;have hC:=(hw.later h0).now.2.1.2 i hi hk;rw[hy] at hC;obtain⟨pa,pn,pc,pb,pm,pd,pp,pq,pr,eK,hI,hT,hP,sI,sT,sP⟩:=hC;have rc:=λj (hj:j<4)=>World.ownsRow.cellAt (hw.later h0).rn (i*4+j) (by have:(i+1)*4<=W.n.length*4:=Nat.mul_le_mul_right _ hi;omega);have cy:=λj (hj:j<4)=>(rc j hj).trans (Tr.wid_at hw.now.2.1.wid i hk j hj);rw[eK] at cy;have r0:w.cell? ⟨g,i*4,none⟩=some (F pa pn pc):=cy 0 (by decide);have r1:w.cell? ⟨g,i*4+1,none⟩=some (F pb pm pd):=cy 1 (by decide);have r2:w.cell? ⟨g,i*4+2,none⟩=some (F pp pq pr):=cy 2 (by decide);have r3:w.cell? ⟨g,i*4+3,none⟩=some (E J y.2.2.2):=cy 3 (by decide);have bs:=ZE h0 hb;have fp:=aA hb;have fm:=(hw.rn.lt g rfl).2;have fq:=h0.size;have ev:g≠s:=Xd hw.rn hb (by decide) g rfl;have ec:Hid (∀ q,(Value.slice ma W.m.length mc).ownBlock=some q->q<w0.heap.size):=λq hq=>(hw.rm.lt q hq).2;have CD:=Zd (λV (hv:aD w.heap.size w V)=>hD.call V hv ka kn kc pa pn pc pb pm pd pp pq pr ((hw.later h0).later hv).now.1 hw.sk (hI.later hv) (hT.later hv) (hP.later hv) sI sT sP);have eg:=hD.enters;have cl:=Zd hD.on;have HA:=Zd hA;have eq:=Zd hw;have H0:=Zd h0;have ep:=Zd hb
 have KS:Hid (∀ U:World,Gr w U (λq=>w0.heap.size<=q)->(U.cell? ⟨s,0,none⟩=some (F ka kn kc)/\U.cell? ⟨s,1,none⟩=some (F (some ⟨g,0,none⟩) W.n.length nc)/\s<U.heap.size/\U.cell? ⟨g,i*4,none⟩=some (F pa pn pc)/\U.cell? ⟨g,i*4+1,none⟩=some (F pb pm pd)/\U.cell? ⟨g,i*4+2,none⟩=some (F pp pq pr)/\U.cell? ⟨g,i*4+3,none⟩=some (E J y.2.2.2)/\g<U.heap.size)):=λU hu=>⟨hu.cell (Zb bs 0 _ rfl) (by show ¬w0.heap.size<=s;omega),hu.cell (Zb bs 1 _ rfl) (by show ¬w0.heap.size<=s;omega),by have:=hu.size;omega,hu.cell r0 (by show ¬w0.heap.size<=g;omega),hu.cell r1 (by show ¬w0.heap.size<=g;omega),hu.cell r2 (by show ¬w0.heap.size<=g;omega),hu.cell r3 (by show ¬w0.heap.size<=g;omega),by have:=hu.size;omega⟩;have fo:(i:Int)<(W.n.length:Int):=by omega
 clear hD hI hT hP sI sT sP eK rc cy r0 r1 r2 r3 bs hb hw hA h0 hy;go_enter Tryz.func266,Tryz.ntmps266
 go_upto_region 1 with fail
 go_cut [7,8,9] from 10 to 28 (λs7 s8 s9 wx=>s9 = E J x/\Hid (∃ b7 b8 k1 ay ax n1 be bd b1 bb az p1 bh bg,s7 = dA (some ⟨b7,0,none⟩)/\s8 = dA (some ⟨b8,0,none⟩)/\wx.heap[b7]? = some (cW [F k1 ay ax].toArray 24 (0,0))/\wx.heap[b8]? = some (cW [F n1 be bd,F b1 bb az,F p1 bh bg,E J D.tip].toArray 67 (0,0))/\w.heap.size<=b7/\w.heap.size<=b8/\∃ lo hi,w.heap.size<=lo/\lo<=hi/\hi<=wx.heap.size/\PostC w0 w D R lo hi k1 ay ax n1 be bd b1 bb az p1 bh bg wx))
 case first=>
  refine wp_region_held_drew (S:=λU=>(U.cell? ⟨s,0,none⟩=some (F ka kn kc)/\U.cell? ⟨s,1,none⟩=some (F (some ⟨g,0,none⟩) W.n.length nc)/\s<U.heap.size/\U.cell? ⟨g,i*4,none⟩=some (F pa pn pc)/\U.cell? ⟨g,i*4+1,none⟩=some (F pb pm pd)/\U.cell? ⟨g,i*4+2,none⟩=some (F pp pq pr)/\U.cell? ⟨g,i*4+3,none⟩=some (E J y.2.2.2)/\g<U.heap.size)) (by kernel_rfl) (KS _ (Gr.of (Zi w))) (λz=>?_);refine tk 0 ⟨some 11,.move (.tmp 2),350, "scene.go:146",#[],none⟩ ?_ rfl ?_ z ?_;rotate_left
  ·(intro U ad;obtain⟨q0,q1,q2,q3,q4,q5,q6,q7⟩:=ad;go_simp;first|done|with_reducible rfl)
  (try simp only[aC,ZA,ZB,ZC]);refine tk 1 ⟨some 12,.move (.tmp 0),204, "scene.go:146",#[],none⟩ ?_ rfl ?_ z ?_;rotate_left
  ·(intro U ad;obtain⟨q0,q1,q2,q3,q4,q5,q6,q7⟩:=ad;go_simp;first|done|with_reducible rfl)
  (try simp only[aC,ZA,ZB,ZC]);refine tk 2 ⟨some 13,.nilCheck (.tmp 12),0, "scene.go:146",#[⟨1,.data⟩],none⟩ ?_ rfl ?_ z ?_;rotate_left
  ·(intro U ad;obtain⟨q0,q1,q2,q3,q4,q5,q6,q7⟩:=ad;go_simp;first|done|with_reducible rfl)
  (try simp only[aC,ZA,ZB,ZC]);refine tk 3 ⟨some 14,.fieldAddr 287 (.tmp 13) 0,0, "scene.go:146",#[⟨2,.data⟩],none⟩ ?_ rfl ?_ z ?_;rotate_left
  ·(intro U ad;obtain⟨q0,q1,q2,q3,q4,q5,q6,q7⟩:=ad;go_simp;first|done|with_reducible rfl)
  (try simp only[aC,ZA,ZB,ZC]);refine tk 4 ⟨some 15,.fieldAddr 90 (.tmp 14) 0,0, "scene.go:146",#[⟨3,.data⟩],none⟩ ?_ rfl ?_ z ?_;rotate_left
  ·(intro U ad;obtain⟨q0,q1,q2,q3,q4,q5,q6,q7⟩:=ad;go_simp;first|done|with_reducible rfl)
  (try simp only[aC,ZA,ZB,ZC]);refine tk 5 ⟨some 16,.load 24 (.tmp 15),24, "scene.go:146",#[⟨4,.data⟩],none⟩ ?_ rfl ?_ z ?_;rotate_left
  ·(intro U ad;obtain⟨q0,q1,q2,q3,q4,q5,q6,q7⟩:=ad;go_simp;first|done|with_reducible rfl)
  (try simp only[aC,ZA,ZB,ZC]);refine tk 6 ⟨some 17,.move (.tmp 0),204, "scene.go:146",#[],none⟩ ?_ rfl ?_ z ?_;rotate_left
  ·(intro U ad;obtain⟨q0,q1,q2,q3,q4,q5,q6,q7⟩:=ad;go_simp;first|done|with_reducible rfl)
  (try simp only[aC,ZA,ZB,ZC]);refine tk 7 ⟨some 18,.nilCheck (.tmp 17),0, "scene.go:146",#[⟨6,.data⟩],none⟩ ?_ rfl ?_ z ?_;rotate_left
  ·(intro U ad;obtain⟨q0,q1,q2,q3,q4,q5,q6,q7⟩:=ad;go_simp;first|done|with_reducible rfl)
  (try simp only[aC,ZA,ZB,ZC]);refine tk 8 ⟨some 19,.fieldAddr 287 (.tmp 18) 0,0, "scene.go:146",#[⟨7,.data⟩],none⟩ ?_ rfl ?_ z ?_;rotate_left
  ·(intro U ad;obtain⟨q0,q1,q2,q3,q4,q5,q6,q7⟩:=ad;go_simp;first|done|with_reducible rfl)
  (try simp only[aC,ZA,ZB,ZC]);refine tk 9 ⟨some 20,.fieldAddr 90 (.tmp 19) 1,0, "scene.go:146",#[⟨8,.data⟩],none⟩ ?_ rfl ?_ z ?_;rotate_left
  ·(intro U ad;obtain⟨q0,q1,q2,q3,q4,q5,q6,q7⟩:=ad;go_simp;first|done|with_reducible rfl)
  (try simp only[aC,ZA,ZB,ZC]);refine tk 10 ⟨some 21,.load 87 (.tmp 20),87, "scene.go:146",#[⟨9,.data⟩],none⟩ ?_ rfl ?_ z ?_;rotate_left
  ·(intro U ad;obtain⟨q0,q1,q2,q3,q4,q5,q6,q7⟩:=ad;go_simp;first|done|with_reducible rfl)
  (try simp only[aC,ZA,ZB,ZC]);refine tk 11 ⟨some 22,.move (.tmp 1),3, "scene.go:146",#[],none⟩ ?_ rfl ?_ z ?_;rotate_left
  ·(intro U ad;obtain⟨q0,q1,q2,q3,q4,q5,q6,q7⟩:=ad;go_simp;first|done|with_reducible rfl)
  (try simp only[aC,ZA,ZB,ZC]);refine tk 12 ⟨some 23,.indexAddr 87 (.tmp 21) (.tmp 22),0, "scene.go:146",#[⟨10,.data⟩,⟨11,.data⟩],none⟩ ?_ rfl ?_ z ?_;rotate_left
  ·(intro U ad;obtain⟨q0,q1,q2,q3,q4,q5,q6,q7⟩:=ad;go_simp;first|done|with_reducible rfl)
  (try simp only[aC,ZA,ZB,ZC]);refine tk 13 ⟨some 24,.load 67 (.tmp 23),67, "scene.go:146",#[⟨12,.data⟩],none⟩ ?_ rfl ?_ z ?_;rotate_left
  ·(intro U ad;obtain⟨q0,q1,q2,q3,q4,q5,q6,q7⟩:=ad;go_simp;first|done|with_reducible rfl)
  (try simp only[aC,ZA,ZB,ZC]);have Q:Gr w w.drew (λq=>w0.heap.size<=q):=Gr.of (Zi w);have hb:=Zi w;obtain⟨v0,el⟩:∃ v,v=w.drew:=⟨_,rfl⟩;rw[<-el] at Q hb z ⊢;clear el;refine aG (rs:=[14,19,20]) (by kernel_rfl) (by simp) ?_;refine AllReadyH.cons (o:=⟨some 25,.call { callee:=aP (.tmp 11),args:=#[.tmp 16,.tmp 24],argTypes:=#[24,67] },82, "scene.go:146",#[⟨0,.data⟩,⟨5,.data⟩,⟨13,.data⟩],none⟩) rfl (λKQ hK=>?_) (AllReadyH.cons (o:=⟨some 7,.alloc 24,0, "scene.go:146",#[],none⟩) rfl (λKQ hK=>?_) (AllReadyH.cons (o:=⟨some 8,.alloc 67,0, "scene.go:146",#[],none⟩) rfl (λKQ hK=>?_) AllReadyH.nil));have cc:=CD v0 hb;refine Zm (by kernel_rfl) f _ (Qg (.tmp 11) #[.tmp 16,.tmp 24] #[24,67] rfl (by kernel_rfl) (by kernel_rfl) eg) cc ?_;clear cc;rintro e v1 ⟨⟨k1,ay,ax,n1,be,bd,b1,bb,az,p1,bh,bg,rfl,hF,s1,s2,s3,s4⟩,al,hR⟩;refine⟨_,rfl,?_⟩;obtain⟨lo,an⟩:∃ n,n=v0.heap.size:=⟨_,rfl⟩;obtain⟨ag,am⟩:∃ n,n=v1.heap.size:=⟨_,rfl⟩;rw[<-an,<-am] at hR;have ct:w.heap.size<=lo:=by rw[an];exact hb.size
  have cq:lo<=ag:=by rw[an,am];exact al.size
  have ap:ag<=v1.heap.size:=cN am;have ah:PostC w0 w D R lo ag k1 ay ax n1 be bd b1 bb az p1 bh bg v1:=⟨(Gr.of hb).far al (λq e=>.inr e),hR,λW2 g2=>hF W2 ((Gr.refl v1 (λq=>q<v0.heap.size)).far g2 (λq e=>by omega)),s1,s2,s3,s4⟩;clear hF s1 s2 s3 s4 hR al;have Q:Gr w v1 (λq=>w0.heap.size<=q):=ah.1.mono (λq _ e=>e.1);clear an am;refine hK.out _ _ (KS _ Q) (λab=>?_);clear hK KQ z;have z:=ab;clear ab;(try simp only[aC,ZA,ZB,ZC]);refine tk 15 ⟨some 10,.move (.tmp 25),82, "scene.go:146",#[⟨14,.data⟩],none⟩ ?_ rfl ?_ z ?_;rotate_left
  ·(intro U ad;go_simp;first|done|with_reducible rfl)
  (try simp only[aC,ZA,ZB,ZC]);refine tk 16 ⟨some 26,.extract (.tmp 10) 0,24, "scene.go:146",#[⟨15,.data⟩],none⟩ ?_ rfl ?_ z ?_;rotate_left
  ·(intro U ad;go_simp;first|done|with_reducible rfl)
  (try simp only[aC,ZA,ZB,ZC]);refine tk 17 ⟨some 27,.extract (.tmp 10) 1,67, "scene.go:146",#[⟨15,.data⟩,⟨21,.gcOnly .lateStores⟩],none⟩ ?_ rfl ?_ z ?_;rotate_left
  ·(intro U ad;go_simp;first|done|with_reducible rfl)
  (try simp only[aC,ZA,ZB,ZC]);refine tk 18 ⟨some 28,.extract (.tmp 10) 2,30, "scene.go:146",#[⟨15,.data⟩,⟨22,.gcOnly .lateStores⟩],none⟩ ?_ rfl ?_ z ?_;rotate_left
  ·(intro U ad;go_simp;first|done|with_reducible rfl)
  (try simp only[aC,ZA,ZB,ZC]);refine aG (rs:=[19,20]) (by kernel_rfl) (by simp) ?_;refine AllReadyH.cons (o:=⟨some 7,.alloc 24,0, "scene.go:146",#[],none⟩) rfl (λKQ hK=>?_) (AllReadyH.cons (o:=⟨some 8,.alloc 67,0, "scene.go:146",#[],none⟩) rfl (λKQ hK=>?_) AllReadyH.nil);go_simp;obtain⟨b7,ar⟩:∃ b,b=v1.heap.size:=⟨_,rfl⟩;obtain⟨v2,ac⟩:∃ v,v=v1.alloc (cW #[F none 0 0] 24):=⟨_,rfl⟩;rw[<-ac,<-ar];have aa:aD v1.heap.size v1 v2:=by rw[ac];exact Zh _ _
  have h7:v2.heap[b7]? = some (cW [F none 0 0].toArray 24 (0,0)):=by rw[ac,ar];exact aR _ _
  have l7:w.heap.size<=b7:=by have:=Q.size;omega
  have ah:=ah.on cl (by omega) (Gr.of aa);have o7:b7<lo\/ag<=b7:=.inr (by omega);have ap:=aS ap aa.size;have Q:=Q.on aa;clear ac aa ar;refine hK.out _ _ (KS _ Q) (λab=>?_);clear hK KQ z;have z:=ab;clear ab;(try simp only[aC,ZA,ZB,ZC]);refine aG (rs:=[20]) (by kernel_rfl) (by simp) ?_;refine AllReadyH.cons (o:=⟨some 8,.alloc 67,0, "scene.go:146",#[],none⟩) rfl (λKQ hK=>?_) AllReadyH.nil;go_simp;obtain⟨b8,au⟩:∃ b,b=v2.heap.size:=⟨_,rfl⟩;obtain⟨v3,ac⟩:∃ v,v=v2.alloc (cW #[F none 0 0,F none 0 0,F none 0 0,E J 0] 67):=⟨_,rfl⟩;rw[<-ac,<-au];have aa:aD v2.heap.size v2 v3:=by rw[ac];exact Zh _ _
  have h8:v3.heap[b8]? = some (cW [F none 0 0,F none 0 0,F none 0 0,E J 0].toArray 67 (0,0)):=by rw[ac,au];exact aR _ _
  have l8:w.heap.size<=b8:=by have:=Q.size;omega
  have h7:=ZE aa h7;have ah:=ah.on cl (by omega) (Gr.of aa);have o8:b8<lo\/ag<=b8:=.inr (by omega);have ap:=aS ap aa.size;have Q:=Q.on aa;clear ac aa au;refine hK.out _ _ (KS _ Q) (λab=>?_);clear hK KQ z;have z:=ab;clear ab;(try simp only[aC,ZA,ZB,ZC]);obtain⟨vz,cf⟩:∃ gn,gn=v3:=⟨_,rfl⟩;subst cf;rotate_left;go_simp;obtain⟨b8,au⟩:∃ b,b=v1.heap.size:=⟨_,rfl⟩;obtain⟨v2,ac⟩:∃ v,v=v1.alloc (cW #[F none 0 0,F none 0 0,F none 0 0,E J 0] 67):=⟨_,rfl⟩;rw[<-ac,<-au];have aa:aD v1.heap.size v1 v2:=by rw[ac];exact Zh _ _
  have h8:v2.heap[b8]? = some (cW [F none 0 0,F none 0 0,F none 0 0,E J 0].toArray 67 (0,0)):=by rw[ac,au];exact aR _ _
  have l8:w.heap.size<=b8:=by have:=Q.size;omega
  have ah:=ah.on cl (by omega) (Gr.of aa);have o8:b8<lo\/ag<=b8:=.inr (by omega);have ap:=aS ap aa.size;have Q:=Q.on aa;clear ac aa au;refine hK.out _ _ (KS _ Q) (λab=>?_);clear hK KQ z;have z:=ab;clear ab;(try simp only[aC,ZA,ZB,ZC]);refine aG (rs:=[19]) (by kernel_rfl) (by simp) ?_;refine AllReadyH.cons (o:=⟨some 7,.alloc 24,0, "scene.go:146",#[],none⟩) rfl (λKQ hK=>?_) AllReadyH.nil;go_simp;obtain⟨b7,ar⟩:∃ b,b=v2.heap.size:=⟨_,rfl⟩;obtain⟨v3,ac⟩:∃ v,v=v2.alloc (cW #[F none 0 0] 24):=⟨_,rfl⟩;rw[<-ac,<-ar];have aa:aD v2.heap.size v2 v3:=by rw[ac];exact Zh _ _
  have h7:v3.heap[b7]? = some (cW [F none 0 0].toArray 24 (0,0)):=by rw[ac,ar];exact aR _ _
  have l7:w.heap.size<=b7:=by have:=Q.size;omega
  have h8:=ZE aa h8;have ah:=ah.on cl (by omega) (Gr.of aa);have o7:b7<lo\/ag<=b7:=.inr (by omega);have ap:=aS ap aa.size;have Q:=Q.on aa;clear ac aa ar;refine hK.out _ _ (KS _ Q) (λab=>?_);clear hK KQ z;have z:=ab;clear ab;(try simp only[aC,ZA,ZB,ZC]);obtain⟨vz,cf⟩:∃ gn,gn=v3:=⟨_,rfl⟩;subst cf;rotate_left;go_simp;obtain⟨b7,ar⟩:∃ b,b=v0.heap.size:=⟨_,rfl⟩;obtain⟨v1,ac⟩:∃ v,v=v0.alloc (cW #[F none 0 0] 24):=⟨_,rfl⟩;rw[<-ac,<-ar];have aa:aD v0.heap.size v0 v1:=by rw[ac];exact Zh _ _
  have h7:v1.heap[b7]? = some (cW [F none 0 0].toArray 24 (0,0)):=by rw[ac,ar];exact aR _ _
  have l7:w.heap.size<=b7:=by have:=Q.size;omega
  have hb:=Zf hb aa;have Q:=Q.on aa;clear ac aa ar;refine hK.out _ _ (KS _ Q) (λab=>?_);clear hK KQ z;have z:=ab;clear ab;(try simp only[aC,ZA,ZB,ZC]);refine aG (rs:=[14,20]) (by kernel_rfl) (by simp) ?_;refine AllReadyH.cons (o:=⟨some 25,.call { callee:=aP (.tmp 11),args:=#[.tmp 16,.tmp 24],argTypes:=#[24,67] },82, "scene.go:146",#[⟨0,.data⟩,⟨5,.data⟩,⟨13,.data⟩],none⟩) rfl (λKQ hK=>?_) (AllReadyH.cons (o:=⟨some 8,.alloc 67,0, "scene.go:146",#[],none⟩) rfl (λKQ hK=>?_) AllReadyH.nil);have cc:=CD v1 hb;refine Zm (by kernel_rfl) f _ (Qg (.tmp 11) #[.tmp 16,.tmp 24] #[24,67] rfl (by kernel_rfl) (by kernel_rfl) eg) cc ?_;clear cc;rintro e v2 ⟨⟨k1,ay,ax,n1,be,bd,b1,bb,az,p1,bh,bg,rfl,hF,s1,s2,s3,s4⟩,al,hR⟩;refine⟨_,rfl,?_⟩;have g7:=aA h7;have h7:=al.heap h7 (λe=>by omega);obtain⟨lo,an⟩:∃ n,n=v1.heap.size:=⟨_,rfl⟩;obtain⟨ag,am⟩:∃ n,n=v2.heap.size:=⟨_,rfl⟩;rw[<-an,<-am] at hR;have ct:w.heap.size<=lo:=by rw[an];exact hb.size
  have cq:lo<=ag:=by rw[an,am];exact al.size
  have ap:ag<=v2.heap.size:=cN am;have ah:PostC w0 w D R lo ag k1 ay ax n1 be bd b1 bb az p1 bh bg v2:=⟨(Gr.of hb).far al (λq e=>.inr e),hR,λW2 g2=>hF W2 ((Gr.refl v2 (λq=>q<v1.heap.size)).far g2 (λq e=>by omega)),s1,s2,s3,s4⟩;clear hF s1 s2 s3 s4 hR al;have Q:Gr w v2 (λq=>w0.heap.size<=q):=ah.1.mono (λq _ e=>e.1);have o7:b7<lo\/ag<=b7:=.inl (by omega);clear an am;refine hK.out _ _ (KS _ Q) (λab=>?_);clear hK KQ z;have z:=ab;clear ab;(try simp only[aC,ZA,ZB,ZC]);refine tk 15 ⟨some 10,.move (.tmp 25),82, "scene.go:146",#[⟨14,.data⟩],none⟩ ?_ rfl ?_ z ?_;rotate_left
  ·(intro U ad;go_simp;first|done|with_reducible rfl)
  (try simp only[aC,ZA,ZB,ZC]);refine tk 16 ⟨some 26,.extract (.tmp 10) 0,24, "scene.go:146",#[⟨15,.data⟩],none⟩ ?_ rfl ?_ z ?_;rotate_left
  ·(intro U ad;go_simp;first|done|with_reducible rfl)
  (try simp only[aC,ZA,ZB,ZC]);refine tk 17 ⟨some 27,.extract (.tmp 10) 1,67, "scene.go:146",#[⟨15,.data⟩,⟨21,.gcOnly .lateStores⟩],none⟩ ?_ rfl ?_ z ?_;rotate_left
  ·(intro U ad;go_simp;first|done|with_reducible rfl)
  (try simp only[aC,ZA,ZB,ZC]);refine tk 18 ⟨some 28,.extract (.tmp 10) 2,30, "scene.go:146",#[⟨15,.data⟩,⟨22,.gcOnly .lateStores⟩],none⟩ ?_ rfl ?_ z ?_;rotate_left
  ·(intro U ad;go_simp;first|done|with_reducible rfl)
  (try simp only[aC,ZA,ZB,ZC]);refine aG (rs:=[20]) (by kernel_rfl) (by simp) ?_;refine AllReadyH.cons (o:=⟨some 8,.alloc 67,0, "scene.go:146",#[],none⟩) rfl (λKQ hK=>?_) AllReadyH.nil;go_simp;obtain⟨b8,au⟩:∃ b,b=v2.heap.size:=⟨_,rfl⟩;obtain⟨v3,ac⟩:∃ v,v=v2.alloc (cW #[F none 0 0,F none 0 0,F none 0 0,E J 0] 67):=⟨_,rfl⟩;rw[<-ac,<-au];have aa:aD v2.heap.size v2 v3:=by rw[ac];exact Zh _ _
  have h8:v3.heap[b8]? = some (cW [F none 0 0,F none 0 0,F none 0 0,E J 0].toArray 67 (0,0)):=by rw[ac,au];exact aR _ _
  have l8:w.heap.size<=b8:=by have:=Q.size;omega
  have h7:=ZE aa h7;have ah:=ah.on cl (by omega) (Gr.of aa);have o8:b8<lo\/ag<=b8:=.inr (by omega);have ap:=aS ap aa.size;have Q:=Q.on aa;clear ac aa au;refine hK.out _ _ (KS _ Q) (λab=>?_);clear hK KQ z;have z:=ab;clear ab;(try simp only[aC,ZA,ZB,ZC]);obtain⟨vz,cf⟩:∃ gn,gn=v3:=⟨_,rfl⟩;subst cf;rotate_left;go_simp;obtain⟨b8,au⟩:∃ b,b=v1.heap.size:=⟨_,rfl⟩;obtain⟨v2,ac⟩:∃ v,v=v1.alloc (cW #[F none 0 0,F none 0 0,F none 0 0,E J 0] 67):=⟨_,rfl⟩;rw[<-ac,<-au];have aa:aD v1.heap.size v1 v2:=by rw[ac];exact Zh _ _
  have h8:v2.heap[b8]? = some (cW [F none 0 0,F none 0 0,F none 0 0,E J 0].toArray 67 (0,0)):=by rw[ac,au];exact aR _ _
  have l8:w.heap.size<=b8:=by have:=Q.size;omega
  have h7:=ZE aa h7;have hb:=Zf hb aa;have Q:=Q.on aa;clear ac aa au;refine hK.out _ _ (KS _ Q) (λab=>?_);clear hK KQ z;have z:=ab;clear ab;(try simp only[aC,ZA,ZB,ZC]);refine aG (rs:=[14]) (by kernel_rfl) (by simp) ?_;refine AllReadyH.cons (o:=⟨some 25,.call { callee:=aP (.tmp 11),args:=#[.tmp 16,.tmp 24],argTypes:=#[24,67] },82, "scene.go:146",#[⟨0,.data⟩,⟨5,.data⟩,⟨13,.data⟩],none⟩) rfl (λKQ hK=>?_) AllReadyH.nil;have cc:=CD v2 hb;refine Zm (by kernel_rfl) f _ (Qg (.tmp 11) #[.tmp 16,.tmp 24] #[24,67] rfl (by kernel_rfl) (by kernel_rfl) eg) cc ?_;clear cc;rintro e v3 ⟨⟨k1,ay,ax,n1,be,bd,b1,bb,az,p1,bh,bg,rfl,hF,s1,s2,s3,s4⟩,al,hR⟩;refine⟨_,rfl,?_⟩;have g7:=aA h7;have h7:=al.heap h7 (λe=>by omega);have g8:=aA h8;have h8:=al.heap h8 (λe=>by omega);obtain⟨lo,an⟩:∃ n,n=v2.heap.size:=⟨_,rfl⟩;obtain⟨ag,am⟩:∃ n,n=v3.heap.size:=⟨_,rfl⟩;rw[<-an,<-am] at hR;have ct:w.heap.size<=lo:=by rw[an];exact hb.size
  have cq:lo<=ag:=by rw[an,am];exact al.size
  have ap:ag<=v3.heap.size:=cN am;have ah:PostC w0 w D R lo ag k1 ay ax n1 be bd b1 bb az p1 bh bg v3:=⟨(Gr.of hb).far al (λq e=>.inr e),hR,λW2 g2=>hF W2 ((Gr.refl v3 (λq=>q<v2.heap.size)).far g2 (λq e=>by omega)),s1,s2,s3,s4⟩;clear hF s1 s2 s3 s4 hR al;have Q:Gr w v3 (λq=>w0.heap.size<=q):=ah.1.mono (λq _ e=>e.1);have o7:b7<lo\/ag<=b7:=.inl (by omega);have o8:b8<lo\/ag<=b8:=.inl (by omega);clear an am;refine hK.out _ _ (KS _ Q) (λab=>?_);clear hK KQ z;have z:=ab;clear ab;(try simp only[aC,ZA,ZB,ZC]);refine tk 15 ⟨some 10,.move (.tmp 25),82, "scene.go:146",#[⟨14,.data⟩],none⟩ ?_ rfl ?_ z ?_;rotate_left
  ·(intro U ad;go_simp;first|done|with_reducible rfl)
  (try simp only[aC,ZA,ZB,ZC]);refine tk 16 ⟨some 26,.extract (.tmp 10) 0,24, "scene.go:146",#[⟨15,.data⟩],none⟩ ?_ rfl ?_ z ?_;rotate_left
  ·(intro U ad;go_simp;first|done|with_reducible rfl)
  (try simp only[aC,ZA,ZB,ZC]);refine tk 17 ⟨some 27,.extract (.tmp 10) 1,67, "scene.go:146",#[⟨15,.data⟩,⟨21,.gcOnly .lateStores⟩],none⟩ ?_ rfl ?_ z ?_;rotate_left
  ·(intro U ad;go_simp;first|done|with_reducible rfl)
  (try simp only[aC,ZA,ZB,ZC]);refine tk 18 ⟨some 28,.extract (.tmp 10) 2,30, "scene.go:146",#[⟨15,.data⟩,⟨22,.gcOnly .lateStores⟩],none⟩ ?_ rfl ?_ z ?_;rotate_left
  ·(intro U ad;go_simp;first|done|with_reducible rfl)
  (try simp only[aC,ZA,ZB,ZC]);obtain⟨vz,cf⟩:∃ gn,gn=v3:=⟨_,rfl⟩;subst cf;rotate_left;go_simp;obtain⟨b8,au⟩:∃ b,b=v0.heap.size:=⟨_,rfl⟩;obtain⟨v1,ac⟩:∃ v,v=v0.alloc (cW #[F none 0 0,F none 0 0,F none 0 0,E J 0] 67):=⟨_,rfl⟩;rw[<-ac,<-au];have aa:aD v0.heap.size v0 v1:=by rw[ac];exact Zh _ _
  have h8:v1.heap[b8]? = some (cW [F none 0 0,F none 0 0,F none 0 0,E J 0].toArray 67 (0,0)):=by rw[ac,au];exact aR _ _
  have l8:w.heap.size<=b8:=by have:=Q.size;omega
  have hb:=Zf hb aa;have Q:=Q.on aa;clear ac aa au;refine hK.out _ _ (KS _ Q) (λab=>?_);clear hK KQ z;have z:=ab;clear ab;(try simp only[aC,ZA,ZB,ZC]);refine aG (rs:=[14,19]) (by kernel_rfl) (by simp) ?_;refine AllReadyH.cons (o:=⟨some 25,.call { callee:=aP (.tmp 11),args:=#[.tmp 16,.tmp 24],argTypes:=#[24,67] },82, "scene.go:146",#[⟨0,.data⟩,⟨5,.data⟩,⟨13,.data⟩],none⟩) rfl (λKQ hK=>?_) (AllReadyH.cons (o:=⟨some 7,.alloc 24,0, "scene.go:146",#[],none⟩) rfl (λKQ hK=>?_) AllReadyH.nil);have cc:=CD v1 hb;refine Zm (by kernel_rfl) f _ (Qg (.tmp 11) #[.tmp 16,.tmp 24] #[24,67] rfl (by kernel_rfl) (by kernel_rfl) eg) cc ?_;clear cc;rintro e v2 ⟨⟨k1,ay,ax,n1,be,bd,b1,bb,az,p1,bh,bg,rfl,hF,s1,s2,s3,s4⟩,al,hR⟩;refine⟨_,rfl,?_⟩;have g8:=aA h8;have h8:=al.heap h8 (λe=>by omega);obtain⟨lo,an⟩:∃ n,n=v1.heap.size:=⟨_,rfl⟩;obtain⟨ag,am⟩:∃ n,n=v2.heap.size:=⟨_,rfl⟩;rw[<-an,<-am] at hR;have ct:w.heap.size<=lo:=by rw[an];exact hb.size
  have cq:lo<=ag:=by rw[an,am];exact al.size
  have ap:ag<=v2.heap.size:=cN am;have ah:PostC w0 w D R lo ag k1 ay ax n1 be bd b1 bb az p1 bh bg v2:=⟨(Gr.of hb).far al (λq e=>.inr e),hR,λW2 g2=>hF W2 ((Gr.refl v2 (λq=>q<v1.heap.size)).far g2 (λq e=>by omega)),s1,s2,s3,s4⟩;clear hF s1 s2 s3 s4 hR al;have Q:Gr w v2 (λq=>w0.heap.size<=q):=ah.1.mono (λq _ e=>e.1);have o8:b8<lo\/ag<=b8:=.inl (by omega);clear an am;refine hK.out _ _ (KS _ Q) (λab=>?_);clear hK KQ z;have z:=ab;clear ab;(try simp only[aC,ZA,ZB,ZC]);refine tk 15 ⟨some 10,.move (.tmp 25),82, "scene.go:146",#[⟨14,.data⟩],none⟩ ?_ rfl ?_ z ?_;rotate_left
  ·(intro U ad;go_simp;first|done|with_reducible rfl)
  (try simp only[aC,ZA,ZB,ZC]);refine tk 16 ⟨some 26,.extract (.tmp 10) 0,24, "scene.go:146",#[⟨15,.data⟩],none⟩ ?_ rfl ?_ z ?_;rotate_left
  ·(intro U ad;go_simp;first|done|with_reducible rfl)
  (try simp only[aC,ZA,ZB,ZC]);refine tk 17 ⟨some 27,.extract (.tmp 10) 1,67, "scene.go:146",#[⟨15,.data⟩,⟨21,.gcOnly .lateStores⟩],none⟩ ?_ rfl ?_ z ?_;rotate_left
  ·(intro U ad;go_simp;first|done|with_reducible rfl)
  (try simp only[aC,ZA,ZB,ZC]);refine tk 18 ⟨some 28,.extract (.tmp 10) 2,30, "scene.go:146",#[⟨15,.data⟩,⟨22,.gcOnly .lateStores⟩],none⟩ ?_ rfl ?_ z ?_;rotate_left
  ·(intro U ad;go_simp;first|done|with_reducible rfl)
  (try simp only[aC,ZA,ZB,ZC]);refine aG (rs:=[19]) (by kernel_rfl) (by simp) ?_;refine AllReadyH.cons (o:=⟨some 7,.alloc 24,0, "scene.go:146",#[],none⟩) rfl (λKQ hK=>?_) AllReadyH.nil;go_simp;obtain⟨b7,ar⟩:∃ b,b=v2.heap.size:=⟨_,rfl⟩;obtain⟨v3,ac⟩:∃ v,v=v2.alloc (cW #[F none 0 0] 24):=⟨_,rfl⟩;rw[<-ac,<-ar];have aa:aD v2.heap.size v2 v3:=by rw[ac];exact Zh _ _
  have h7:v3.heap[b7]? = some (cW [F none 0 0].toArray 24 (0,0)):=by rw[ac,ar];exact aR _ _
  have l7:w.heap.size<=b7:=by have:=Q.size;omega
  have h8:=ZE aa h8;have ah:=ah.on cl (by omega) (Gr.of aa);have o7:b7<lo\/ag<=b7:=.inr (by omega);have ap:=aS ap aa.size;have Q:=Q.on aa;clear ac aa ar;refine hK.out _ _ (KS _ Q) (λab=>?_);clear hK KQ z;have z:=ab;clear ab;(try simp only[aC,ZA,ZB,ZC]);obtain⟨vz,cf⟩:∃ gn,gn=v3:=⟨_,rfl⟩;subst cf;rotate_left;go_simp;obtain⟨b7,ar⟩:∃ b,b=v1.heap.size:=⟨_,rfl⟩;obtain⟨v2,ac⟩:∃ v,v=v1.alloc (cW #[F none 0 0] 24):=⟨_,rfl⟩;rw[<-ac,<-ar];have aa:aD v1.heap.size v1 v2:=by rw[ac];exact Zh _ _
  have h7:v2.heap[b7]? = some (cW [F none 0 0].toArray 24 (0,0)):=by rw[ac,ar];exact aR _ _
  have l7:w.heap.size<=b7:=by have:=Q.size;omega
  have h8:=ZE aa h8;have hb:=Zf hb aa;have Q:=Q.on aa;clear ac aa ar;refine hK.out _ _ (KS _ Q) (λab=>?_);clear hK KQ z;have z:=ab;clear ab;(try simp only[aC,ZA,ZB,ZC]);refine aG (rs:=[14]) (by kernel_rfl) (by simp) ?_;refine AllReadyH.cons (o:=⟨some 25,.call { callee:=aP (.tmp 11),args:=#[.tmp 16,.tmp 24],argTypes:=#[24,67] },82, "scene.go:146",#[⟨0,.data⟩,⟨5,.data⟩,⟨13,.data⟩],none⟩) rfl (λKQ hK=>?_) AllReadyH.nil;have cc:=CD v2 hb;refine Zm (by kernel_rfl) f _ (Qg (.tmp 11) #[.tmp 16,.tmp 24] #[24,67] rfl (by kernel_rfl) (by kernel_rfl) eg) cc ?_;clear cc;rintro e v3 ⟨⟨k1,ay,ax,n1,be,bd,b1,bb,az,p1,bh,bg,rfl,hF,s1,s2,s3,s4⟩,al,hR⟩;refine⟨_,rfl,?_⟩;have g7:=aA h7;have h7:=al.heap h7 (λe=>by omega);have g8:=aA h8;have h8:=al.heap h8 (λe=>by omega);obtain⟨lo,an⟩:∃ n,n=v2.heap.size:=⟨_,rfl⟩;obtain⟨ag,am⟩:∃ n,n=v3.heap.size:=⟨_,rfl⟩;rw[<-an,<-am] at hR;have ct:w.heap.size<=lo:=by rw[an];exact hb.size
  have cq:lo<=ag:=by rw[an,am];exact al.size
  have ap:ag<=v3.heap.size:=cN am;have ah:PostC w0 w D R lo ag k1 ay ax n1 be bd b1 bb az p1 bh bg v3:=⟨(Gr.of hb).far al (λq e=>.inr e),hR,λW2 g2=>hF W2 ((Gr.refl v3 (λq=>q<v2.heap.size)).far g2 (λq e=>by omega)),s1,s2,s3,s4⟩;clear hF s1 s2 s3 s4 hR al;have Q:Gr w v3 (λq=>w0.heap.size<=q):=ah.1.mono (λq _ e=>e.1);have o7:b7<lo\/ag<=b7:=.inl (by omega);have o8:b8<lo\/ag<=b8:=.inl (by omega);clear an am;refine hK.out _ _ (KS _ Q) (λab=>?_);clear hK KQ z;have z:=ab;clear ab;(try simp only[aC,ZA,ZB,ZC]);refine tk 15 ⟨some 10,.move (.tmp 25),82, "scene.go:146",#[⟨14,.data⟩],none⟩ ?_ rfl ?_ z ?_;rotate_left
  ·(intro U ad;go_simp;first|done|with_reducible rfl)
  (try simp only[aC,ZA,ZB,ZC]);refine tk 16 ⟨some 26,.extract (.tmp 10) 0,24, "scene.go:146",#[⟨15,.data⟩],none⟩ ?_ rfl ?_ z ?_;rotate_left
  ·(intro U ad;go_simp;first|done|with_reducible rfl)
  (try simp only[aC,ZA,ZB,ZC]);refine tk 17 ⟨some 27,.extract (.tmp 10) 1,67, "scene.go:146",#[⟨15,.data⟩,⟨21,.gcOnly .lateStores⟩],none⟩ ?_ rfl ?_ z ?_;rotate_left
  ·(intro U ad;go_simp;first|done|with_reducible rfl)
  (try simp only[aC,ZA,ZB,ZC]);refine tk 18 ⟨some 28,.extract (.tmp 10) 2,30, "scene.go:146",#[⟨15,.data⟩,⟨22,.gcOnly .lateStores⟩],none⟩ ?_ rfl ?_ z ?_;rotate_left
  ·(intro U ad;go_simp;first|done|with_reducible rfl)
  (try simp only[aC,ZA,ZB,ZC]);obtain⟨vz,cf⟩:∃ gn,gn=v3:=⟨_,rfl⟩;subst cf;rotate_left
  all_goals
   have en:b7≠b8:=λe=>by rw[e,h8] at h7;injection h7 with h7;injection h7 with h7 h9;exact absurd h9 (by decide)
   have y0:=Zb h7 0 _ rfl;have f0:=Zg h7 0;have yl:=aA h7;refine aG (rs:=[21]) (by kernel_rfl) (by simp) ?_;refine AllReadyH.cons (o:=⟨none,.store 24 (.tmp 7) (.tmp 26),0, "scene.go:146",#[⟨19,.data⟩,⟨16,.data⟩,⟨14,.chain⟩,⟨0,.phase⟩,⟨1,.phase⟩,⟨2,.phase⟩,⟨3,.phase⟩,⟨4,.phase⟩,⟨5,.phase⟩,⟨6,.phase⟩,⟨7,.phase⟩,⟨8,.phase⟩,⟨9,.phase⟩,⟨10,.phase⟩,⟨11,.phase⟩,⟨12,.phase⟩,⟨13,.phase⟩,⟨14,.phase⟩,⟨15,.phase⟩,⟨16,.phase⟩,⟨17,.textOnly .lateStores⟩,⟨18,.textOnly .lateStores⟩,⟨19,.phase⟩,⟨20,.phase⟩],none⟩) rfl (λKQ hK=>?_) AllReadyH.nil;go_simp;obtain⟨va,dp⟩:∃ v,v=vz.setCell ⟨b7,0,none⟩ (F k1 ay ax):=⟨_,rfl⟩;rw[<-dp];have ga:Gr vz va (λq=>q=b7):=(by rw[dp];exact (Gr.refl vz (λq=>q=b7)).one b7 0 (.inl rfl) _);have es:va.heap[b7]? = some (cW [F k1 ay ax].toArray 24 (0,0)):=(by rw[dp];exact Tr.set_cells h7 0 _);have cj:=ga.heap h8 (λe=>en (Eq.symm e));have ek:Gr w va (λq=>w0.heap.size<=q):=Q.trans (ga.mono (λq _ e=>by have e:q=b7:=e;omega));have z0:=Zb cj 0 _ rfl;have z1:=Zb cj 1 _ rfl;have z2:=Zb cj 2 _ rfl;have z3:=Zb cj 3 _ rfl;have x0:=Zg cj 0;have x1:=Zg cj 1;have x2:=Zg cj 2;have x3:=Zg cj 3;have zl:=aA cj;clear dp;refine hK.out _ _ (KS _ ek) (λab=>?_);clear hK KQ z;have z:=ab;clear ab;(try simp only[aC]);refine aG (rs:=[22]) (by kernel_rfl) (by simp) ?_
   refine AllReadyH.cons (o:=⟨none,.store 67 (.tmp 8) (.tmp 27),0, "scene.go:146",#[⟨20,.data⟩,⟨17,.data⟩,⟨21,.chain⟩,⟨0,.phase⟩,⟨1,.phase⟩,⟨2,.phase⟩,⟨3,.phase⟩,⟨4,.phase⟩,⟨5,.phase⟩,⟨6,.phase⟩,⟨7,.phase⟩,⟨8,.phase⟩,⟨9,.phase⟩,⟨10,.phase⟩,⟨11,.phase⟩,⟨12,.phase⟩,⟨13,.phase⟩,⟨14,.phase⟩,⟨15,.phase⟩,⟨16,.phase⟩,⟨17,.phase⟩,⟨18,.textOnly .lateStores⟩,⟨19,.phase⟩,⟨20,.phase⟩,⟨21,.phase⟩],none⟩) rfl (λKQ hK=>?_) AllReadyH.nil;go_simp;have gb:Gr va ((((va.setCell ⟨b8,0,none⟩ (F n1 be bd)).setCell ⟨b8,1,none⟩ (F b1 bb az)).setCell ⟨b8,2,none⟩ (F p1 bh bg)).setCell ⟨b8,3,none⟩ (E J D.tip)) (λq=>q=b8):=(Gr.refl va (λq=>q=b8)).four b8 (.inl rfl) _ _ _ _;refine hK.out _ _ (KS _ (ek.trans (gb.mono (λq _ e=>by have e:q=b8:=e;omega)))) (λab=>?_);clear hK KQ z;have z:=ab;clear ab;(try simp only[aC]);refine tk 23 ⟨some 9,.assign (.tmp 28),30, "scene.go:146",#[⟨18,.data⟩,⟨22,.chain⟩,⟨0,.phase⟩,⟨1,.phase⟩,⟨2,.phase⟩,⟨3,.phase⟩,⟨4,.phase⟩,⟨5,.phase⟩,⟨6,.phase⟩,⟨7,.phase⟩,⟨8,.phase⟩,⟨9,.phase⟩,⟨10,.phase⟩,⟨11,.phase⟩,⟨12,.phase⟩,⟨13,.phase⟩,⟨14,.phase⟩,⟨15,.phase⟩,⟨16,.phase⟩,⟨17,.phase⟩,⟨18,.phase⟩,⟨19,.phase⟩,⟨20,.phase⟩,⟨21,.phase⟩,⟨22,.phase⟩],none⟩ ?_ rfl ?_ z ?_;rotate_left
   ·(intro U ad;go_simp;first|done|with_reducible rfl)
   (try simp only[aC,ZA,ZB,ZC]);refine wpAnyH_done (by kernel_rfl) ?_ _;clear z;go_wp2_with fail;go_meet
   case rel=>
    refine⟨rfl,b7,b8,k1,ay,ax,n1,be,bd,b1,bb,az,p1,bh,bg,rfl,rfl,gb.heap es en,Tr.set_cells (Tr.set_cells (Tr.set_cells (Tr.set_cells cj 0 _) 1 _) 2 _) 3 _,l7,l8,lo,ag,ct,cq,?_,?_⟩
    ·exact aS ap (aS ga.size gb.size)
    have er:=(ga.mono (T:=λq=>q=b7\/q=b8) (λq _ e=>.inl e)).trans (gb.mono (λq _ e=>.inr e));exact ah.on cl (by omega) (er.mono (λq _ e=>by rcases e with e|e <;> omega))
 case rest=>
  obtain⟨rfl,HC⟩:=hcut;obtain⟨b7,b8,k1,ay,ax,n1,be,bd,b1,bb,az,p1,bh,bg,rfl,rfl,h7,h8,l7,l8,lo,ag,ct,cq,ap,ah⟩:=Za HC;have cg:aD w0.heap.size w0 wc:=ah.1.below H0 H0.size (λq e=>e.1);have bs:=ZE cg ep;have di:=Zd (eq.later cg);have fb:=Zd bs;have fc:=Zd ah;have fa:=Zd cg
  have ed:Hid (∀ V,V.cell? ⟨s,2,none⟩=some (F ma W.m.length mc)->∀ q,Xw V s q->q<w0.heap.size):=λV hV q ⟨v,h1,h2⟩=>by
   rw[hV] at h1;injection h1 with h1;exact ec q (h1 ▸ h2)
  clear HC CD KS;by_cases hx:x=0;rotate_left
  ·have gx:(x == 0)=false:=(by simp[hx]);have dv:Hid (ChW Z s W i x D R w0 wc):=⟨by rw[if_neg hx];exact⟨_,_,_,_,_,_,_,HA.later cg⟩,Gr.of cg,⟨lo,ag,ah.2.1,by omega,ap⟩,ed wc (Zb bs 2 _ rfl)⟩;clear ah h7 h8 cg bs;go_wp2;go_ret;exact⟨rfl,Za dv⟩
  subst hx;have c1:=Zb bs 1 _ rfl;have gp:=aA bs;have c7:=Zb h7 0 _ rfl;have fs:=aA h7;have e0:=Zb h8 0 _ rfl;have e1:=Zb h8 1 _ rfl;have e2:=Zb h8 2 _ rfl;have e3:=Zb h8 3 _ rfl;have ft:=aA h8;have al:g<wc.heap.size:=by have:=cg.size;omega
  have dc:=Zix (i:=i) (H:=w.heap.size) (HA.later (Zf cg (Zi wc))) hi (λW2 g2=>ah.2.2.1 W2 ((Gr.of (Zi wc)).trans (g2.mono (λq _ e=>by omega)))) ⟨by omega,by omega,λq e=>by rcases e with e|e;have:=(HA.zs q e).1;omega;have:=ec q e;omega⟩ ah.2.2.2.1 ah.2.2.2.2.1 ah.2.2.2.2.2.1 ah.2.2.2.2.2.2
  have dv:Hid (ChW Z s W i 0 D R w0 (Tr.setsW (wc.drew.setCell ⟨s,0,none⟩ (F k1 ay ax)) g (i*4) [F n1 be bd,F b1 bb az,F p1 bh bg,E J D.tip])):=by
   refine⟨by rw[if_pos rfl];exact dc.1,(Gr.of (Zf cg (Zi wc))).trans (dc.2.mono (λq _ e=>?_)),⟨lo,ag,cl _ _ _ _ ah.2.1 ((Gr.of (Zi wc)).trans (dc.2.mono (λq _ e=>.inl (by rcases e with e|e <;> omega)))),by omega,aS ap dc.2.size⟩,ed _ ?_⟩
   ·intro gn
    rcases e with e|e
    ·exact (HA.zs q gn).2.1 e
    ·exact (HA.zs q gn).2.2.1 (by rw[e];rfl)
   ·have:=(Tr.setsW_gr [F n1 be bd,F b1 bb az,F p1 bh bg,E J D.tip] (wc.drew.setCell ⟨s,0,none⟩ (F k1 ay ax)) (i*4) (Gr.refl (wc.drew.setCell ⟨s,0,none⟩ (F k1 ay ax)) (λq=>q=g)) (.inl rfl)).heap (Tr.set_cells (Tr.drew_heap bs) 0 _) (λe=>ev (Eq.symm e));exact Zb this 2 _ rfl
  have fy:=Zb bs 0 _ rfl;have fz:=Zg bs 0;have fu:g≠b7:=by omega
  have fv:g≠b8:=by omega
  have fw:s≠b7:=by omega
  have fx:s≠b8:=by omega
  have RR:Hid (∀ j,wc.frozen? ⟨g,j,none⟩=false):=λj=>di.rn.frozenAt j;have cx:=λj (hj:j<4)=>(World.ownsRow.cellAt di.rn (i*4+j) (by have:(i+1)*4<=W.n.length*4:=Nat.mul_le_mul_right _ hi;omega)).trans (Tr.wid_at di.now.2.1.wid i hk j hj);obtain⟨u0,u1,u2,u3,eu⟩:=Tr.len4 (di.now.2.1.wid _ (List.getElem_mem hk));rw[eu] at cx;have v0:wc.cell? ⟨g,i*4,none⟩=some u0:=cx 0 (by decide);have v1:wc.cell? ⟨g,i*4+1,none⟩=some u1:=cx 1 (by decide);have v2:wc.cell? ⟨g,i*4+2,none⟩=some u2:=cx 2 (by decide);have v3:wc.cell? ⟨g,i*4+3,none⟩=some u3:=cx 3 (by decide);have r0:=RR (i*4);have r1:=RR (i*4+1);have r2:=RR (i*4+2);have r3:=RR (i*4+3);clear dc ah h7 h8 cg bs eu cx;go_wp2_with fail
  go_region
  all_goals
   go_wp2;go_ret;exact⟨rfl,Za dv⟩
