import Derived.Test.YtmomfkikogbdeaaGreatDoorH
import Derived.Test.YtmomfkikogbdeaaGreatDoorG27
open Go.Proofs.Tryz
open Go renaming lt_of_block->aA,bodyPost_ret->bB,maxLen->cK,rounds_succ->bK
open Go.Ending renaming returned->dF
open Go.Exit renaming inBlock->aV
open Go.IntKind renaming i64->J
open Go.Obj renaming cells->dE
open Go.Proofs.Tryz renaming prog->aB,underlying3->aP
open Go.Value renaming int->E,slice->F,tuple->dG,pointer->dH,bool->dI
open List renaming drop_eq_getElem_cons->aJ,take_succ_eq_append_getElem->bA,take_of_length_le->aS,length_eq_zero_iff->aL
open Nat renaming le_refl->aF,zero_le->aI,lt_of_lt_of_le->aD
set_option maxHeartbeats 6400000
set_option maxRecDepth 10000
namespace Go.Proofs.YtmomfkikogbdeaaGreatDoor
open Go.RowKit
def D0(lo hi:Nat):Nat->Prop:=λq=>(lo<=q/\q<hi)\/(Value.slice none 0 0).ownBlock=some q
theorem D0.ge{lo hi q:Nat}(h:D0 lo hi q):lo<=q/\q<hi:=by
 rcases h with h|h
 ·exact h
 ·cases h
def DV(lo hi:Nat)(v:Value):Nat->Prop:=λq=>(lo<=q/\q<hi)\/v.ownBlock=some q
theorem DV.dirty{lo hi b p:Nat}{w:World}{v K L}{N0:Nat}(h:St b p w v K L)(hh:hi<=N0)(hp:N0<=p)(q:Nat)(hq:DV lo hi v q):q≠p/\q<w.heap.size/\(D0 lo hi q\/N0<=q):=by
 have:=h.pl
 rcases hq with e|e
 ·exact⟨by omega,by omega,.inl (.inl e)⟩
 ·have:=h.own.lt q e;exact⟨by omega,this.2,.inr (by omega)⟩
def SwI(b b2 lo hi N0:Nat)(C0:List Zj)(p:Nat)(D:Nat->Prop)(w:World)(X:List (TxD×List Zj)):Prop:=
 ∃ va vc K,St b p w (.slice va (X.map (·.1)).length vc) K (X.map (·.1))/\FeI w b2 (Zp C0 - Zp (Y6 C0 X))/\N0<=p/\D=DV lo hi (.slice va (X.map (·.1)).length vc)/\0<=Zp C0 - Zp (Y6 C0 X)/\(X=[]\/(Zp C0<=1000000000/\Yd (Y6 C0 X)))
theorem Hu{C}(h:Yd C):0<=Zp C:=Wp C (λc hc=>by have:=Yy (h.one c hc);omega)
theorem Zrc(b b2 lo hi:Nat)(w0:World)(C0)(hb:w0.heap[b]? = some (dE #[F none 0 0] 37 (0,0)))(am:FeI w0 b2 0)(h1:lo<=b/\b<hi)(h2:lo<=b2/\b2<hi)(av:b≠b2)(ar:hi<=w0.heap.size) :
  Zro 79 #[dH (some ⟨b,0,none⟩),dH (some ⟨b2,0,none⟩)] w0 C0 (D0 lo hi) (SwI b b2 lo hi w0.heap.size C0) where
 enters:=enters_of (fn:=Tryz.f79) (by kernel_rfl) (by kernel_rfl) rfl
 start p w hw hp pl:=⟨none,0,[],St.start ((hw.block b (by omega)).trans hb) (by omega) pl,by
  have:Zp C0 - Zp (Y6 C0 [])=0:=by rw[Ve];omega
  unfold FeI;rw[this];exact (hw.block b2 (by omega)).trans am,hp,rfl,by rw[Ve];omega,.inl rfl⟩
 dirty p D w X:=by
  rintro ⟨va,vc,K,h,_,hp,rfl,_⟩ q hq;exact DV.dirty h ar hp q hq
 on p D w w' X:=by
  rintro ⟨va,vc,K,h,hf,hp,hD,r⟩ g;exact⟨va,vc,K,h.on g (λq e=>by subst e;exact⟨aF _,by omega⟩),(g.block b2 (aA hf) (λe=>by have e:b2=p:=e;omega)).trans hf,hp,hD,r⟩
 call p D wA w X t C' u0 u1 u2:=by
  rintro ⟨va,vc,K,h,hf,hp,rfl,h0,hr⟩ an hF r1 r2 r3 hl
  have hs:Zp C0<=1000000000:=by
   rcases hr with rfl|hr
   ·rw[Ve] at r1;exact r1.sum
   ·exact hr.1
  have n1:=Hu r1;have n2:=Hu r2;have n3:=r1.sum;refine (Zex b b2 p va vc K (X.map (·.1)) _ u0 u1 u2 t wA w h _ hf av (by omega) h0 (by omega) (by omega) (by omega) an hF (by rw[List.length_map];exact hl)).mono ?_;rintro e w' ⟨rfl,⟨v',K',hS,ap⟩,hg⟩;obtain⟨a,c,rfl,_,_⟩:=hS.txs;have e1:(X++[(t,C')]).map (·.1)=X.map (·.1)++[t]:=by simp
  refine⟨rfl,hg.mono (λq _ e=>?_),DV lo hi (.slice a ((X++[(t,C')]).map (·.1)).length c),a,c,K',?_,?_,hp,rfl,?_,.inr ⟨hs,?_⟩⟩
  ·rcases e with (e|e)|e
   ·subst e;exact .inl h1
   ·subst e;exact .inl h2
   ·exact .inr e
  ·rw[e1];exact hS
  ·rw[Wj];have:Zp C0 - Zp (Y6 C0 X)+(Zp (Y6 C0 X) - Zp C')=Zp C0 - Zp C':=(by omega);rw[<-this];exact ap
  ·rw[Wj];omega
  ·rw[Wj];exact r2
theorem St.reads{b p:Nat}{w w2 va vc K}{L:List TxD}{S:Nat->Prop}(h:St b p w (F va L.length vc) K L)(g:Gr w w2 S)(hS:∀ q,S q->q<=p):TxsAt w2 va L.length L/\SlOk va L.length vc:=by
 have o:=g.own h.own (λk hk e=>by have:=(h.own.lt k hk).1;have:=hS k e;omega);obtain⟨a,c,e,h1,h2⟩:=Tr.rows_of_own Tr.txR o (h.kept w2 (g.mono (λq _ e=>.inl (hS q e)))) rfl;injection e with e1 _ e3;subst e1 e3;exact⟨h1,h2⟩
def Zlz(w w':World)(x:Int)(K:List ByteArray)(L:List TxD)(C:List Zj)(f:Int)(e:Ending):Prop:=
 ∃ ka kn kc sa sn sc ca cn cc,e = dF (dG #[.agg #[F ka kn kc],F sa sn sc,F ca cn cc,E J f,E J x]) /\
  Fresh w.heap.size w' (λw2=>Bk.TextsAt w2 ka kn K/\TxsAt w2 sa sn L/\CoinsAt w2 ca cn C)/\SlOk ka kn kc/\SlOk sa sn sc/\SlOk ca cn cc/\ZD w w'
def swF(K:List ByteArray)(C:List Zj)(l:List TxD)(h x:Int):List ByteArray×List TxD×List Zj×Int:=
 if x=0 then ((Z5 h l (K,C)).2.1,(Z5 h l (K,C)).1,(Z5 h l (K,C)).2.2,Zp C - Zp (Z5 h l (K,C)).2.2) else ([],[],[],0)
def Yv(w:World):List Obj->World
 | []=>w
 | o :: r=>Yv (w.alloc o) r
theorem Z0:∀ (os:List Obj) (w:World),(Yv w os).heap.size=w.heap.size+os.length
 | [],_=>rfl
 | o :: r,w=>by rw[Yv,Z0 r,List.length_cons];simp;omega
theorem Zs:∀ (os:List Obj) (w:World),ZD w (Yv w os)
 | [],_=>Below.refl _ _
 | o :: r,w=>Zf (Zh w o) (Zs r (w.alloc o))
theorem Zl:∀ (os:List Obj) (w:World) (i:Nat) (o:Obj),os[i]? = some o->(Yv w os).heap[w.heap.size+i]? = some o
 | [],_,_,_,h=>by simp at h
 | o :: r,w,0,x,h=>by
  simp at h;subst h;have h1:(w.alloc o).heap[w.heap.size]? = some o:=heap_alloc_new w o;exact ZE (Zs r (w.alloc o)) h1
 | o :: r,w,i+1,x,h=>by
  have:=Zl r (w.alloc o) i x (by simpa using h);rw[show (w.alloc o).heap.size+i=w.heap.size+(i+1) by simp;omega] at this;exact this
theorem kl{X w:World}{l}(h:X=Yv w l)(i:Nat)(L:List Value)(t:TypeId)(e:l[i]? = some (dE L.toArray t)):X.heap[w.heap.size+i]? = some (dE L.toArray t (0,0)):=by subst h;exact Zl _ w i _ e
theorem kl0{X w:World}{l}(h:X=Yv w l)(L:List Value)(t:TypeId)(e:l[0]? = some (dE L.toArray t)):X.heap[w.heap.size]? = some (dE L.toArray t (0,0)):=by subst h;exact Zl _ w 0 _ e
theorem Rp{fn:Func}{p q u v z:Tmp}{ty aa ab:TypeId}(h:fn.results=#[.cell p ty,.cell q aa,.tmp u,.cell v ab,.tmp z])(tmps:Array Value)(P:Program)(w) :
  (results fn tmps).run P w =
   ((asAddr (tmps.getD p undef)).run P w).andThen λa w₁=>((loadVar ty a).run P w₁).andThen λx w₂=>((asAddr (tmps.getD q undef)).run P w₂).andThen λa2 w₃=>((loadVar aa a2).run P w₃).andThen λy w₄=>((asAddr (tmps.getD v undef)).run P w₄).andThen λa3 w₅=>((loadVar ab a3).run P w₅).andThen λz3 w₆=>.ok (dG #[x,y,tmps.getD u undef,z3,tmps.getD z undef]) w₆:=by
 simp only[results,h];simp[Sem.run_bind,Result.andThen]
theorem Nq(ka kn kc K la ln lc C a m c L)(h x:Int)(K' L' C')(f:Int)(w)
  (hE:Env w) (hK:Bk.TextsAt w ka kn K) (hC:CoinsAt w la ln C) (sC:SlOk la ln lc) (hL:TxsAt w a m L) (hx:swE K C L h=x) (hr:swF K C L h x=(K',L',C',f)) :
  Calls aB 23 #[.agg #[F ka kn kc],F la ln lc,F a m c,E J h] w λe w'=>Zlz w w' x K' L' C' f e:=by
 obtain⟨X,hX⟩:=ZG (Yv w [dE #[F ka kn kc] 24,dE #[F none 0 0] 24,dE #[F none 0 0] 37,dE #[E J 0] 3]);have aj:ZD w X:=by rw[hX];exact Zs _ _
 have bz:X.heap.size=w.heap.size+4:=by rw[hX];exact Z0 _ _
 have x0:X.heap[w.heap.size]? = some (dE #[F ka kn kc] 24 (0,0)):=by rw[hX];exact Zl _ w 0 _ rfl
 have x1:X.heap[w.heap.size+1]? = some (dE #[F none 0 0] 24 (0,0)):=by rw[hX];exact Zl _ w 1 _ rfl
 have x2:X.heap[w.heap.size+2]? = some (dE #[F none 0 0] 37 (0,0)):=by rw[hX];exact Zl _ w 2 _ rfl
 have x3:X.heap[w.heap.size+3]? = some (dE #[E J 0] 3 (0,0)):=by rw[hX];exact Zl _ w 3 _ rfl
 have bx:X=(((w.alloc (dE #[F ka kn kc] 24)).alloc (dE #[F none 0 0] 24)).alloc (dE #[F none 0 0] 37)).alloc (dE #[E J 0] 3):=hX;have bu:=Zrc (w.heap.size+2) (w.heap.size+3) (w.heap.size+2) (w.heap.size+4) X C x2 x3 (by omega) (by omega) (by omega) (by omega);have aw:∀ V,Gr X V (D0 (w.heap.size+2) (w.heap.size+4))->ZD w V:=λV g=>g.below aj aj.size (λq e=>by have:=e.ge;omega);obtain⟨C1,cp,cu,HR,cq,ah,bo,bq⟩:=kh8 (Nl _ _ _ _ ka kn kc K la ln lc C a m c L h x X bu w aw hE hK hC sC hL hx) aj bz hr aw x1 x2 x3;have t0:=Zb (X:=[F ka kn kc]) x0 0 _ rfl;have tl:=aA x0;clear hE hK hC sC hL hx hr aj bz x0 x1 x2 x3 hX bu aw;go_enter func23,ntmps23;go_wp2_with fail;rw[<-bx];clear bx;(try go_wp2_with fail);refine C1.mono ?_;rintro e w1 da
 rcases da with ⟨h0,rfl,ad⟩|⟨h0,p,D,rfl,hp,ak,hd,hI⟩
 ·have gx:(x != 0)=true:=by simp[h0]
  have y1:=ZE ad ah;have y2:=ZE ad bo;have y3:=ZE ad bq;have dc:=Zb (X:=[F none 0 0]) y1 0 _ rfl;have bk:=Zb (X:=[F none 0 0]) y2 0 _ rfl;have cl:=Zb (X:=[E J 0]) y3 0 _ rfl;have dd:=Zg y1 0;have df:=Zg y2 0;have dh:=Zg y3 0;have de:=aA y1;have dg:=aA y2;have di:=aA y3
  have ct:Hid (K'=[]/\L'=[]/\C'=[]/\f=0):=by
   have:=Za HR;unfold swF at this;rw[if_neg h0] at this;simp only[Prod.mk.injEq] at this;exact⟨this.1.symm,this.2.1.symm,this.2.2.1.symm,this.2.2.2.symm⟩
  have HB:=Zd (Zf cp ad);clear ad y1 y2 y3 C1 HR;go_wp2;(try simp only[aV,Exit.then]);refine bB (v:=dG #[.agg #[F none 0 0],F none 0 0,F none 0 0,E J 0,E J x]) ?_ rfl ?_
  ·rw[Rp rfl];go_simp
  ·obtain⟨rfl,rfl,rfl,rfl⟩:=Za ct;exact⟨_,_,_,_,_,_,_,_,_,rfl,λ_ _=>⟨Bk.TextsAt.nil _ _,RowsAt.nil _ _,RowsAt.nil _ _⟩,Zu,Zu,Zu,(((HB.setCell (p:=⟨w.heap.size+1,0,none⟩) (by simp) _).setCell (p:=⟨w.heap.size+2,0,none⟩) (by simp) _).setCell (p:=⟨w.heap.size+3,0,none⟩) (by simp) _)⟩
 ·obtain⟨va,vc,Kl,hS,hf,_,_,_,_⟩:=hI;obtain⟨ka',kn',kc',ay,bd,bb,cb,av,cg,cf⟩:=hd;have y1:=(ak.block _ (aA ah) (λe=>by have:=e.ge;omega)).trans ah;have dc:=Zb (X:=[F none 0 0]) y1 0 _ rfl;have bk:=Zb (X:=[_]) hS.box 0 _ rfl;have cl:=Zb (X:=[_]) hf 0 _ rfl;obtain⟨p0,p1,pl⟩:=kc2 cb;have dd:=Zg y1 0;have df:=Zg hS.box 0;have dh:=Zg hf 0;have de:=aA y1;have dg:=aA hS.box;have di:=aA hf;subst h0
  have cy:Z5 h L (K,C)=(L',K',C')/\f=Zp C - Zp C':=by
   have:=Za HR;unfold swF at this;rw[if_pos rfl] at this;simp only[Prod.mk.injEq] at this;obtain⟨r1,r2,r3,r4⟩:=this;exact⟨Prod.ext r2 (Prod.ext r1 r3),by rw[<-r4,r3]⟩
  obtain⟨am,ca⟩:=cy;have e1:(swT h L (K,C)).map (·.1)=L':=by rw[J6,am]
  have e2:Y6 C (swT h L (K,C))=C':=by have:=Hs h L (K,C);rw[am] at this;exact this
  rw[am] at av;rw[e1] at hS bk;rw[e2,<-ca] at hf cl;obtain⟨n,hn⟩:=ZF (L'.length)
  have cm:Hid (∀ W,Gr w1 W (λq=>w.heap.size+1<=q/\q<w.heap.size+4)->Zlz w W 0 K' L' C' f (dF (dG #[.agg #[F ka' kn' kc'],F va n vc,F ay bd bb,E J f,E J 0]))):=λW g=>by
   have dm:=Za cu;have ad:=cq w1 ak;have dl:=ak.size;subst hn;refine⟨ka',kn',kc',va,L'.length,vc,ay,bd,bb,rfl,λW2 g2=>?_,cg,(hS.reads (Gr.refl w1 (λ_=>False)) (λ_ q=>q.elim)).2,cf,g.below ad ad.size (λq e=>by omega)⟩;have r1:=av W2 ((g.mono (λq _ e=>by omega)).trans (g2.mono (λq _ e=>by omega)));have r2:=(hS.reads ((g.mono (T:=λq=>q<w.heap.size+4) (λq _ e=>e.2)).trans (g2.mono (λq _ e=>by omega))) (λq e=>by omega)).1;exact⟨r1.1,r2,r1.2⟩
  rw[hn] at bk;clear hS hf av cb ak am ca e1 e2 y1 HR C1 cg cf ah bo bq hn;go_wp2_with fail
  go_region
  go_wp2;(try simp only[aV,Exit.then]);refine bB (v:=dG #[.agg #[F ka' kn' kc'],F va n vc,F ay bd bb,E J f,E J 0]) ?_ rfl ?_
  ·rw[Rp rfl];go_simp
  ·exact cm _ ((((Gr.refl w1 (λq=>w.heap.size+1<=q/\q<w.heap.size+4)).one (w.heap.size+1) 0 (.inl (by omega)) _).one (w.heap.size+1+1) 0 (.inl (by omega)) _).one (w.heap.size+1+1+1) 0 (.inl (by omega)) _).draw
open Go.RowKit Go.Maps
def Zpp(v:Value):Option (DataW Value×List MemPlace):=some (.held v,[])
abbrev Ce:Value:=F none 0 0
abbrev Zrb(x:Int):Lit:=.int .i64 x
theorem Zpn:Keyed aB 3:=int_keyed aP
theorem Zpt(w):(zeroValue 29).run aB w = .ok (F none 0 0) w:=by kernel_rfl
theorem Zoa{x y:Int}(h:x≠y):Zrb x≠Zrb y:=by
 intro e;injection e with _ e;exact h e
theorem Hk{x:Int}(h : -1000000<=x)(h2:x<=1000000):(Lit.int .i64 x).wf=true:=by simp[Lit.wf,IntKind.min,IntKind.max,IntKind.signed,IntKind.bits];omega
def BMap(bm n:Nat)(f:Int->Value)(w:World):Prop:=∃ D,w.ownsMap aB 3 Zpp bm n D/\IsMap D/\∀ x:Int,D.atKey (Zrb x) (.held Ce) = .held (f x)
theorem BMap.heap{bm n:Nat}{f:Int->Value}{w w':World}(h:BMap bm n f w)(hb:w'.heap[bm]? = w.heap[bm]?):BMap bm n f w':=by
 obtain⟨D,⟨es,aa,h1,r⟩,r2⟩:=h;exact⟨D,⟨es,aa,hb.trans h1,r⟩,r2⟩
theorem BMap.lt{bm n:Nat}{f:Int->Value}{w:World}(h:BMap bm n f w):bm<w.heap.size:=by
 obtain⟨D,h1,_⟩:=h;exact h1.lt
theorem BMap.keep{bm n:Nat}{f:Int->Value}{w w':World}(h:BMap bm n f w)(hb:ZD w w'):BMap bm n f w':=h.heap (hb.block bm h.lt)
theorem BMap.gr{bm n:Nat}{f:Int->Value}{w w'}{S:Nat->Prop}(h:BMap bm n f w)(g:Gr w w' S)(hn:¬S bm):BMap bm n f w':=h.heap (g.block bm h.lt hn)
theorem BMap.isMap{bm n:Nat}{f:Int->Value}{w:World}(h:BMap bm n f w):∃ es aa,w.heap[bm]? = some (.map es aa):=by
 obtain⟨D,⟨es,aa,h1,r⟩,r2⟩:=h;exact⟨es,aa,h1⟩
theorem BMap.made(w:World):BMap w.heap.size 0 (λ_=>Ce) (w.alloc (.map #[] 0)):=
 ⟨.map [],World.ownsMap_made w aB 3 Zpp,⟨_,rfl⟩,λ_=>rfl⟩
theorem BMap.look{bm n:Nat}{f:Int->Value}{w}(h:BMap bm n f w)(x:Int)(hx:(Lit.int .i64 x).wf=true):(Instr.lookup 252 (.map (some bm)) (.int .i64 x) false).run aB w = .ok (f x) w:=by
 obtain⟨D,h1,_,h3⟩:=h;obtain⟨v,ps,aa,hv⟩:=h1.lookup Zpn underlying252 (Zpt w) (zd:=.held Ce) (zp:=[]) rfl (keyOf_int_mk aP hx);rw[h3] at hv;have ac:v=f x:=DataW.held.inj (Prod.mk.inj (Option.some.inj hv)).1;rw[ac] at aa;exact aa
theorem BMap.drew_look{bm n:Nat}{f:Int->Value}{w:World}(h:BMap bm n f w)(x:Int)(hx:(Lit.int .i64 x).wf=true):(Instr.lookup 252 (.map (some bm)) (.int .i64 x) false).run aB w.drew = .ok (f x) w.drew:=BMap.look (w:=w.drew) (h.heap rfl) x hx
theorem BMap.put{bm n:Nat}{f:Int->Value}{w:World}(h:BMap bm n f w)(hn:n<1000000)(x:Int)(hx:(Lit.int .i64 x).wf=true)(v) :
  ∃ w',(Instr.mapUpdate 252 (.map (some bm)) (.int .i64 x) v).run aB w = .ok () w'/\BMap bm (n+1) (λy=>if y=x then v else f y) w'/\w.grownBy w' (some bm):=by
 obtain⟨D,h1,h2,h3⟩:=h;obtain⟨w',aa,r1,r2⟩:=h1.update Zpn underlying252 (by unfold cK;omega) (keyOf_int_mk aP hx) (val:=v) (d:=.held v) (ps:=[]) rfl;refine⟨w',aa,⟨_,r1,?_,λy=>?_⟩,r2⟩
 ·obtain⟨es,rfl⟩:=h2;exact⟨_,rfl⟩
 ·by_cases e:y=x
  ·subst e;rw[atKey_put_same h2 (by simp[WideAt.IsKeyLit])];show _=DataW.held (if y=y then v else f y);rw[if_pos rfl]
  ·rw[atKey_put_other (Zoa e),h3];show _=DataW.held (if y=x then v else f y);rw[if_neg e]
theorem Qm(w:World)(n:Nat):ZD w (w.drewN n):=⟨rfl,rfl,rfl,aF _,λ_ _=>rfl⟩
def Rl(g:TxD->Bool):List TxD->Nat->Int
 | [],_=>-1
 | t :: r,k=>if g t=true then k else Rl g r (k+1)
theorem Zon(g:TxD->Bool)(L:List TxD)(k:Nat)(h:k<L.length):Rl g (L.drop k) k=if g L[k]=true then (k:Int) else Rl g (L.drop (k+1)) (k+1):=by
 rw[aJ h,Rl]
theorem Cy(g:TxD->Bool):∀ (L:List TxD) (k:Nat),decide (0<=Rl g L k)=L.any g
 | [],_=>by simp[Rl]
 | t :: r,k=>by
  rw[Rl,List.any_cons];by_cases h:g t=true
  ·rw[if_pos h,h];simp
  ·have h':g t=false:=(by simpa using h);rw[if_neg h,Cy g r,h',Bool.false_or]
structure Zda(f:Nat)(caps:Array Value)(W0:World)(g:TxD->Bool):Prop where
 enters:∀ args w,(callFunc f args).run aB w = .ok (.enter f args) w
 call:∀ w,ZD W0 w->∀ (th:Int) (ai ao:Option Addr) (ni ci no co:Nat) (I:List InD) (O:List Z3),InsAt w ai ni I->OutsAt w ao no O->SlOk ai ni ci->SlOk ao no co ->
  Calls aB f (#[.agg #[E J th,F ai ni ci,F ao no co]]++caps) w λe w'=>e = dF (dI (g (th,I,O)))/\ZD w w'
theorem Zbv(f:Nat)(caps)(g:TxD->Bool)(a n c L)(w:World)(hT:Zda f caps w g)(hL:TxsAt w a n L)(hn:n<=cK) :
  ZH 156 #[F a n c,.func (.func f) #[] caps] w (E J (Rl g L 0)):=by
 obtain⟨HT,HL,HZ⟩:=kh3 hT hL hL.1;have bg:n<=9223372036854775807:=hn;clear hT hL hn;go_enter func156,ntmps156;go_wp2
 go_loopw [5,8] (λ_ i wr=>∃ k:Nat,k<=n/\i = E J k/\Hid (Rl g L 0=Rl g (L.drop k) k)/\ZD w wr) (λ_ i _=>n - (intOf i).toNat)
 case atStart=>exact⟨0,aI _,rfl,rfl,Below.refl _ _⟩
 case round=>
  obtain⟨k,hk,rfl,A,hb⟩:=hrel;have HB:=Zd hb;by_cases bd:k<n
  ·have aq:k<L.length:=(by rw[Za HZ];exact bd);obtain⟨b,off,rfl,ap,au⟩:=HL.2 (by omega);obtain⟨c0,⟨ai,ni,ci,c1,ag,aw⟩,ao,no,co,c2,aj,ax⟩:=au k aq;have c0:=Ze hb c0;have c1:=Ze hb c1;have c2:=Ze hb c2;have ap:b<wr.heap.size:=aD ap hb.size;have S:=Zd (Zon g L k aq);obtain⟨t,ht⟩:=ZF (L[k]);rw[ht] at c0 ag aj S;obtain⟨th,tI,tO⟩:=t;have CC:=Zd (HT.call wr hb th ai ao ni ci no co tI tO (ag.later hb) (aj.later hb) aw ax);have eg:=HT.enters;simp only at c0;clear ag aj aw ax ht au hb;cases hg:g (th,tI,tO) with
   | true=>
    rw[hg] at CC S;have S2:Hid (Rl g L 0=k):=(by show _=_;rw[Za A,Za S,if_pos rfl]);clear S A hg;go_wp2_with fail;refine CC.mono ?_;rintro e w2 ⟨rfl,ad⟩;have af:=Zd (Zf HB ad);clear ad CC;go_wp2;go_ret;exact⟨by rw[Za S2];rfl,Za af⟩
   | false=>
    rw[hg] at CC S;have S2:Hid (Rl g L 0=Rl g (L.drop (k+1)) (k+1)):=(by show _=_;rw[Za A,Za S,if_neg (by decide)]);clear S A hg;go_wp2_with fail;refine CC.mono ?_;rintro e w2 ⟨rfl,ad⟩;have af:=Zd (Zf HB ad);clear ad CC;go_wp2;go_roundw
    case rel=>exact⟨k+1,by omega,by go_num,S2,Za af⟩
    case measure=>simp[intOf];omega
  ·have S2:Hid (Rl g L 0 = -1):=by
    show _=_;rw[Za A,List.drop_of_length_le (by rw[Za HZ];omega)];rfl
   clear A hb;go_wp2;go_ret;exact⟨by rw[Za S2];rfl,Za HB⟩
theorem Mn(f:Nat)(caps)(g:TxD->Bool)(a n c)(L:List TxD)(o:Bool)(w:World)(hT:Zda f caps w g)(hL:TxsAt w a n L)(hn:n<=cK)(ho:L.any g=o) :
  ZH 89 #[F a n c,.func (.func f) #[] caps] w (dI o):=by
 have C1:=Zd (Zbv f caps g a n c L w hT hL hn);have HO:Hid (decide (0<=Rl g L 0)=o):=by show _=_;rw[Cy];exact ho
 obtain⟨i,hi⟩:=ZF (Rl g L 0);rw[hi] at C1 HO;clear hT hL hn ho hi;go_enter func89,ntmps89;go_wp2_with fail;refine C1.mono ?_;rintro e w1 ⟨rfl,hb⟩;have HB:=Zd hb;clear hb C1;go_wp2;go_ret;exact⟨by rw[<-Za HO];rfl,Za HB⟩
namespace Bk
open Go.RowKit Go.Maps
theorem J5{α : Type}{L M:List α}{j:Nat}(h1:j<L.length)(h2:j<M.length)(h:L.take j=M.take j)(e:L[j]=M[j]):L.take (j+1)=M.take (j+1):=by
 rw[bA h1,bA h2,h,e]
theorem T3{α : Type}{L M:List α}{j:Nat}(h1:j<L.length)(h2:j<M.length)(e:L[j]≠M[j]):L≠M:=by
 intro h;subst h;exact e rfl
theorem Zmu{s t:ByteArray}(h:s≠t):s.toList≠t.toList:=λe=>h (by
 rw[ByteArray.toList_eq,ByteArray.toList_eq] at e;have h4:s.data=t.data:=by rw[<-Array.toList_inj];exact e
 cases s;cases t;simp_all)
theorem Zil{s t:ByteArray}(h:s≠t):(s.toList == t.toList)=false:=by simp[Zmu h]
theorem Zcd(b off b2 aq n c d:Nat)(L M:List ByteArray)(o:Bool)(w:World)(hn:n<=cK)(hz:L.length=n)(ap:M.length=n)
  (hc:∀ i (h:i<L.length),w.cell? ⟨b,off+i,none⟩=some (.string L[i])) (aj:∀ i (h:i<M.length),w.cell? ⟨b2,aq+i,none⟩=some (.string M[i])) (ho:decide (L=M)=o) :
  ZH 31 #[F (some ⟨b,off,none⟩) n c,F (some ⟨b2,aq,none⟩) n d] w (dI o):=by
 obtain⟨HC,au,HZ,ag,HO⟩:=kh5 hc aj hz ap ho;have g0:((n:Int) != (n:Int))=false:=by simp
 unfold cK at hn;clear hc aj hz ap ho;go_enter func31,ntmps31;go_wp2
 go_loopw [13] (λi wr=>∃ j m:Nat,j<=n/\i = E J j/\wr=w.drewN m/\Hid (L.take j=M.take j)) (λi _=>n - (intOf i).toNat)
 case atStart=>exact⟨0,0,aI _,rfl,rfl,rfl⟩
 case round=>
  obtain⟨j,m,hk,rfl,rfl,A⟩:=hrel;by_cases ak:j<n
  ·have h1:j<L.length:=(by rw[Za HZ];exact ak);have h2:j<M.length:=(by rw[Za ag];exact ak);have f1:=HC j h1;have f2:=au j h2;obtain⟨TM,TN⟩:=kh2 (J5 h1 h2 A) (T3 h1 h2);obtain⟨s,hs⟩:=ZF (L[j]);obtain⟨t,ht⟩:=ZF (M[j]);rw[hs] at f1;rw[ht] at f2;rw[hs,ht] at TM TN;clear hs ht A;by_cases e:s=t
   ·subst e;have R:=Zd (TM rfl);clear TM TN;go_wp2
    go_quiet (fail)
    go_wp2;go_roundw
    case rel=>exact⟨j+1,m+nq,by omega,by go_num,rfl,R⟩
    case measure=>simp[intOf];omega
   ·have R:Hid (o=false):=(by show _=_;rw[<-Za HO];exact decide_eq_false (TN e));have g:=Zil e;clear TM TN e;go_wp2
    go_quiet (fail)
    go_wp2;go_ret;exact⟨by rw[Za R];rfl,by simp only[World.drewN_drewN];exact Qm _ _⟩
  ·have R:Hid (o=true):=by
    have h:=Za A;rw[aS (by rw[Za HZ];omega),aS (by rw[Za ag];omega)] at h;show _=_;rw[<-Za HO];exact decide_eq_true h
   clear A;go_wp2;go_ret;exact⟨by rw[Za R];rfl,Qm _ _⟩
theorem Zcc(a a2 c d)(w:World) :
  ZH 31 #[F a 0 c,F a2 0 d] w (dI true):=by
 go_enter func31,ntmps31;go_wp2;refine wp_loop_rounds 1 ?_;rw[bK];go_wp2;go_ret;exact⟨rfl,Below.refl _ _⟩
theorem Zgv(a a2)(n m c d:Nat)(w:World)(h:n≠m) :
  ZH 31 #[F a n c,F a2 m d] w (dI false):=by
 have g:((n:Int) != (m:Int))=true:=by simp;omega
 go_enter func31,ntmps31;go_wp2;go_ret;exact⟨rfl,Below.refl _ _⟩
theorem eqStr_is(a a2)(n m c d:Nat)(L M)(o:Bool)(w:World)(hn:n<=cK)(h:TextsAt w a n L)(h2:TextsAt w a2 m M)(ho:decide (L=M)=o) :
  ZH 31 #[F a n c,F a2 m d] w (dI o):=by
 by_cases e:n=m
 ·subst e;by_cases h0:n=0
  ·subst h0;have e1:L=[]:=aL.1 h.1;have e2:M=[]:=aL.1 h2.1;subst e1 e2;have:o=true:=(by rw[<-ho];rfl);subst this;exact Zcc a a2 c d w
  ·obtain⟨b,off,rfl,hc⟩:=h.2 (by omega);obtain⟨b2,ah,rfl,af⟩:=h2.2 (by omega);exact Zcd b off b2 ah n c d L M o w hn h.1 h2.1 hc af ho
 ·have:o=false:=by
   rw[<-ho];exact decide_eq_false (λe2=>e (by rw[<-h.1,<-h2.1,e2]))
  subst this;exact Zgv a a2 n m c d w e
theorem Tk(b off b2 aq n c d:Nat)(L M:List Int)(o:Bool)(w:World)(hn:n<=cK)(hz:L.length=n)(ap:M.length=n)
  (hc:∀ i (h:i<L.length),w.cell? ⟨b,off+i,none⟩=some (E J L[i])) (aj:∀ i (h:i<M.length),w.cell? ⟨b2,aq+i,none⟩=some (E J M[i])) (ho:decide (L=M)=o) :
  ZH 38 #[F (some ⟨b,off,none⟩) n c,F (some ⟨b2,aq,none⟩) n d] w (dI o):=by
 obtain⟨HC,au,HZ,ag,HO⟩:=kh5 hc aj hz ap ho;have g0:((n:Int) != (n:Int))=false:=by simp
 unfold cK at hn;clear hc aj hz ap ho;go_enter func38,ntmps38;go_wp2
 go_loopw [13] (λi wr=>∃ j m:Nat,j<=n/\i = E J j/\wr=w.drewN m/\Hid (L.take j=M.take j)) (λi _=>n - (intOf i).toNat)
 case atStart=>exact⟨0,0,aI _,rfl,rfl,rfl⟩
 case round=>
  obtain⟨j,m,hk,rfl,rfl,A⟩:=hrel;by_cases ak:j<n
  ·have h1:j<L.length:=(by rw[Za HZ];exact ak);have h2:j<M.length:=(by rw[Za ag];exact ak);have f1:=HC j h1;have f2:=au j h2;obtain⟨TM,TN⟩:=kh2 (J5 h1 h2 A) (T3 h1 h2);obtain⟨s,hs⟩:=ZF (L[j]);obtain⟨t,ht⟩:=ZF (M[j]);rw[hs] at f1;rw[ht] at f2;rw[hs,ht] at TM TN;clear hs ht A;by_cases e:s=t
   ·subst e;have R:=Zd (TM rfl);have g:(s != s)=false:=(by simp);clear TM TN;go_wp2
    go_quiet (fail)
    go_wp2;go_roundw
    case rel=>exact⟨j+1,m+nq,by omega,by go_num,rfl,R⟩
    case measure=>simp[intOf];omega
   ·have R:Hid (o=false):=(by show _=_;rw[<-Za HO];exact decide_eq_false (TN e));have g:(s != t)=true:=(by simp[e]);clear TM TN;go_wp2
    go_quiet (fail)
    go_wp2;go_ret;exact⟨by rw[Za R];rfl,by simp only[World.drewN_drewN];exact Qm _ _⟩
  ·have R:Hid (o=true):=by
    have h:=Za A;rw[aS (by rw[Za HZ];omega),aS (by rw[Za ag];omega)] at h;show _=_;rw[<-Za HO];exact decide_eq_true h
   clear A;go_wp2;go_ret;exact⟨by rw[Za R];rfl,Qm _ _⟩
theorem Tj(a a2 c d)(w:World) :
  ZH 38 #[F a 0 c,F a2 0 d] w (dI true):=by
 go_enter func38,ntmps38;go_wp2;refine wp_loop_rounds 1 ?_;rw[bK];go_wp2;go_ret;exact⟨rfl,Below.refl _ _⟩
theorem Pr(a a2)(n m c d:Nat)(w:World)(h:n≠m) :
  ZH 38 #[F a n c,F a2 m d] w (dI false):=by
 have g:((n:Int) != (m:Int))=true:=by simp;omega
 go_enter func38,ntmps38;go_wp2;go_ret;exact⟨rfl,Below.refl _ _⟩
theorem eqInt_is(a a2)(n m c d:Nat)(L M)(o:Bool)(w:World)(hn:n<=cK)(h:IntsAt w a n L)(h2:IntsAt w a2 m M)(ho:decide (L=M)=o) :
  ZH 38 #[F a n c,F a2 m d] w (dI o):=by
 by_cases e:n=m
 ·subst e;by_cases h0:n=0
  ·subst h0;have e1:L=[]:=aL.1 h.1;have e2:M=[]:=aL.1 h2.1;subst e1 e2;have:o=true:=(by rw[<-ho];rfl);subst this;exact Tj a a2 c d w
  ·obtain⟨b,off,rfl,hc⟩:=h.2 (by omega);obtain⟨b2,ah,rfl,af⟩:=h2.2 (by omega);exact Tk b off b2 ah n c d L M o w hn h.1 h2.1 hc af ho
 ·have:o=false:=by
   rw[<-ho];exact decide_eq_false (λe2=>e (by rw[<-h.1,<-h2.1,e2]))
  subst this;exact Pr a a2 n m c d w e
theorem Br{s:ByteArray}{L:List ByteArray}{j:Nat}(h:j<L.length)(h0:place s (L.take j)=0)(e:L[j]≠s):place s (L.take (j+1))=0:=by
 rw[place_zero] at *;rw[bA h];simp only[List.mem_append,List.mem_singleton,not_or];exact⟨h0,λq=>e q.symm⟩
theorem Ki{s:ByteArray}:∀ {A B:List ByteArray},place s A=0->place s (A++s :: B)=A.length+1
 | [],B,_=>by simp[place]
 | x :: A,B,h=>by
  have hx:x≠s:=λq=>by simp[place,q] at h
  have hA:place s A=0:=by
   rw[place_zero] at *;exact λq=>h (List.mem_cons_of_mem _ q)
  rw[List.cons_append,place,if_neg hx,Ki hA,if_neg (by omega),List.length_cons]
theorem Zba{s:ByteArray}{L:List ByteArray}{j:Nat}(h:j<L.length)(h0:place s (L.take j)=0)(e:L[j]=s):place s L=j+1:=by
 have h1:L=L.take j++s :: L.drop (j+1):=by
  conv=>lhs;rw[<-List.take_append_drop j L,aJ h,e]
 rw[h1,Ki h0,List.length_take];omega
theorem indexS_is(a)(n c:Nat)(L)(s:ByteArray)(x:Int)(w:World)(hn:n<=cK)(h:TextsAt w a n L)(hx:(place s L:Int) - 1=x) :
  ZH 291 #[F a n c,.string s] w (E J x):=by
 obtain⟨HT,HX⟩:=kh2 h hx;unfold cK at hn;clear h hx;go_enter func291,ntmps291;go_wp2
 go_loop [8] (λi=>∃ j:Nat,j<=n/\i = E J j/\Hid (place s (L.take j)=0)) (λi=>n - (intOf i).toNat)
 case atStart=>exact⟨0,aI _,rfl,rfl⟩
 case round=>
  obtain⟨j,hk,rfl,A⟩:=hrel;by_cases am:j<n
  ·obtain⟨hz,af⟩:=Za HT;obtain⟨b,off,rfl,hc⟩:=af (by omega);have h1:j<L.length:=(by omega);have f:=hc j h1;obtain⟨PS,PH⟩:=kh2 (Br h1 A) (Zba h1 A);obtain⟨t,ht⟩:=ZF (L[j]);rw[ht] at f PS PH;clear ht A hc af hz;by_cases e:t=s
   ·subst e;have R:Hid (x=j):=(by show _=_;rw[<-Za HX,(Za PH) rfl];omega);clear PS PH;go_wp2;go_ret;exact⟨by rw[Za R];rfl,Below.refl _ _⟩
   ·have R:=Zd (PS e);have g:=Zil (λh:s=t=>e h.symm);clear PS PH e;go_wp2
    go_round
    case rel=>exact⟨j+1,by omega,by go_num,R⟩
    case measure=>simp[intOf];omega
  ·have R:Hid (x = -1):=by
    have h:=Za A;rw[aS (by rw[(Za HT).1];omega)] at h;show _=_;rw[<-Za HX,h];rfl
   clear A;go_wp2;go_ret;exact⟨by rw[Za R];rfl,Below.refl _ _⟩
end Bk
open Go.RowKit
def KAt(w:World)(d:Nat)(K:List ByteArray):Prop:=∃ ka kn kc,w.cell? ⟨d,0,none⟩=some (F ka kn kc)/\Bk.TextsAt w ka kn K/\SlOk ka kn kc/\d<w.heap.size
theorem KAt.later{w w':World}{d K}(h:KAt w d K)(hb:ZD w w'):KAt w' d K:=by
 obtain⟨ka,kn,kc,h1,h2,h3,h4⟩:=h;exact⟨ka,kn,kc,Ze hb h1,h2.later hb,h3,aD h4 hb.size⟩
def knT(K:List ByteArray)(t:TxD):Bool:=decide (Zq t=0) && !decide (Bk.place (txT t) K=0)
def kbD(K:List ByteArray)(s:Int)(b:Zk):Bool:=decide (Yq b=0) && (decide ((Bk.place (M5 b) K:Int)=s) && b.2.2.2.2.all (knT K))
theorem Nu(d)(s:ByteArray)(K)(x:Int)(w:World)(h:KAt w d K)(hx:(Bk.place s K:Int)=x) :
  ZH 261 #[dH (some ⟨d,0,none⟩),.string s] w (E J x):=by
 obtain⟨ka,kn,kc,h1,h2,h3,h4⟩:=h;have C1:=Zd (Bk.indexS_is ka kn kc K s (x - 1) w h3.len h2 (by omega));have hl:=Bk.place_le s K;have hk:=h2.1;have hs:kn<=9223372036854775807:=h3.len;have ag:IntKind.i64.wrap (x - 1+1)=x:=by rw[IntKind.wrap_i64];omega
 have ah:IntKind.i64.wrap x=x:=by rw[IntKind.wrap_i64];omega
 have he:x - 1+1=x:=by omega
 clear h2 h3 hx hl hk hs;go_enter func261,ntmps261;go_wp2_with fail;refine C1.mono ?_;rintro e w1 ⟨rfl,hb⟩;have HB:=Zd hb;clear hb C1;go_wp2;go_ret;exact⟨by simp,Za HB⟩
theorem Fj(q d:Nat)(K)(w:World)(hE:Env w)(hq:w.cell? ⟨q,0,none⟩=some (dH (some ⟨d,0,none⟩)))(hK:KAt w d K) :
  Zda 262 #[dH (some ⟨q,0,none⟩)] w (λx=>!knT K x) where
 enters:=enters_of (fn:=Tryz.f262) (by kernel_rfl) (by kernel_rfl) rfl
 call V hV th ai ao ni ci no co I O hI hO sI sO:=by
  obtain⟨X,hX,aa,aq⟩:=ka00 V [E J th,F ai ni ci,F ao no co] 59;have ae:=Zf hV aa;obtain⟨x1,af⟩:=ZF (Zq (th,I,O));obtain⟨T,hT⟩:=ZF (txT (th,I,O));obtain⟨y,hy⟩:=ZF ((Bk.place T K:Int));have C1:=Zd (Hn th ai ao ni ci no co I O T x1 X (hE.later ae) (hI.later aa) (hO.later aa) sI af hT);have C2:=Zd (λU (hu:ZD w U)=>Nu d T K y U (hK.later hu) hy)
  have HG:Hid ((!knT K (th,I,O))=(decide (x1≠0) || decide (y=0))):=by
   show _=_;unfold knT;rw[af,hT,<-hy];by_cases e:x1=0
   ·simp[e]
   ·simp[e]
  show Calls _ _ _ _ (λe w'=>e = dF (dI (!knT K (th,I,O)))/\_);rw[Za HG];obtain⟨t0,t1,t2,tl⟩:=kc3 aq;obtain⟨HB,an,HQ⟩:=kh3 aa ae hq;clear hE hq hK hV hI hO sI sO aa aq ae af hT hy HG;go_enter func262,ntmps262;go_wp2_with fail;rw[<-hX];clear hX;(try go_wp2_with fail);refine C1.mono ?_;rintro e w1 ⟨rfl,ac⟩;obtain⟨ak,C3⟩:=kh2 (Zf HB ac) (C2 w1 (Zf an ac));have q1:=Ze (Zf an ac) HQ;have ql:=World.block_lt_of_cell? _ _ q1;clear ac C1 C2 t0 t1 t2 tl;by_cases e1:x1=0
  ·subst e1;go_wp2_with fail;refine C3.mono ?_;rintro e w2 ⟨rfl,ar⟩;have av:=Zd (Zf ak ar);clear ar C3;go_wp2;go_ret;exact⟨by cases h:decide (y=0) <;> simp_all,Za av⟩
  ·have gx:(x1 != 0)=true:=(by simp[e1]);go_wp2;go_ret;exact⟨by simp[e1],Za ak⟩
theorem Zdu(K):∀ (L:List TxD),(!(L.any λx=>!knT K x))=L.all (knT K)
 | []=>rfl
 | t :: L=>by
  rw[List.any_cons,List.all_cons,<-Zdu K L];cases knT K t <;> simp
theorem Nz(d K a n c)(L:List TxD)(o:Bool)(w:World)(hE:Env w)(hK:KAt w d K)(hL:TxsAt w a n L)(hn:n<=cK)(ho:L.all (knT K)=o) :
  ZH 217 #[dH (some ⟨d,0,none⟩),F a n c] w (dI o):=by
 obtain⟨X,hX,aa,ad⟩:=ka00 w [dH (some ⟨d,0,none⟩)] 181;obtain⟨C1,HB⟩:=kh2 (Mn _ _ _ a n c L (!o) X (Fj w.heap.size d K X (hE.later aa) (Zb ad 0 _ rfl) (hK.later aa)) (hL.later aa) hn (by rw[<-ho,<-Zdu,Bool.not_not])) aa;clear hE hK hL hn ho aa ad;go_enter func217,ntmps217;go_wp2_with fail;rw[<-hX];clear hX;(try go_wp2_with fail);refine C1.mono ?_;rintro e w1 ⟨rfl,hb⟩;have aj:=Zd (Zf HB hb);clear hb C1;go_wp2;go_ret;exact⟨by simp,Za aj⟩
theorem Zgk(d K)(s p h k o:Int)(a m c T)(y:Bool)(w:World)(hE:Env w)(hK:KAt w d K)(hT:TxsAt w a m T)(sT:SlOk a m c)(hy:kbD K s (p,h,k,o,T)=y) :
  ZH 216 #[dH (some ⟨d,0,none⟩),E J s,.agg #[E J p,E J h,E J k,E J o,F a m c]] w (dI y):=by
 obtain⟨X,hX,ad,ah⟩:=ka00 w [E J p,E J h,E J k,E J o,F a m c] 39;obtain⟨x1,am⟩:=ZF (Yq (p,h,k,o,T));obtain⟨t,ht⟩:=ZF (M5 (p,h,k,o,T));obtain⟨z,hz⟩:=ZF ((Bk.place t K:Int));obtain⟨g,hg⟩:=ZF (T.all (knT K));have C1:=Zd (E7 p h k o a m c T t x1 X (hE.later ad) (hT.later ad) am ht);have C2:=Zd (λU (hu:ZD w U)=>Nu d t K z U (hK.later hu) hz);have C3:=Zd (λU (hu:ZD w U)=>Nz d K a m c T g U (hE.later hu) (hK.later hu) (hT.later hu) sT.len hg)
 have HY:Hid ((decide (x1=0) && (decide (z=s) && g))=y):=by
  show _=_;rw[<-hy];unfold kbD;rw[am,ht,hz];simp only;rw[hg]
 obtain⟨HB,bi⟩:=kh2 ad ah;obtain⟨e0,e1,e2,e3,e4,el⟩:=kc5 ah;clear hE hK hT sT hy ad ah am ht hz hg;go_enter func216,ntmps216;go_wp2_with fail;rw[<-hX];clear hX;(try go_wp2_with fail);refine C1.mono ?_;rintro e w1 ⟨rfl,ab⟩;obtain⟨af,bg,D2⟩:=kh3 (Zf HB ab) ab (C2 w1 (Zf HB ab));clear ab C1 C2 e0 e1 e2 e3 e4 el;by_cases q1:x1=0
 ·subst q1;go_wp2_with fail;refine D2.mono ?_;rintro e w2 ⟨rfl,ac⟩;obtain⟨ay,D3⟩:=kh2 (Zf af ac) (C3 w2 (Zf af ac));have h2:=ZE (Zf bg ac) bi;obtain⟨-,-,-,-,e4,el⟩:=kc5 h2;clear ac D2 C3 h2;by_cases q2:z=s
  ·subst q2;go_wp2_with fail;refine D3.mono ?_;rintro e w3 ⟨rfl,be⟩;have bh:=Zd (Zf ay be);clear be D3;go_wp2;go_ret;exact⟨by rw[<-Za HY];simp,Za bh⟩
  ·have gz:(z == s)=false:=(by simp[q2]);go_wp2;go_ret;exact⟨by rw[<-Za HY];simp[q2],Za ay⟩
 ·have gx:(x1 == 0)=false:=by simp[q1]
  go_wp2;go_ret;exact⟨by rw[<-Za HY];simp[q1],Za af⟩
namespace Tr
open Go.RowKit
def blockE(N:List Int)(T:List Zk)(s:Int):Zk×Int:=
 if chkTr N T≠0 then (Yx,chkTr N T) else if decide (s∈N)=true then (fnd s N T,0) else (Yx,5)
theorem fnd_at{N:List Int}{T:List Zk}{s:Int}(hl:N.length=T.length)(h:s∈N):fnd s N T∈T:=by
 rcases Jv s N T 0 hl with ⟨_,q,_⟩|⟨i,hi,_,_,q⟩
 ·exact absurd h q
 ·rw[q];exact List.getElem_mem hi
def Zme(w w':World)(x:Zk)(y:Int)(e:Ending):Prop:=
 ∃ ta tn tc,e = dF (dG #[.agg #[E J x.1,E J x.2.1,E J x.2.2.1,E J x.2.2.2.1,F ta tn tc],E J y])/\TxsAt w' ta tn x.2.2.2.2/\SlOk ta tn tc/\ZD w w'
theorem Ma{w w':World}{y:Int}(hb:ZD w w'):Zme w w' Yx y (dF (dG #[.agg #[E J 0,E J 0,E J 0,E J 0,F none 0 0],E J y])):=
 ⟨none,0,0,rfl,RowsAt.nil _ _,⟨aF _,aI _,λ_=>⟨rfl,rfl⟩⟩,hb⟩
theorem Ah(W:World)(t:Nat)(a b c d e):Gr W (((((W.setCell ⟨t,0,none⟩ a).setCell ⟨t,1,none⟩ b).setCell ⟨t,2,none⟩ c).setCell ⟨t,3,none⟩ d).setCell ⟨t,4,none⟩ e) (λq=>q=t):=
 (((((Gr.refl W (λq=>q=t)).one t 0 (.inl rfl) _).one t 1 (.inl rfl) _).one t 2 (.inl rfl) _).one t 3 (.inl rfl) _).one t 4 (.inl rfl) _
theorem block_is(a b n c m d N T)(s:Int)(x:Zk)(y:Int)(w)(hN:IntsAt w a n N)(hT:BlksAt w b m T)(sN:SlOk a n c)(sT:SlOk b m d)(hx:blockE N T s=(x,y)) :
  Calls aB 20 #[.agg #[F a n c,F b m d],E J s] w λe w'=>Zme w w' x y e:=by
 obtain⟨X,hX⟩:=ZG ((w.alloc (dE #[F a n c,F b m d] 28)).alloc (dE #[E J 0,E J 0,E J 0,E J 0,F none 0 0] 39));have ae:ZD w X:=by rw[hX];exact Zf (Zh _ _) (Zh _ _)
 have ak:X.heap[w.heap.size]? = some (dE [F a n c,F b m d].toArray 28 (0,0)):=by rw[hX,Below.heap_alloc _ _ _ (by simp)];exact Yu _ _ _ _
 have ax:X.heap[w.heap.size+1]? = some (dE [E J 0,E J 0,E J 0,E J 0,F none 0 0].toArray 39 (0,0)):=by
  rw[hX];have:=Zx (w.alloc (dE #[F a n c,F b m d] 28)) (E J 0) (E J 0) (E J 0) (E J 0) (F none 0 0) 39;rw[show (w.alloc (dE #[F a n c,F b m d] 28)).heap.size=w.heap.size+1 by simp] at this;exact this
 obtain⟨HB,cf,bg⟩:=kh3 ae ak ax;obtain⟨z,hz⟩:=ZF (chkTr N T);have C1:=Zd (Us a b n c m d N T z X (hN.later ae) (hT.later ae) sN sT hz);obtain⟨x0,x1,xl⟩:=kc2 ak;unfold blockE at hx;rw[hz] at hx;by_cases q:z=0
 ·subst q;rw[if_neg (by simp)] at hx;obtain⟨hl,h24,hH,bq⟩:=Wz hz;obtain rfl:n=m:=by rw[<-hN.1,<-hT.1,hl]
  have bb:n<=cK:=sN.len;obtain⟨o,ho⟩:=ZF (decide (s∈N));rw[ho] at hx;have C2:=Zd (λW (hb:ZD X W)=>Fq a b n c n d N s o W bb (hN.later (Zf ae hb)) ho);cases o with
  | false=>
   rw[if_neg (by simp)] at hx;obtain⟨rfl,rfl⟩:Yx=x/\5=y:=⟨congrArg Prod.fst hx,congrArg Prod.snd hx⟩;clear ae ak ax hN hT sN sT hz hx hl h24 hH bq ho bb;go_enter func20,ntmps20;go_wp2_with fail;rw[<-hX];clear hX;refine C1.mono ?_;rintro e w1 ⟨rfl,aa⟩;have CC:=Zd (C2 _ aa);have hc:=ZE aa cf;have am:=ZE aa bg;obtain⟨H0,H1⟩:=kh2 hc am;obtain⟨t0,t1,tl⟩:=kc2 hc;obtain⟨cc,aj⟩:=kh2 aa (Zf HB aa);clear aa x0 x1 xl hc am C1 C2;go_wp2_with fail;refine CC.mono ?_;rintro e w2 ⟨rfl,ad⟩;have hd:=ZE ad H1;obtain⟨z0,z1,z2,z3,z4,f0,f1,f2,f3,f4,zl⟩:=kf5 hd;clear hd;have bf:=Zd (Zf aj ad);clear ad t0 t1 tl;go_wp2;(try simp only[aV,Exit.then]);refine bB (v:=dG #[.agg #[E J 0,E J 0,E J 0,E J 0,F none 0 0],E J 5]) ?_ rfl (Ma ?_)
   ·rw[Zo rfl];go_simp
   ·exact (Ah _ _ _ _ _ _ _).below bf (by omega) (λk hk=>by omega)
  | true=>
   rw[if_pos rfl] at hx;obtain⟨bk,rfl⟩:fnd s N T=x/\0=y:=⟨congrArg Prod.fst hx,congrArg Prod.snd hx⟩;have ct:x∈T:=(by rw[<-bk];exact fnd_at hl (by simpa using ho));have cu:=blk_small (Tn N T [] [] hl bq x ct);have C3:=Zd (λW (hb:ZD X W)=>Ha a b n c d N T s x W bb (hN.later (Zf ae hb)) (hT.later (Zf ae hb)) bk);have ce:=Zd cu;clear ae ak ax hN hT sN sT hz hx hl h24 hH bq ho bb bk ct cu;obtain⟨p,h,k,r,L⟩:=x;go_enter func20,ntmps20;go_wp2_with fail;rw[<-hX];clear hX;refine C1.mono ?_;rintro e w1 ⟨rfl,aa⟩;have CC:=Zd (C2 _ aa);have hc:=ZE aa cf;have am:=ZE aa bg;obtain⟨H0,H1⟩:=kh2 hc am;obtain⟨t0,t1,tl⟩:=kc2 hc;obtain⟨cc,aj⟩:=kh2 aa (Zf HB aa);clear aa x0 x1 xl hc am C1 C2;go_wp2_with fail;refine CC.mono ?_;rintro e w2 ⟨rfl,ad⟩;have C4:=Zd (C3 _ (Zf cc ad));have cn:=ZE ad H0;have hd:=ZE ad H1;have HD:=Zd hd;obtain⟨u0,u1,ul⟩:=kc2 cn;have df:=Zd (Zf aj ad);clear ad cn hd t0 t1 tl CC C3;go_wp2_with fail;refine C4.mono ?_;rintro e w3 ⟨ta,tn,tc,rfl,hL,sL,az⟩;have hL:TxsAt w2 ta tn L:=hL;have C5:=Zd (clBlock_is p h k r ta tn tc L w3 (hL.later az) sL (by rw[<-hL.1];exact ce.1) ce.2);have hd:=ZE az HD;obtain⟨cd,dg,dn⟩:=kh3 hd (Zf df az) hL.1;clear az hd hL sL u0 u1 ul C4;unfold Rn;go_wp2_with fail;refine C5.mono ?_;rintro e w4 ⟨a',c',rfl,hf,bj⟩;have hd:=ZE bj cd;obtain⟨z0,z1,z2,z3,z4,f0,f1,f2,f3,f4,zl⟩:=kf5 hd;clear hd;have hg:=Ah w4 (w.heap.size+1) (E J p) (E J h) (E J k) (E J r) (F a' tn c');have dk:=aA cd
   have HW:=Zd (hf _ (hg.mono λq _ e=>by omega));have bf:Hid (ZD w (((((w4.setCell ⟨w.heap.size+1,0,none⟩ (E J p)).setCell ⟨w.heap.size+1,1,none⟩ (E J h)).setCell ⟨w.heap.size+1,2,none⟩ (E J k)).setCell ⟨w.heap.size+1,3,none⟩ (E J r)).setCell ⟨w.heap.size+1,4,none⟩ (F a' tn c'))):=hg.below (Zf dg bj) (by omega) (λk hk=>by omega);clear bj hf hg dk C5;go_wp2;(try simp only[aV,Exit.then]);refine bB (v:=dG #[.agg #[E J p,E J h,E J k,E J r,F a' tn c'],E J 0]) ?_ rfl ?_
   ·rw[Zo rfl];go_simp
   ·obtain⟨a2,n2,c2,e2,f1,f2⟩:=Za HW;cases e2;exact⟨_,_,_,rfl,f1,f2,Za bf⟩
 ·rw[if_pos q] at hx;obtain⟨rfl,rfl⟩:Yx=x/\z=y:=⟨congrArg Prod.fst hx,congrArg Prod.snd hx⟩;have g:(z != 0)=true:=by simp[q]
  clear ae ak ax hN hT sN sT hz hx q;go_enter func20,ntmps20;go_wp2_with fail;rw[<-hX];clear hX;refine C1.mono ?_;rintro e w1 ⟨rfl,aa⟩;have hd:=ZE aa bg;obtain⟨z0,z1,z2,z3,z4,f0,f1,f2,f3,f4,zl⟩:=kf5 hd;clear hd;have aj:=Zd (Zf HB aa);clear aa x0 x1 xl C1;go_wp2;(try simp only[aV,Exit.then]);refine bB (v:=dG #[.agg #[E J 0,E J 0,E J 0,E J 0,F none 0 0],E J z]) ?_ rfl (Ma ?_)
  ·rw[Zo rfl];go_simp
  ·exact (Ah _ _ _ _ _ _ _).below aj (by omega) (λk hk=>by omega)
