import Derived.Test.YtmomfkikogbdeaaGreatDoorH
import Derived.Test.YtmomfkikogbdeaaGreatDoorG25
open Go.Proofs.Tryz
open Go renaming lt_of_block->aA,bodyPost_ret->bA,maxLen->bP,wp_loop_rounds->cG,rounds_succ->bD
open Go.Ending renaming returned->cY
open Go.IntKind renaming i64->J
open Go.Obj renaming cells->cW
open Go.Proofs.Tryz renaming prog->aB,underlying3->aO
open Go.RowKit renaming Below->aD,intOf->cE
open Go.Value renaming int->E,slice->F,tuple->cZ,pointer->dA,bool->dB
open Go.World renaming block_lt_of_cell?->aF
open List renaming take_succ_eq_append_getElem->aW,take_of_length_le->aL,length_eq_zero_iff->aI
open Nat renaming le_refl->aH,zero_le->aQ
set_option maxHeartbeats 6400000
set_option maxRecDepth 10000
namespace Go.Proofs.YtmomfkikogbdeaaGreatDoor
open Go.RowKit
def D0(lo hi:Nat):Nat->Prop:=λq=>(lo<=q/\q<hi)\/(Value.slice none 0 0).ownBlock=some q
theorem D0.ge{lo hi q:Nat}(h:D0 lo hi q):lo<=q/\q<hi:=by
 rcases h with h|h
 ·exact h
 ·cases h
def DV(lo hi:Nat)(v:Value):Nat->Prop:=λq=>(lo<=q/\q<hi)\/v.ownBlock=some q
theorem DV.dirty{lo hi b p:Nat}{w:World}{v:Value}{K:List (List Value)}{L:List TxD}{z:Nat}(h:St b p w v K L)(Q:hi<=z)(hp:z<=p)(q:Nat)(hq:DV lo hi v q):q≠p/\q<w.heap.size/\(D0 lo hi q\/z<=q):=by
 have:=h.pl
 rcases hq with e|e
 ·exact⟨by omega,by omega,.inl (.inl e)⟩
 ·have:=h.own.lt q e;exact⟨by omega,this.2,.inr (by omega)⟩
def SwI(b b2 lo hi N0:Nat)(C0:List Zj)(p:Nat)(D:Nat->Prop)(w:World)(X:List (TxD×List Zj)):Prop:=
 ∃ z Q K,St b p w (.slice z (X.map (·.1)).length Q) K (X.map (·.1))/\FeI w b2 (Zp C0 - Zp (Yw C0 X))/\N0<=p/\D=DV lo hi (.slice z (X.map (·.1)).length Q)/\0<=Zp C0 - Zp (Yw C0 X)/\(X=[]\/(Zp C0<=1000000000/\Y2 (Yw C0 X)))
theorem Pm{C:List Zj}(h:Y2 C):0<=Zp C:=Wu C (λc z=>by have:=Yy (h.one c z);omega)
theorem Zjs(b z lo hi:Nat)(w0:World)(C0:List Zj)(hb:w0.heap[b]? = some (cW #[F none 0 0] 37 (0,0)))(ak:FeI w0 z 0)(h1:lo<=b/\b<hi)(h2:lo<=z/\z<hi)(ar:b≠z)(ap:hi<=w0.heap.size) :
  Zki 79 #[dA (some ⟨b,0,none⟩),dA (some ⟨z,0,none⟩)] w0 C0 (D0 lo hi) (SwI b z lo hi w0.heap.size C0) where
 enters:=enters_of (fn:=Tryz.f79) (by kernel_rfl) (by kernel_rfl) rfl
 start p w hw hp pl:=⟨none,0,[],St.start ((hw.block b (by omega)).trans hb) (by omega) pl,by
  have:Zp C0 - Zp (Yw C0 [])=0:=by rw[Wj];omega
  unfold FeI;rw[this];exact (hw.block z (by omega)).trans ak,hp,rfl,by rw[Wj];omega,.inl rfl⟩
 dirty p D w X:=by
  rintro ⟨va,vc,K,h,_,hp,rfl,_⟩ q hq;exact DV.dirty h ap hp q hq
 on p D w w' X:=by
  rintro ⟨va,vc,K,h,Q,hp,hD,r⟩ g;exact⟨va,vc,K,h.on g (λq e=>by subst e;exact⟨aH _,by omega⟩),(g.block z (aA Q) (λe=>by have e:z=p:=e;omega)).trans Q,hp,hD,r⟩
 call p D wA w X t C' u0 u1 u2:=by
  rintro ⟨va,vc,K,h,Q,hp,rfl,h0,hr⟩ al hF r1 r2 r3 hl
  have hs:Zp C0<=1000000000:=by
   rcases hr with rfl|hr
   ·rw[Wj] at r1;exact r1.sum
   ·exact hr.1
  have n1:=Pm r1;have n2:=Pm r2;have n3:=r1.sum;refine (Et b z p va vc K (X.map (·.1)) _ u0 u1 u2 t wA w h _ Q ar (by omega) h0 (by omega) (by omega) (by omega) al hF (by rw[List.length_map];exact hl)).mono ?_;rintro e w' ⟨rfl,⟨v',K',hS,am⟩,hg⟩;obtain⟨a,c,rfl,_,_⟩:=hS.txs;have e1:(X++[(t,C')]).map (·.1)=X.map (·.1)++[t]:=by simp
  refine⟨rfl,hg.mono (λq _ e=>?_),DV lo hi (.slice a ((X++[(t,C')]).map (·.1)).length c),a,c,K',?_,?_,hp,rfl,?_,.inr ⟨hs,?_⟩⟩
  ·rcases e with (e|e)|e
   ·subst e;exact .inl h1
   ·subst e;exact .inl h2
   ·exact .inr e
  ·rw[e1];exact hS
  ·rw[Xp];have:Zp C0 - Zp (Yw C0 X)+(Zp (Yw C0 X) - Zp C')=Zp C0 - Zp C':=(by omega);rw[<-this];exact am
  ·rw[Xp];omega
  ·rw[Xp];exact r2
theorem St.reads{b p:Nat}{w w2:World}{z:Option Addr}{vc:Nat}{K:List (List Value)}{L:List TxD}{S:Nat->Prop}(h:St b p w (F z L.length vc) K L)(g:Gr w w2 S)(Q:∀ q,S q->q<=p):TxsAt w2 z L.length L/\SlOk z L.length vc:=by
 have o:=g.own h.own (λk hk e=>by have:=(h.own.lt k hk).1;have:=Q k e;omega);obtain⟨a,c,e,h1,h2⟩:=Tr.rows_of_own Tr.txR o (h.kept w2 (g.mono (λq _ e=>.inl (Q q e)))) rfl;injection e with e1 _ e3;subst e1 e3;exact⟨h1,h2⟩
def Zfp(w w':World)(x:Int)(K:List ByteArray)(L:List TxD)(C:List Zj)(f:Int)(e:Ending):Prop:=
 ∃ ka kn kc sa sn sc z Q cc,e = cY (cZ #[.agg #[F ka kn kc],F sa sn sc,F z Q cc,E J f,E J x]) /\
  Fresh w.heap.size w' (λw2=>Bk.TextsAt w2 ka kn K/\TxsAt w2 sa sn L/\CoinsAt w2 z Q C)/\SlOk ka kn kc/\SlOk sa sn sc/\SlOk z Q cc/\aD w.heap.size w w'
def swF(K:List ByteArray)(C:List Zj)(l:List TxD)(h x:Int):List ByteArray×List TxD×List Zj×Int:=
 if x=0 then ((Z0 h l (K,C)).2.1,(Z0 h l (K,C)).1,(Z0 h l (K,C)).2.2,Zp C - Zp (Z0 h l (K,C)).2.2) else ([],[],[],0)
def Yp(w:World):List Obj->World
 | []=>w
 | o :: r=>Yp (w.alloc o) r
theorem Z4:∀ (os:List Obj) (w:World),(Yp w os).heap.size=w.heap.size+os.length
 | [],_=>rfl
 | o :: r,w=>by rw[Yp,Z4 r,List.length_cons];simp;omega
theorem Zs:∀ (os:List Obj) (w:World),aD w.heap.size w (Yp w os)
 | [],_=>Below.refl _ _
 | o :: r,w=>Zf (Zh w o) (Zs r (w.alloc o))
theorem Zk:∀ (os:List Obj) (w:World) (i:Nat) (o:Obj),os[i]? = some o->(Yp w os).heap[w.heap.size+i]? = some o
 | [],_,_,_,h=>by simp at h
 | o :: r,w,0,x,h=>by
  simp at h;subst h;have h1:(w.alloc o).heap[w.heap.size]? = some o:=heap_alloc_new w o;exact ZE (Zs r (w.alloc o)) h1
 | o :: r,w,i+1,x,h=>by
  have:=Zk r (w.alloc o) i x (by simpa using h);rw[show (w.alloc o).heap.size+i=w.heap.size+(i+1) by simp;omega] at this;exact this
theorem Jk{fn:Func}{p q u v al:Tmp}{ty z Q:TypeId}(h:fn.results=#[.cell p ty,.cell q z,.tmp u,.cell v Q,.tmp al])(tmps:Array Value)(P:Program)(w:World) :
  (results fn tmps).run P w =
   ((asAddr (tmps.getD p undef)).run P w).andThen λa w₁=>((loadVar ty a).run P w₁).andThen λx w₂=>((asAddr (tmps.getD q undef)).run P w₂).andThen λa2 w₃=>((loadVar z a2).run P w₃).andThen λy w₄=>((asAddr (tmps.getD v undef)).run P w₄).andThen λa3 w₅=>((loadVar Q a3).run P w₅).andThen λz3 w₆=>.ok (cZ #[x,y,tmps.getD u undef,z3,tmps.getD al undef]) w₆:=by
 simp only[results,h];simp[Sem.run_bind,Result.andThen]
theorem Kz(ka:Option Addr)(kn kc:Nat)(K:List ByteArray)(la:Option Addr)(ln lc:Nat)(C:List Zj)(a:Option Addr)(m c:Nat)(L:List TxD)(h x:Int)(K':List ByteArray)(Q:List TxD)(C':List Zj)(f:Int)(w:World)
  (hE:Env w) (hK:Bk.TextsAt w ka kn K) (hC:CoinsAt w la ln C) (sC:SlOk la ln lc) (hL:TxsAt w a m L) (hx:swE K C L h=x) (hr:swF K C L h x=(K',Q,C',f)) :
  Calls aB 23 #[.agg #[F ka kn kc],F la ln lc,F a m c,E J h] w λe w'=>Zfp w w' x K' Q C' f e:=by
 obtain⟨X,hX⟩:=ZG (Yp w [cW #[F ka kn kc] 24,cW #[F none 0 0] 24,cW #[F none 0 0] 37,cW #[E J 0] 3]);have ag:aD w.heap.size w X:=by rw[hX];exact Zs _ _
 have bv:X.heap.size=w.heap.size+4:=by rw[hX];exact Z4 _ _
 have x0:X.heap[w.heap.size]? = some (cW #[F ka kn kc] 24 (0,0)):=by rw[hX];exact Zk _ w 0 _ rfl
 have x1:X.heap[w.heap.size+1]? = some (cW #[F none 0 0] 24 (0,0)):=by rw[hX];exact Zk _ w 1 _ rfl
 have x2:X.heap[w.heap.size+2]? = some (cW #[F none 0 0] 37 (0,0)):=by rw[hX];exact Zk _ w 2 _ rfl
 have x3:X.heap[w.heap.size+3]? = some (cW #[E J 0] 3 (0,0)):=by rw[hX];exact Zk _ w 3 _ rfl
 have bu:X=(((w.alloc (cW #[F ka kn kc] 24)).alloc (cW #[F none 0 0] 24)).alloc (cW #[F none 0 0] 37)).alloc (cW #[E J 0] 3):=hX;have bs:=Zjs (w.heap.size+2) (w.heap.size+3) (w.heap.size+2) (w.heap.size+4) X C x2 x3 (by omega) (by omega) (by omega) (by omega);have au:∀ V,Gr X V (D0 (w.heap.size+2) (w.heap.size+4))->aD w.heap.size w V:=λV g=>g.below ag ag.size (λq e=>by have:=e.ge;omega);have C1:=Zd (Kw _ _ _ _ ka kn kc K la ln lc C a m c L h x X bs w au hE hK hC sC hL hx);have cl:=Zd ag;have cp:=Zd bv;have HR:=Zd hr;have cm:=Zd au;have af:=Zd x1;have bj:=Zd x2;have bk:=Zd x3;have t0:=Zb (X:=[F ka kn kc]) x0 0 _ rfl;have tl:=aA x0;clear hE hK hC sC hL hx hr ag bv x0 x1 x2 x3 hX bs au;go_enter func23,ntmps23;go_wp2_with fail;rw[<-bu];clear bu;(try go_wp2_with fail);refine C1.mono ?_;rintro e w1 cx
 rcases cx with ⟨h0,rfl,ab⟩|⟨h0,p,D,rfl,hp,ah,hd,hI⟩
 ·have gx:(x != 0)=true:=by simp[h0]
  have z:=ZE ab af;have y2:=ZE ab bj;have y3:=ZE ab bk;have cz:=Zb (X:=[F none 0 0]) z 0 _ rfl;have bi:=Zb (X:=[F none 0 0]) y2 0 _ rfl;have cf:=Zb (X:=[E J 0]) y3 0 _ rfl;have da:=Zg z 0;have dc:=Zg y2 0;have de:=Zg y3 0;have db:=aA z;have dd:=aA y2;have df:=aA y3
  have cn:Hid (K'=[]/\Q=[]/\C'=[]/\f=0):=by
   have:=Za HR;unfold swF at this;rw[if_neg h0] at this;simp only[Prod.mk.injEq] at this;exact⟨this.1.symm,this.2.1.symm,this.2.2.1.symm,this.2.2.2.symm⟩
  have HB:=Zd (Zf cl ab);clear ab z y2 y3 C1 HR;go_wp2;(try simp only[Exit.inBlock,Exit.then]);refine bA (v:=cZ #[.agg #[F none 0 0],F none 0 0,F none 0 0,E J 0,E J x]) ?_ rfl ?_
  ·rw[Jk rfl];go_simp
  ·obtain⟨rfl,rfl,rfl,rfl⟩:=Za cn;exact⟨_,_,_,_,_,_,_,_,_,rfl,λ_ _=>⟨Bk.TextsAt.nil _ _,RowsAt.nil _ _,RowsAt.nil _ _⟩,Zr,Zr,Zr,(((HB.setCell (p:=⟨w.heap.size+1,0,none⟩) (by simp) _).setCell (p:=⟨w.heap.size+2,0,none⟩) (by simp) _).setCell (p:=⟨w.heap.size+3,0,none⟩) (by simp) _)⟩
 ·obtain⟨va,vc,Kl,hS,hf,_,_,_,_⟩:=hI;obtain⟨ka',kn',kc',aw,az,ay,aj,ar,cd,cc⟩:=hd;have z:=(ah.block _ (aA af) (λe=>by have:=e.ge;omega)).trans af;have cz:=Zb (X:=[F none 0 0]) z 0 _ rfl;have bi:=Zb (X:=[_]) hS.box 0 _ rfl;have cf:=Zb (X:=[_]) hf 0 _ rfl;have p0:=Zb aj 0 _ rfl;have p1:=Zb aj 1 _ rfl;have pl:=aA aj;have da:=Zg z 0;have dc:=Zg hS.box 0;have de:=Zg hf 0;have db:=aA z;have dd:=aA hS.box;have df:=aA hf;subst h0
  have cu:Z0 h L (K,C)=(Q,K',C')/\f=Zp C - Zp C':=by
   have:=Za HR;unfold swF at this;rw[if_pos rfl] at this;simp only[Prod.mk.injEq] at this;obtain⟨r1,r2,r3,r4⟩:=this;exact⟨Prod.ext r2 (Prod.ext r1 r3),by rw[<-r4,r3]⟩
  obtain⟨ak,bx⟩:=cu;have e1:(swT h L (K,C)).map (·.1)=Q:=by rw[Q6,ak]
  have e2:Yw C (swT h L (K,C))=C':=by have:=Pk h L (K,C);rw[ak] at this;exact this
  rw[ak] at ar;rw[e1] at hS bi;rw[e2,<-bx] at hf cf;obtain⟨n,hn⟩:=ZF (Q.length)
  have cg:Hid (∀ W,Gr w1 W (λq=>w.heap.size+1<=q/\q<w.heap.size+4)->Zfp w W 0 K' Q C' f (cY (cZ #[.agg #[F ka' kn' kc'],F va n vc,F aw az ay,E J f,E J 0]))):=λW g=>by
   have dj:=Za cp;have ab:=cm w1 ah;have di:=ah.size;subst hn;refine⟨ka',kn',kc',va,Q.length,vc,aw,az,ay,rfl,λW2 g2=>?_,cd,(hS.reads (Gr.refl w1 (λ_=>False)) (λ_ q=>q.elim)).2,cc,g.below ab ab.size (λq e=>by omega)⟩;have r1:=ar W2 ((g.mono (λq _ e=>by omega)).trans (g2.mono (λq _ e=>by omega)));have r2:=(hS.reads ((g.mono (T:=λq=>q<w.heap.size+4) (λq _ e=>e.2)).trans (g2.mono (λq _ e=>by omega))) (λq e=>by omega)).1;exact⟨r1.1,r2,r1.2⟩
  rw[hn] at bi;clear hS hf ar aj ah ak bx e1 e2 z HR C1 cd cc af bj bk hn;go_wp2_with fail
  go_region
  go_wp2;(try simp only[Exit.inBlock,Exit.then]);refine bA (v:=cZ #[.agg #[F ka' kn' kc'],F va n vc,F aw az ay,E J f,E J 0]) ?_ rfl ?_
  ·rw[Jk rfl];go_simp
  ·exact cg _ ((((Gr.refl w1 (λq=>w.heap.size+1<=q/\q<w.heap.size+4)).one (w.heap.size+1) 0 (.inl (by omega)) _).one (w.heap.size+1+1) 0 (.inl (by omega)) _).one (w.heap.size+1+1+1) 0 (.inl (by omega)) _).draw
open Go.RowKit Go.Maps
def Zii(v:Value):Option (DataW Value×List MemPlace):=some (.held v,[])
abbrev Dl:Value:=F none 0 0
abbrev Zjr(x:Int):Lit:=.int .i64 x
theorem Zih:Keyed aB 3:=int_keyed aO
theorem Zin(w:World):(zeroValue 29).run aB w = .ok (F none 0 0) w:=by kernel_rfl
theorem Zhd{x y:Int}(h:x≠y):Zjr x≠Zjr y:=by
 intro e;injection e with _ e;exact h e
theorem Pd{x:Int}(h : -1000000<=x)(h2:x<=1000000):(Lit.int .i64 x).wf=true:=by simp[Lit.wf,IntKind.min,IntKind.max,IntKind.signed,IntKind.bits];omega
def BMap(bm n:Nat)(f:Int->Value)(w:World):Prop:=∃ D,w.ownsMap aB 3 Zii bm n D/\IsMap D/\∀ x:Int,D.atKey (Zjr x) (.held Dl) = .held (f x)
theorem BMap.heap{bm n:Nat}{f:Int->Value}{w w':World}(h:BMap bm n f w)(hb:w'.heap[bm]? = w.heap[bm]?):BMap bm n f w':=by
 obtain⟨D,⟨Q,z,h1,r⟩,r2⟩:=h;exact⟨D,⟨Q,z,hb.trans h1,r⟩,r2⟩
theorem BMap.lt{bm n:Nat}{f:Int->Value}{w:World}(h:BMap bm n f w):bm<w.heap.size:=by
 obtain⟨D,h1,_⟩:=h;exact h1.lt
theorem BMap.keep{bm n:Nat}{f:Int->Value}{w w':World}(h:BMap bm n f w)(z:aD w.heap.size w w'):BMap bm n f w':=h.heap (z.block bm h.lt)
theorem BMap.gr{bm n:Nat}{f:Int->Value}{w w':World}{S:Nat->Prop}(h:BMap bm n f w)(g:Gr w w' S)(z:¬S bm):BMap bm n f w':=h.heap (g.block bm h.lt z)
theorem BMap.isMap{bm n:Nat}{f:Int->Value}{w:World}(h:BMap bm n f w):∃ Q z,w.heap[bm]? = some (.map Q z):=by
 obtain⟨D,⟨Q,z,h1,r⟩,r2⟩:=h;exact⟨Q,z,h1⟩
theorem BMap.made(w:World):BMap w.heap.size 0 (λ_=>Dl) (w.alloc (.map #[] 0)):=
 ⟨.map [],World.ownsMap_made w aB 3 Zii,⟨_,rfl⟩,λ_=>rfl⟩
theorem BMap.look{bm n:Nat}{f:Int->Value}{w:World}(h:BMap bm n f w)(x:Int)(hx:(Lit.int .i64 x).wf=true):(Instr.lookup 252 (.map (some bm)) (.int .i64 x) false).run aB w = .ok (f x) w:=by
 obtain⟨D,h1,_,h3⟩:=h;obtain⟨v,ps,z,Q⟩:=h1.lookup Zih underlying252 (Zin w) (zd:=.held Dl) (zp:=[]) rfl (keyOf_int_mk aO hx);rw[h3] at Q;have aa:v=f x:=DataW.held.inj (Prod.mk.inj (Option.some.inj Q)).1;rw[aa] at z;exact z
theorem BMap.drew_look{bm n:Nat}{f:Int->Value}{w:World}(h:BMap bm n f w)(x:Int)(hx:(Lit.int .i64 x).wf=true):(Instr.lookup 252 (.map (some bm)) (.int .i64 x) false).run aB w.drew = .ok (f x) w.drew:=BMap.look (w:=w.drew) (h.heap rfl) x hx
theorem BMap.put{bm n:Nat}{f:Int->Value}{w:World}(h:BMap bm n f w)(hn:n<1000000)(x:Int)(hx:(Lit.int .i64 x).wf=true)(v:Value) :
  ∃ w',(Instr.mapUpdate 252 (.map (some bm)) (.int .i64 x) v).run aB w = .ok () w'/\BMap bm (n+1) (λy=>if y=x then v else f y) w'/\w.grownBy w' (some bm):=by
 obtain⟨D,h1,h2,h3⟩:=h;obtain⟨w',z,Q,r2⟩:=h1.update Zih underlying252 (by unfold bP;omega) (keyOf_int_mk aO hx) (val:=v) (d:=.held v) (ps:=[]) rfl;refine⟨w',z,⟨_,Q,?_,λy=>?_⟩,r2⟩
 ·obtain⟨es,rfl⟩:=h2;exact⟨_,rfl⟩
 ·by_cases e:y=x
  ·subst e;rw[atKey_put_same h2 (by simp[WideAt.IsKeyLit])];show _=DataW.held (if y=y then v else f y);rw[if_pos rfl]
  ·rw[atKey_put_other (Zhd e),h3];show _=DataW.held (if y=x then v else f y);rw[if_neg e]
theorem Uq(w:World)(n:Nat):aD w.heap.size w (w.drewN n):=⟨rfl,rfl,rfl,aH _,λ_ _=>rfl⟩
theorem Ue{α : Type}{l k:List α}{j:Nat}(h1:j<l.length)(h2:j<k.length)(h:l.take j=k.take j)(e:l[j]=k[j]):l.take (j+1)=k.take (j+1):=by
 rw[aW h1,aW h2,h,e]
theorem Wt{α : Type}{l k:List α}{j:Nat}(h1:j<l.length)(h2:j<k.length)(e:l[j]≠k[j]):l≠k:=λh=>by
 subst h;exact e rfl
theorem Bn(b1 o1 b2 o2 n c d:Nat)(l k:List (Int×Int))(o:Bool)(w:World)(hn:n<=bP)(z1:l.length=n)(z2:k.length=n)
  (h1:∀ i,i<n->w.cell? ⟨b1,o1+i*2,none⟩=some (E J (l.getD i (0,0)).1)/\w.cell? ⟨b1,o1+i*2+1,none⟩=some (E J (l.getD i (0,0)).2))
  (h2:∀ i,i<n->w.cell? ⟨b2,o2+i*2,none⟩=some (E J (k.getD i (0,0)).1)/\w.cell? ⟨b2,o2+i*2+1,none⟩=some (E J (k.getD i (0,0)).2)) (ho:decide (l=k)=o) :
  Calls aB 94 #[F (some ⟨b1,o1,none⟩) n c,F (some ⟨b2,o2,none⟩) n d] w λe w'=>e = cY (dB o)/\∃ m,w'=w.drewN m:=by
 subst ho;unfold bP at hn;have H1:=Zd h1;have H2:=Zd h2;have Z1:=Zd z1;have Z2:=Zd z2;clear h1 h2 z1 z2;go_enter func94,ntmps94;go_wp2
 go_loopw [13] (λi wr=>∃ j m:Nat,j<=n/\i = E J j/\wr=w.drewN m/\Hid (l.take j=k.take j)) (λi _=>n - (cE i).toNat)
 case atStart=>exact⟨0,0,aQ _,rfl,rfl,rfl⟩
 case round=>
  obtain⟨j,m,hk,rfl,rfl,A⟩:=hrel;by_cases aa:j<n
  ·have ae:j<l.length:=(by rw[Za Z1];exact aa);have af:j<k.length:=(by rw[Za Z2];exact aa);obtain⟨g1,g2⟩:=H1 j aa;obtain⟨g3,g4⟩:=H2 j aa;have e1:l.getD j (0,0)=l[j]:=(by simp[ae]);have e2:k.getD j (0,0)=k[j]:=(by simp[af]);rw[e1] at g1 g2;rw[e2] at g3 g4;have Q:=Zd (Ue ae af A);have z:=Zd (Wt ae af);obtain⟨q,hq⟩:=ZF (l[j]);obtain⟨r,hr⟩:=ZF (k[j]);rw[hq] at g1 g2;rw[hr] at g3 g4;rw[hq,hr] at Q z;obtain⟨q1,q2⟩:=q;obtain⟨r1,r2⟩:=r;simp only at g1 g2 g3 g4;clear hq hr e1 e2 A;by_cases he:q1=r1
   ·subst he;by_cases hf:q2=r2
    ·subst hf;have T:=Zd (Q rfl);clear Q z;go_wp2
     go_quiet (fail)
     go_wp2;go_roundw
     case rel=>exact⟨j+1,m+nq,by omega,by go_num,rfl,T⟩
     case measure=>simp[cE];omega
    ·have U:Hid (decide (l=k)=false):=decide_eq_false (z (λe=>hf (by injection e)));clear Q z;go_wp2
     go_quiet (fail)
     go_wp2;go_ret;exact⟨by rw[Za U];rfl,m+nq,by simp[World.drewN,Nat.add_assoc]⟩
   ·have U:Hid (decide (l=k)=false):=decide_eq_false (z (λe=>he (by injection e)));clear Q z;go_wp2
    go_quiet (fail)
    go_wp2;go_ret;exact⟨by rw[Za U];rfl,m+nq,by simp[World.drewN,Nat.add_assoc]⟩
  ·have U:Hid (decide (l=k)=true):=by
    have h:=Za A;rw[aL (by rw[Za Z1];omega),aL (by rw[Za Z2];omega)] at h;exact decide_eq_true h
   clear A;go_wp2;go_ret;exact⟨by rw[Za U];rfl,m,rfl⟩
theorem Bp(a b:Option Addr)(n m c d:Nat)(w:World)(h:n≠m) :
  Calls aB 94 #[F a n c,F b m d] w λe w'=>e = cY (dB false)/\w=w':=by
 have g:((n:Int) != (m:Int))=true:=by simp;omega
 clear h;go_enter func94,ntmps94;go_wp2;go_ret;exact⟨rfl,rfl⟩
theorem Bo(a b:Option Addr)(c d:Nat)(w:World) :
  Calls aB 94 #[F a 0 c,F b 0 d] w λe w'=>e = cY (dB true)/\w=w':=by
 go_enter func94,ntmps94;go_wp2;refine cG 1 ?_;rw[bD];go_wp2;go_ret;exact⟨rfl,rfl⟩
theorem D8(a b:Option Addr)(n m c d:Nat)(l k:List (Int×Int))(o:Bool)(w:World)(hn:n<=bP)(Q:OpsAt w a n l)(hB:OpsAt w b m k)(z:decide (l=k)=o) :
  ZH 94 #[F a n c,F b m d] w (dB o):=by
 by_cases h:n=m
 ·subst h;by_cases h0:n=0
  ·subst h0;have e1:l=[]:=aI.1 Q.1;have e2:k=[]:=aI.1 hB.1;subst e1 e2;rw[decide_eq_true rfl] at z;subst z;exact (Bo a b c d w).mono λe w' ⟨h1,h2⟩=>⟨h1,h2 ▸ Below.refl _ _⟩
  ·obtain⟨b1,o1,rfl,h1⟩:=Q.2 (by omega);obtain⟨b2,o2,rfl,h2⟩:=hB.2 (by omega);exact (Bn b1 o1 b2 o2 n c d l k o w hn Q.1 hB.1 h1 h2 z).mono λe w' ⟨e1,q,e2⟩=>⟨e1,by rw[e2];exact Uq w q⟩
 ·have e:l≠k:=λe=>h (by rw[<-Q.1,<-hB.1,e]);rw[decide_eq_false e] at z;subst z;exact (Bp a b n m c d w h).mono λe w' ⟨h1,h2⟩=>⟨h1,h2 ▸ Below.refl _ _⟩
theorem Ey(x y:InD)(a b:Option Addr)(n c m d:Nat)(o:Bool)(w:World)(hn:n<=bP)(hA:OpsAt w a n x.2.2)(hB:OpsAt w b m y.2.2)(Q:decide (x=y)=o) :
  ZH 93 #[.agg #[E J x.1,E J x.2.1,F a n c],.agg #[E J y.1,E J y.2.1,F b m d]] w (dB o):=by
 obtain⟨x1,x2,k⟩:=x;obtain⟨y1,y2,l⟩:=y;simp only at hA hB ⊢;have z:=Zf (Zh w (cW #[E J x1,E J x2,F a n c] 119)) (Zh _ (cW #[E J y1,E J y2,F b m d] 119));have HB:=Zd z;by_cases h1:x1=y1
 ·subst h1;by_cases h2:x2=y2
  ·subst h2;have C:=Zd (D8 a b n m c d k l o _ hn (hA.later z) (hB.later z) (by rw[<-Q];simp));clear hA hB z Q;go_enter func93,ntmps93;go_wp2_with fail;refine C.mono ?_;rintro e w2 ⟨rfl,ac⟩;have ah:=Zd (Zf HB ac);clear ac;go_wp2;go_ret;exact⟨rfl,Za ah⟩
  ·have e:o=false:=(by rw[<-Q];exact decide_eq_false (λe=>h2 (by injection e with _ e;injection e)));subst e;clear hA hB z Q;go_enter func93,ntmps93;go_wp2;go_ret;exact⟨rfl,Za HB⟩
 ·have e:o=false:=by rw[<-Q];exact decide_eq_false (λe=>h1 (by injection e))
  subst e;clear hA hB z Q;go_enter func93,ntmps93;go_wp2;go_ret;exact⟨rfl,Za HB⟩
theorem Ai(x y:Z5)(a b:Option Addr)(n c m d:Nat)(o:Bool)(w:World)(hn:n<=bP)(Q:OpsAt w a n x.2)(hB:OpsAt w b m y.2)(ho:decide (x=y)=o) :
  ZH 97 #[.agg #[E J x.1,F a n c],.agg #[E J y.1,F b m d]] w (dB o):=by
 obtain⟨x1,k⟩:=x;obtain⟨y1,l⟩:=y;simp only at Q hB ⊢;have z:=Zf (Zh w (cW #[E J x1,F a n c] 122)) (Zh _ (cW #[E J y1,F b m d] 122));have HB:=Zd z;by_cases h1:x1=y1
 ·subst h1;have C:=Zd (D8 a b n m c d k l o _ hn (Q.later z) (hB.later z) (by rw[<-ho];simp));clear Q hB z ho;go_enter func97,ntmps97;go_wp2_with fail;refine C.mono ?_;rintro e w2 ⟨rfl,ae⟩;have af:=Zd (Zf HB ae);clear ae;go_wp2;go_ret;exact⟨rfl,Za af⟩
 ·have e:o=false:=by rw[<-ho];exact decide_eq_false (λe=>h1 (by injection e))
  have g:(x1 == y1)=false:=by simp[h1]
  subst e;clear Q hB z ho;go_enter func97,ntmps97;go_wp2;go_ret;exact⟨rfl,Za HB⟩
theorem Br(b1 o1 b2 o2 n c d:Nat)(l k:List InD)(o:Bool)(w:World)(hn:n<=bP)(z1:l.length=n)(z2:k.length=n)
  (h1:∀ i (h:i<l.length),InAt w b1 (o1+i*3) l[i]) (h2:∀ i (h:i<k.length),InAt w b2 (o2+i*3) k[i]) (ho:decide (l=k)=o) :
  ZH 95 #[F (some ⟨b1,o1,none⟩) n c,F (some ⟨b2,o2,none⟩) n d,.func (.func 93) #[] #[]] w (dB o):=by
 subst ho;unfold bP at hn;have H1:=Zd h1;have H2:=Zd h2;have Z1:=Zd z1;have Z2:=Zd z2;clear h1 h2 z1 z2;go_enter func95,ntmps95;go_wp2
 go_loopw [17] (λi wr=>∃ j:Nat,j<=n/\i = E J j/\aD w.heap.size w wr/\Hid (l.take j=k.take j)) (λi _=>n - (cE i).toNat)
 case atStart=>exact⟨0,aQ _,rfl,Below.refl _ _,rfl⟩
 case round=>
  obtain⟨j,hk,rfl,hb,A⟩:=hrel;have HB:=Zd hb;by_cases bj:j<n
  ·have aw:j<l.length:=(by rw[Za Z1];exact bj);have ax:j<k.length:=(by rw[Za Z2];exact bj);have g:=InAt.kept _ _ _ _ _ hb (H1 j aw);have f:=InAt.kept _ _ _ _ _ hb (H2 j ax);have TS:=Zd (Ue aw ax A);have TU:=Zd (Wt aw ax);obtain⟨q,hq⟩:=ZF (l[j]);obtain⟨r,hr⟩:=ZF (k[j]);rw[hq] at g;rw[hr] at f;rw[hq,hr] at TS TU;obtain⟨g1,g2,qa,qn,qc,g3,g4,g5⟩:=g;obtain⟨f1,f2,ra,rn,rc,f3,f4,_⟩:=f;obtain⟨Q,q2,qk⟩:=q;obtain⟨r1,r2,rk⟩:=r;simp only at g1 g2 g3 g4 f1 f2 f3 f4;have cb:b2<wr.heap.size:=aF _ _ f1;have ah:=Zf (Zh wr (cW #[E J Q,E J q2,F qa qn qc] 119)) (Zh _ (cW #[E J r1,E J r2,F ra rn rc] 119));have be:=Zd ah
   have C:Hid (∀ o,decide (((Q,q2,qk):InD)=(r1,r2,rk))=o->Calls aB 93 #[.agg #[E J Q,E J q2,F qa qn qc],.agg #[E J r1,E J r2,F ra rn rc]] ((wr.alloc (cW #[E J Q,E J q2,F qa qn qc] 119)).alloc (cW #[E J r1,E J r2,F ra rn rc] 119)) λe w'=>e = cY (dB o)/\aD _ _ w'):=
    λo ho=>Ey (Q,q2,qk) (r1,r2,rk) qa ra qn qc rn rc o _ g5.len (g4.later ah) (f4.later ah) ho
   clear hq hr A g4 f4 g5 hb ah;by_cases z:((Q,q2,qk):InD)=(r1,r2,rk)
   ·have T:=Zd (TS z);have C2:=Zd (C true (decide_eq_true z));clear TS TU C z;go_wp2_with fail;refine C2.mono ?_;rintro e w3 ⟨rfl,ae⟩;have aq:=Zd (Zf (Zf HB be) ae);clear ae;go_wp2;go_roundw
    case rel=>exact⟨j+1,by omega,by go_num,Za aq,T⟩
    case measure=>simp[cE];omega
   ·have U:Hid (decide (l=k)=false):=decide_eq_false (TU z);have C2:=Zd (C false (decide_eq_false z));clear TS TU C z;go_wp2_with fail;refine C2.mono ?_;rintro e w3 ⟨rfl,ae⟩;have aq:=Zd (Zf (Zf HB be) ae);clear ae;go_wp2;go_ret;exact⟨by rw[Za U];rfl,Za aq⟩
  ·have U:Hid (decide (l=k)=true):=by
    have h:=Za A;rw[aL (by rw[Za Z1];omega),aL (by rw[Za Z2];omega)] at h;exact decide_eq_true h
   clear A hb;go_wp2;go_ret;exact⟨by rw[Za U];rfl,Za HB⟩
theorem Dy(b1 o1 b2 o2 n c d:Nat)(l k:List Z5)(o:Bool)(w:World)(hn:n<=bP)(z1:l.length=n)(z2:k.length=n)
  (h1:∀ i (h:i<l.length),OutAt w b1 (o1+i*2) l[i]) (h2:∀ i (h:i<k.length),OutAt w b2 (o2+i*2) k[i]) (ho:decide (l=k)=o) :
  ZH 96 #[F (some ⟨b1,o1,none⟩) n c,F (some ⟨b2,o2,none⟩) n d,.func (.func 97) #[] #[]] w (dB o):=by
 subst ho;unfold bP at hn;have H1:=Zd h1;have H2:=Zd h2;have Z1:=Zd z1;have Z2:=Zd z2;clear h1 h2 z1 z2;go_enter func96,ntmps96;go_wp2
 go_loopw [17] (λi wr=>∃ j:Nat,j<=n/\i = E J j/\aD w.heap.size w wr/\Hid (l.take j=k.take j)) (λi _=>n - (cE i).toNat)
 case atStart=>exact⟨0,aQ _,rfl,Below.refl _ _,rfl⟩
 case round=>
  obtain⟨j,hk,rfl,hb,A⟩:=hrel;have HB:=Zd hb;by_cases bh:j<n
  ·have au:j<l.length:=(by rw[Za Z1];exact bh);have av:j<k.length:=(by rw[Za Z2];exact bh);have g:=OutAt.kept _ _ _ _ _ hb (H1 j au);have f:=OutAt.kept _ _ _ _ _ hb (H2 j av);have TS:=Zd (Ue au av A);have TU:=Zd (Wt au av);obtain⟨q,hq⟩:=ZF (l[j]);obtain⟨r,hr⟩:=ZF (k[j]);rw[hq] at g;rw[hr] at f;rw[hq,hr] at TS TU;obtain⟨g1,qa,qn,qc,g3,g4,g5⟩:=g;obtain⟨f1,ra,rn,rc,f3,f4,_⟩:=f;obtain⟨Q,qk⟩:=q;obtain⟨r1,rk⟩:=r;simp only at g1 g3 g4 f1 f3 f4;have bx:b2<wr.heap.size:=aF _ _ f1;have af:=Zf (Zh wr (cW #[E J Q,F qa qn qc] 122)) (Zh _ (cW #[E J r1,F ra rn rc] 122));have bb:=Zd af
   have C:Hid (∀ o,decide (((Q,qk):Z5)=(r1,rk))=o->Calls aB 97 #[.agg #[E J Q,F qa qn qc],.agg #[E J r1,F ra rn rc]] ((wr.alloc (cW #[E J Q,F qa qn qc] 122)).alloc (cW #[E J r1,F ra rn rc] 122)) λe w'=>e = cY (dB o)/\aD _ _ w'):=
    λo ho=>Ai (Q,qk) (r1,rk) qa ra qn qc rn rc o _ g5.len (g4.later af) (f4.later af) ho
   clear hq hr A g4 f4 g5 hb af;by_cases z:((Q,qk):Z5)=(r1,rk)
   ·have T:=Zd (TS z);have C2:=Zd (C true (decide_eq_true z));clear TS TU C z;go_wp2_with fail;refine C2.mono ?_;rintro e w3 ⟨rfl,ac⟩;have an:=Zd (Zf (Zf HB bb) ac);clear ac;go_wp2;go_roundw
    case rel=>exact⟨j+1,by omega,by go_num,Za an,T⟩
    case measure=>simp[cE];omega
   ·have U:Hid (decide (l=k)=false):=decide_eq_false (TU z);have C2:=Zd (C false (decide_eq_false z));clear TS TU C z;go_wp2_with fail;refine C2.mono ?_;rintro e w3 ⟨rfl,ac⟩;have an:=Zd (Zf (Zf HB bb) ac);clear ac;go_wp2;go_ret;exact⟨by rw[Za U];rfl,Za an⟩
  ·have U:Hid (decide (l=k)=true):=by
    have h:=Za A;rw[aL (by rw[Za Z1];omega),aL (by rw[Za Z2];omega)] at h;exact decide_eq_true h
   clear A hb;go_wp2;go_ret;exact⟨by rw[Za U];rfl,Za HB⟩
theorem Bt(a b:Option Addr)(n m c d:Nat)(v:Value)(w:World)(h:n≠m) :
  Calls aB 95 #[F a n c,F b m d,v] w λe w'=>e = cY (dB false)/\w=w':=by
 have g:((n:Int) != (m:Int))=true:=by simp;omega
 clear h;go_enter func95,ntmps95;go_wp2;go_ret;exact⟨rfl,rfl⟩
theorem Bs(a b:Option Addr)(c d:Nat)(v:Value)(w:World) :
  Calls aB 95 #[F a 0 c,F b 0 d,v] w λe w'=>e = cY (dB true)/\w=w':=by
 go_enter func95,ntmps95;go_wp2;refine cG 1 ?_;rw[bD];go_wp2;go_ret;exact⟨rfl,rfl⟩
theorem Fa(a b:Option Addr)(n m c d:Nat)(l k:List InD)(o:Bool)(w:World)(hn:n<=bP)(Q:InsAt w a n l)(hB:InsAt w b m k)(z:decide (l=k)=o) :
  ZH 95 #[F a n c,F b m d,.func (.func 93) #[] #[]] w (dB o):=by
 by_cases h:n=m
 ·subst h;by_cases h0:n=0
  ·subst h0;have e1:l=[]:=aI.1 Q.1;have e2:k=[]:=aI.1 hB.1;subst e1 e2;rw[decide_eq_true rfl] at z;subst z;exact (Bs a b c d _ w).mono λe w' ⟨h1,h2⟩=>⟨h1,h2 ▸ Below.refl _ _⟩
  ·obtain⟨b1,o1,rfl,_,h1⟩:=Q.2 (by omega);obtain⟨b2,o2,rfl,_,h2⟩:=hB.2 (by omega);exact Br b1 o1 b2 o2 n c d l k o w hn Q.1 hB.1 h1 h2 z
 ·have e:l≠k:=λe=>h (by rw[<-Q.1,<-hB.1,e]);rw[decide_eq_false e] at z;subst z;exact (Bt a b n m c d _ w h).mono λe w' ⟨h1,h2⟩=>⟨h1,h2 ▸ Below.refl _ _⟩
theorem D7(a b:Option Addr)(n m c d:Nat)(v:Value)(w:World)(h:n≠m) :
  Calls aB 96 #[F a n c,F b m d,v] w λe w'=>e = cY (dB false)/\w=w':=by
 have g:((n:Int) != (m:Int))=true:=by simp;omega
 clear h;go_enter func96,ntmps96;go_wp2;go_ret;exact⟨rfl,rfl⟩
theorem Dz(a b:Option Addr)(c d:Nat)(v:Value)(w:World) :
  Calls aB 96 #[F a 0 c,F b 0 d,v] w λe w'=>e = cY (dB true)/\w=w':=by
 go_enter func96,ntmps96;go_wp2;refine cG 1 ?_;rw[bD];go_wp2;go_ret;exact⟨rfl,rfl⟩
theorem Zbf(a b:Option Addr)(n m c d:Nat)(l k:List Z5)(o:Bool)(w:World)(hn:n<=bP)(Q:OutsAt w a n l)(hB:OutsAt w b m k)(z:decide (l=k)=o) :
  ZH 96 #[F a n c,F b m d,.func (.func 97) #[] #[]] w (dB o):=by
 by_cases h:n=m
 ·subst h;by_cases h0:n=0
  ·subst h0;have e1:l=[]:=aI.1 Q.1;have e2:k=[]:=aI.1 hB.1;subst e1 e2;rw[decide_eq_true rfl] at z;subst z;exact (Dz a b c d _ w).mono λe w' ⟨h1,h2⟩=>⟨h1,h2 ▸ Below.refl _ _⟩
  ·obtain⟨b1,o1,rfl,_,h1⟩:=Q.2 (by omega);obtain⟨b2,o2,rfl,_,h2⟩:=hB.2 (by omega);exact Dy b1 o1 b2 o2 n c d l k o w hn Q.1 hB.1 h1 h2 z
 ·have e:l≠k:=λe=>h (by rw[<-Q.1,<-hB.1,e]);rw[decide_eq_false e] at z;subst z;exact (D7 a b n m c d _ w h).mono λe w' ⟨h1,h2⟩=>⟨h1,h2 ▸ Below.refl _ _⟩
theorem Ek(h h':Int)(ai ao Q bo:Option Addr)(ni ci no co mi di mo eo:Nat)(I I':List InD)(O O':List Z5)(o:Bool)(w:World)(li:ni<=bP)(lo:no<=bP)
  (hI:InsAt w ai ni I) (hO:OutsAt w ao no O) (au:InsAt w Q mi I') (aw:OutsAt w bo mo O') (ho:T5 (h,I,O) (h',I',O')=o) :
  ZH 30 #[.agg #[E J h,F ai ni ci,F ao no co],.agg #[E J h',F Q mi di,F bo mo eo]] w (dB o):=by
 have ax:=Zh w (cW #[E J h,F ai ni ci,F ao no co] 59);have z:=Zh (w.alloc (cW #[E J h,F ai ni ci,F ao no co] 59)) (cW #[E J h',F Q mi di,F bo mo eo] 59);have hb:=Zf ax z;have HB:=Zd hb;have M2:=Zd (Ze z (Ud w (E J h) (F ai ni ci) (F ao no co) 59).2.2);have N2:=Zd (Ud (w.alloc (cW #[E J h,F ai ni ci,F ao no co] 59)) (E J h') (F Q mi di) (F bo mo eo) 59).2.2;have HI:=Zd (hI.later hb);have HO:=Zd (hO.later hb);have ap:=Zd (au.later hb);have bh:=Zd (aw.later hb);have LI:=Zd li;have LO:=Zd lo;clear hI hO au aw hb ax z li lo;by_cases h1:h=h'
 ·subst h1;by_cases h2:I=I'
  ·have az:decide (O=O')=o:=(by rw[<-ho];unfold T5;simp[h2]);have CI:=Zd (Fa ai Q ni mi ci di I I' true _ LI HI ap (decide_eq_true h2));have HQ:=Zd az;clear ho az h2;go_enter func30,ntmps30;go_wp2_with fail;refine CI.mono ?_;rintro e w2 ⟨rfl,z⟩;have m2:=Ze z M2;have n2:=Ze z N2;rw[show (w.alloc (cW #[E J h,F ai ni ci,F ao no co] 59)).heap.size=w.heap.size+1 by simp] at n2;have s2:w.heap.size+1<w2.heap.size:=aF _ _ n2;have s1:w.heap.size<w2.heap.size:=(by omega);have CO:=Zd (Zbf ao bo no mo co eo O O' o w2 LO (HO.later z) (bh.later z) HQ);have am:=Zd (Zf HB z);clear z;go_wp2_with fail;refine CO.mono ?_;rintro e w3 ⟨rfl,ay⟩;have bf:=Zd (Zf am ay);clear ay;go_wp2;go_ret;exact⟨rfl,Za bf⟩
  ·have e:o=false:=(by rw[<-ho];unfold T5;simp[h2]);subst e;have CI:=Zd (Fa ai Q ni mi ci di I I' false _ LI HI ap (decide_eq_false h2));clear ho h2;go_enter func30,ntmps30;go_wp2_with fail;refine CI.mono ?_;rintro e w2 ⟨rfl,z⟩;have am:=Zd (Zf HB z);clear z;go_wp2;go_ret;exact⟨rfl,Za am⟩
 ·have e:o=false:=by rw[<-ho];unfold T5;simp[h1]
  subst e;have g:(h == h')=false:=by simp[h1]
  clear ho;go_enter func30,ntmps30;go_wp2;go_ret;exact⟨rfl,Za HB⟩
def Jg(g:TxD->Bool):List TxD->Nat->Int
 | [],_=>-1
 | t :: r,k=>if g t=true then k else Jg g r (k+1)
theorem Zho(g:TxD->Bool)(L:List TxD)(k:Nat)(h:k<L.length):Jg g (L.drop k) k=if g L[k]=true then (k:Int) else Jg g (L.drop (k+1)) (k+1):=by
 rw[List.drop_eq_getElem_cons h,Jg]
theorem Dw(g:TxD->Bool):∀ (L:List TxD) (k:Nat),decide (0<=Jg g L k)=L.any g
 | [],_=>by simp[Jg]
 | t :: r,k=>by
  rw[Jg,List.any_cons];by_cases h:g t=true
  ·rw[if_pos h,h];simp
  ·have h':g t=false:=(by simpa using h);rw[if_neg h,Dw g r,h',Bool.false_or]
structure Cj(f:Nat)(caps:Array Value)(W0:World)(g:TxD->Bool):Prop where
 enters:∀ args w,(callFunc f args).run aB w = .ok (.enter f args) w
 call:∀ w,aD W0.heap.size W0 w->∀ (th:Int) (ai ao:Option Addr) (ni ci no co:Nat) (I:List InD) (O:List Z5),InsAt w ai ni I->OutsAt w ao no O->SlOk ai ni ci->SlOk ao no co ->
  Calls aB f (#[.agg #[E J th,F ai ni ci,F ao no co]]++caps) w λe w'=>e = cY (dB (g (th,I,O)))/\aD w.heap.size w w'
theorem Bb(f:Nat)(caps:Array Value)(g:TxD->Bool)(a:Option Addr)(n c:Nat)(L:List TxD)(w:World)(hT:Cj f caps w g)(hL:TxsAt w a n L)(hn:n<=bP) :
  ZH 156 #[F a n c,.func (.func f) #[] caps] w (E J (Jg g L 0)):=by
 have HT:=Zd hT;have HL:=Zd hL;have HZ:=Zd hL.1;have bd:n<=9223372036854775807:=hn;clear hT hL hn;go_enter func156,ntmps156;go_wp2
 go_loopw [5,8] (λ_ i wr=>∃ k:Nat,k<=n/\i = E J k/\Hid (Jg g L 0=Jg g (L.drop k) k)/\aD w.heap.size w wr) (λ_ i _=>n - (cE i).toNat)
 case atStart=>exact⟨0,aQ _,rfl,rfl,Below.refl _ _⟩
 case round=>
  obtain⟨k,hk,rfl,A,z⟩:=hrel;have HB:=Zd z;by_cases ay:k<n
  ·have am:k<L.length:=(by rw[Za HZ];exact ay);obtain⟨b,off,rfl,al,ap⟩:=HL.2 (by omega);obtain⟨c0,⟨ai,ni,ci,c1,ae,ar⟩,ao,no,co,c2,ag,au⟩:=ap k am;have c0:=Ze z c0;have c1:=Ze z c1;have c2:=Ze z c2;have al:b<wr.heap.size:=Nat.lt_of_lt_of_le al z.size;have S:=Zd (Zho g L k am);obtain⟨t,ht⟩:=ZF (L[k]);rw[ht] at c0 ae ag S;obtain⟨th,tI,tO⟩:=t;have Q:=Zd (HT.call wr z th ai ao ni ci no co tI tO (ae.later z) (ag.later z) ar au);have eg:=HT.enters;simp only at c0;clear ae ag ar au ht ap z;cases hg:g (th,tI,tO) with
   | true=>
    rw[hg] at Q S;have S2:Hid (Jg g L 0=k):=(by show _=_;rw[Za A,Za S,if_pos rfl]);clear S A hg;go_wp2_with fail;refine Q.mono ?_;rintro e w2 ⟨rfl,ab⟩;have ad:=Zd (Zf HB ab);clear ab Q;go_wp2;go_ret;exact⟨by rw[Za S2];rfl,Za ad⟩
   | false=>
    rw[hg] at Q S;have S2:Hid (Jg g L 0=Jg g (L.drop (k+1)) (k+1)):=(by show _=_;rw[Za A,Za S,if_neg (by decide)]);clear S A hg;go_wp2_with fail;refine Q.mono ?_;rintro e w2 ⟨rfl,ab⟩;have ad:=Zd (Zf HB ab);clear ab Q;go_wp2;go_roundw
    case rel=>exact⟨k+1,by omega,by go_num,S2,Za ad⟩
    case measure=>simp[cE];omega
  ·have S2:Hid (Jg g L 0 = -1):=by
    show _=_;rw[Za A,List.drop_of_length_le (by rw[Za HZ];omega)];rfl
   clear A z;go_wp2;go_ret;exact⟨by rw[Za S2];rfl,Za HB⟩
theorem Hv(f:Nat)(caps:Array Value)(g:TxD->Bool)(a:Option Addr)(n c:Nat)(L:List TxD)(o:Bool)(w:World)(hT:Cj f caps w g)(Q:TxsAt w a n L)(hn:n<=bP)(ho:L.any g=o) :
  ZH 89 #[F a n c,.func (.func f) #[] caps] w (dB o):=by
 have C1:=Zd (Bb f caps g a n c L w hT Q hn);have z:Hid (decide (0<=Jg g L 0)=o):=by show _=_;rw[Dw];exact ho
 obtain⟨i,hi⟩:=ZF (Jg g L 0);rw[hi] at C1 z;clear hT Q hn ho hi;go_enter func89,ntmps89;go_wp2_with fail;refine C1.mono ?_;rintro e w1 ⟨rfl,hb⟩;have HB:=Zd hb;clear hb C1;go_wp2;go_ret;exact⟨by rw[<-Za z];rfl,Za HB⟩
namespace Bk
open Go.RowKit Go.Maps
theorem Qz{α : Type}{L M:List α}{j:Nat}(h1:j<L.length)(h2:j<M.length)(h:L.take j=M.take j)(e:L[j]=M[j]):L.take (j+1)=M.take (j+1):=by
 rw[aW h1,aW h2,h,e]
theorem Rh{α : Type}{L M:List α}{j:Nat}(h1:j<L.length)(h2:j<M.length)(e:L[j]≠M[j]):L≠M:=by
 intro h;subst h;exact e rfl
theorem Zgi{s t:ByteArray}(h:s≠t):s.toList≠t.toList:=λe=>h (by
 rw[ByteArray.toList_eq,ByteArray.toList_eq] at e;have h4:s.data=t.data:=by rw[<-Array.toList_inj];exact e
 cases s;cases t;simp_all)
theorem Zcr{s t:ByteArray}(h:s≠t):(s.toList == t.toList)=false:=by simp[Zgi h]
theorem Bm(b off b2 an n c d:Nat)(L M:List ByteArray)(o:Bool)(w:World)(hn:n<=bP)(hz:L.length=n)(am:M.length=n)
  (hc:∀ i (h:i<L.length),w.cell? ⟨b,off+i,none⟩=some (.string L[i])) (ah:∀ i (h:i<M.length),w.cell? ⟨b2,an+i,none⟩=some (.string M[i])) (ho:decide (L=M)=o) :
  ZH 31 #[F (some ⟨b,off,none⟩) n c,F (some ⟨b2,an,none⟩) n d] w (dB o):=by
 have HC:=Zd hc;have aq:=Zd ah;have HZ:=Zd hz;have ae:=Zd am;have HO:=Zd ho;have g0:((n:Int) != (n:Int))=false:=by simp
 unfold bP at hn;clear hc ah hz am ho;go_enter func31,ntmps31;go_wp2
 go_loopw [13] (λi wr=>∃ j m:Nat,j<=n/\i = E J j/\wr=w.drewN m/\Hid (L.take j=M.take j)) (λi _=>n - (cE i).toNat)
 case atStart=>exact⟨0,0,aQ _,rfl,rfl,rfl⟩
 case round=>
  obtain⟨j,m,hk,rfl,rfl,A⟩:=hrel;by_cases aj:j<n
  ·have h1:j<L.length:=(by rw[Za HZ];exact aj);have h2:j<M.length:=(by rw[Za ae];exact aj);have f1:=HC j h1;have f2:=aq j h2;have z:=Zd (Qz h1 h2 A);have Q:=Zd (Rh h1 h2);obtain⟨s,hs⟩:=ZF (L[j]);obtain⟨t,ht⟩:=ZF (M[j]);rw[hs] at f1;rw[ht] at f2;rw[hs,ht] at z Q;clear hs ht A;by_cases e:s=t
   ·subst e;have R:=Zd (z rfl);clear z Q;go_wp2
    go_quiet (fail)
    go_wp2;go_roundw
    case rel=>exact⟨j+1,m+nq,by omega,by go_num,rfl,R⟩
    case measure=>simp[cE];omega
   ·have R:Hid (o=false):=(by show _=_;rw[<-Za HO];exact decide_eq_false (Q e));have g:=Zcr e;clear z Q e;go_wp2
    go_quiet (fail)
    go_wp2;go_ret;exact⟨by rw[Za R];rfl,by simp only[World.drewN_drewN];exact Uq _ _⟩
  ·have R:Hid (o=true):=by
    have h:=Za A;rw[aL (by rw[Za HZ];omega),aL (by rw[Za ae];omega)] at h;show _=_;rw[<-Za HO];exact decide_eq_true h
   clear A;go_wp2;go_ret;exact⟨by rw[Za R];rfl,Uq _ _⟩
theorem Bl(a z:Option Addr)(c d:Nat)(w:World) :
  ZH 31 #[F a 0 c,F z 0 d] w (dB true):=by
 go_enter func31,ntmps31;go_wp2;refine cG 1 ?_;rw[bD];go_wp2;go_ret;exact⟨rfl,Below.refl _ _⟩
theorem Zbe(a z:Option Addr)(n m c d:Nat)(w:World)(h:n≠m) :
  ZH 31 #[F a n c,F z m d] w (dB false):=by
 have g:((n:Int) != (m:Int))=true:=by simp;omega
 go_enter func31,ntmps31;go_wp2;go_ret;exact⟨rfl,Below.refl _ _⟩
theorem eqStr_is(a z:Option Addr)(n m c d:Nat)(L M:List ByteArray)(o:Bool)(w:World)(hn:n<=bP)(h:TextsAt w a n L)(h2:TextsAt w z m M)(ho:decide (L=M)=o) :
  ZH 31 #[F a n c,F z m d] w (dB o):=by
 by_cases e:n=m
 ·subst e;by_cases h0:n=0
  ·subst h0;have e1:L=[]:=aI.1 h.1;have Q:M=[]:=aI.1 h2.1;subst e1 Q;have:o=true:=(by rw[<-ho];rfl);subst this;exact Bl a z c d w
  ·obtain⟨b,off,rfl,hc⟩:=h.2 (by omega);obtain⟨b2,ag,rfl,ae⟩:=h2.2 (by omega);exact Bm b off b2 ag n c d L M o w hn h.1 h2.1 hc ae ho
 ·have:o=false:=by
   rw[<-ho];exact decide_eq_false (λQ=>e (by rw[<-h.1,<-h2.1,Q]))
  subst this;exact Zbe a z n m c d w e
theorem J5(b off b2 an n c d:Nat)(L M:List Int)(o:Bool)(w:World)(hn:n<=bP)(hz:L.length=n)(am:M.length=n)
  (hc:∀ i (h:i<L.length),w.cell? ⟨b,off+i,none⟩=some (E J L[i])) (ah:∀ i (h:i<M.length),w.cell? ⟨b2,an+i,none⟩=some (E J M[i])) (ho:decide (L=M)=o) :
  ZH 38 #[F (some ⟨b,off,none⟩) n c,F (some ⟨b2,an,none⟩) n d] w (dB o):=by
 have HC:=Zd hc;have aq:=Zd ah;have HZ:=Zd hz;have ae:=Zd am;have HO:=Zd ho;have g0:((n:Int) != (n:Int))=false:=by simp
 unfold bP at hn;clear hc ah hz am ho;go_enter func38,ntmps38;go_wp2
 go_loopw [13] (λi wr=>∃ j m:Nat,j<=n/\i = E J j/\wr=w.drewN m/\Hid (L.take j=M.take j)) (λi _=>n - (cE i).toNat)
 case atStart=>exact⟨0,0,aQ _,rfl,rfl,rfl⟩
 case round=>
  obtain⟨j,m,hk,rfl,rfl,A⟩:=hrel;by_cases aj:j<n
  ·have h1:j<L.length:=(by rw[Za HZ];exact aj);have h2:j<M.length:=(by rw[Za ae];exact aj);have f1:=HC j h1;have f2:=aq j h2;have z:=Zd (Qz h1 h2 A);have Q:=Zd (Rh h1 h2);obtain⟨s,hs⟩:=ZF (L[j]);obtain⟨t,ht⟩:=ZF (M[j]);rw[hs] at f1;rw[ht] at f2;rw[hs,ht] at z Q;clear hs ht A;by_cases e:s=t
   ·subst e;have R:=Zd (z rfl);have g:(s != s)=false:=(by simp);clear z Q;go_wp2
    go_quiet (fail)
    go_wp2;go_roundw
    case rel=>exact⟨j+1,m+nq,by omega,by go_num,rfl,R⟩
    case measure=>simp[cE];omega
   ·have R:Hid (o=false):=(by show _=_;rw[<-Za HO];exact decide_eq_false (Q e));have g:(s != t)=true:=(by simp[e]);clear z Q;go_wp2
    go_quiet (fail)
    go_wp2;go_ret;exact⟨by rw[Za R];rfl,by simp only[World.drewN_drewN];exact Uq _ _⟩
  ·have R:Hid (o=true):=by
    have h:=Za A;rw[aL (by rw[Za HZ];omega),aL (by rw[Za ae];omega)] at h;show _=_;rw[<-Za HO];exact decide_eq_true h
   clear A;go_wp2;go_ret;exact⟨by rw[Za R];rfl,Uq _ _⟩
theorem J4(a z:Option Addr)(c d:Nat)(w:World) :
  ZH 38 #[F a 0 c,F z 0 d] w (dB true):=by
 go_enter func38,ntmps38;go_wp2;refine cG 1 ?_;rw[bD];go_wp2;go_ret;exact⟨rfl,Below.refl _ _⟩
theorem Tw(a z:Option Addr)(n m c d:Nat)(w:World)(h:n≠m) :
  ZH 38 #[F a n c,F z m d] w (dB false):=by
 have g:((n:Int) != (m:Int))=true:=by simp;omega
 go_enter func38,ntmps38;go_wp2;go_ret;exact⟨rfl,Below.refl _ _⟩
theorem eqInt_is(a z:Option Addr)(n m c d:Nat)(L M:List Int)(o:Bool)(w:World)(hn:n<=bP)(h:IntsAt w a n L)(h2:IntsAt w z m M)(ho:decide (L=M)=o) :
  ZH 38 #[F a n c,F z m d] w (dB o):=by
 by_cases e:n=m
 ·subst e;by_cases h0:n=0
  ·subst h0;have e1:L=[]:=aI.1 h.1;have Q:M=[]:=aI.1 h2.1;subst e1 Q;have:o=true:=(by rw[<-ho];rfl);subst this;exact J4 a z c d w
  ·obtain⟨b,off,rfl,hc⟩:=h.2 (by omega);obtain⟨b2,ag,rfl,ae⟩:=h2.2 (by omega);exact J5 b off b2 ag n c d L M o w hn h.1 h2.1 hc ae ho
 ·have:o=false:=by
   rw[<-ho];exact decide_eq_false (λQ=>e (by rw[<-h.1,<-h2.1,Q]))
  subst this;exact Tw a z n m c d w e
