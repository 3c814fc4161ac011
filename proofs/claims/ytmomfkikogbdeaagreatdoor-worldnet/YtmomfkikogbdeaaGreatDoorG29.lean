import Derived.Test.YtmomfkikogbdeaaGreatDoorH
import Derived.Test.YtmomfkikogbdeaaGreatDoorG26
open Go.Proofs.Tryz
open Go renaming lt_of_block->aA,bodyPost_ret->bA,wpAnyH_ready->aG
open Go.Act renaming put->aC
open Go.Ending renaming returned->cY
open Go.Exit renaming inBlock->aV
open Go.IntKind renaming i64->J
open Go.Obj renaming cells->cW
open Go.Proofs.Tryz renaming prog->aB,underlying48->cS
open Go.RowKit renaming Below->aD
open Go.Value renaming int->E,slice->F,tuple->cZ,pointer->dA
open List renaming getElem?_eq_some_iff->cO,take_of_length_le->aL,length_take->bL,length_eq_zero_iff->aI
open Nat renaming le_refl->aH,lt_of_lt_of_le->aE,le_trans->aS
open Prod.mk renaming injEq->aU
set_option maxHeartbeats 12800000
set_option maxRecDepth 10000
namespace Go.Proofs.YtmomfkikogbdeaaGreatDoor
open Go.RowKit
def AccR(w w':World)(x:Int)(K:List ByteArray)(L:List TxD)(e:Ending):Prop:=
 ∃ ka kn kc z sn Q,e = cY (cZ #[.agg #[F ka kn kc],F z sn Q,E J x])/\Fresh w.heap.size w' (λw2=>Bk.TextsAt w2 ka kn K/\TxsAt w2 z sn L)/\SlOk ka kn kc/\SlOk z sn Q/\aD w.heap.size w w'
theorem AccR.err{w w':World}{x y:Int}{K:List ByteArray}{L:List TxD}{b:Nat}{v:Value}(h:(x,K,L)=(y,[],[]))(z:aD w.heap.size w w')(hB:w.heap.size<=b):AccR w (w'.setCell ⟨b,0,none⟩ v) x K L (cY (cZ #[.agg #[F none 0 0],F none 0 0,E J y])):=by
 simp only[aU] at h;obtain⟨rfl,rfl,rfl⟩:=h;exact⟨_,_,_,_,_,_,rfl,λ_ _=>⟨Bk.TextsAt.nil _ _,RowsAt.nil _ _⟩,Zr,Zr,z.setCell (p:=⟨b,0,none⟩) hB _⟩
theorem Hy(z:Addr)(n c:Nat)(l:List (Int×Int))(w:World)(hn:n<=8796093022208)(hz:l.length=n)(hc:∀ j u,(Y3 l)[j]? = some u->w.cell? (z.add j)=some u) :
  Calls aB 150 #[F (some z) n c] w λe w'=>∃ v,e = cY v/\w'.ownsRow w.heap.size 164 2 v n (Y3 l)/\aD w.heap.size w w':=by
 obtain⟨i0,hi,am,an,ap⟩:=info_parts Tryz.infoOpC;have hb:=Zh w (cW #[] 164);have HC:Hid (∀ j u,(Y3 l)[j]? = some u->(w.alloc (cW #[] 164)).cell? (z.add j)=some u):=λj u hj=>Ze hb (hc j u hj);have Q:=Zd hb;have HZ:=Zd hz;have HO:=Zd (Xj w 164 2);have he:=λw=>Lib.run_eql_slice_nil (P:=aB) w 48 164 (some z) n c 0 0 cS;clear hc hb hz;go_enter func150,ntmps150
 go_wp2_with (at_builtin;refine wpList_append_own _ rfl _ _ 48 rfl w.heap.size 164 i0 (.agg #[E J 0,E J 0]) 2 16 cS hi am an ap rfl (by decide) _ _ _ rfl HO z n c (Y3 l) rfl (by rw[Y6,Za HZ]) HC (Jf l) (by unfold maxLen;omega) (by omega) Q.size ?_;intro v2 w3 ae ad _)
 have HW:Hid (w3.ownsRow w.heap.size 164 2 v2 n (Y3 l)):=by show World.ownsRow _ _ _ _ _ _ _;simpa using ae
 have ag:=Zd (Q.grown ad Q.size (Y9 HO));clear ae ad;go_wp2;go_ret;exact⟨v2,rfl,Za HW,Za ag⟩
theorem Mi(a:Option Addr)(n c:Nat)(l:List (Int×Int))(w:World)(hn:n<=8796093022208)(h:OpsAt w a n l)(hs:SlOk a n c) :
  Calls aB 150 #[F a n c] w λe w'=>∃ z Q,e = cY (F z n Q)/\Fresh w.heap.size w' (λw2=>OpsAt w2 z n l)/\SlOk z n Q/\aD w.heap.size w w':=by
 obtain⟨hl,hc⟩:=h;cases a with
 | none=>
  obtain⟨rfl,rfl⟩:=hs.2.2 rfl;exact (Qt w).mono λe w' ⟨x,y⟩=>⟨none,0,x,λ_ _=>⟨hl,λh=>absurd h (by omega)⟩,hs,y ▸ Below.refl _ _⟩
 | some ad=>
  have ag:∀ j u,(Y3 l)[j]? = some u->w.cell? (ad.add j)=some u:=λj u hj=>by
   have an:j<l.length*2:=(by rw[<-Y6];exact (cO.1 hj).1);obtain⟨b,off,e,ah⟩:=hc (by omega);cases e;rw[Addr.add_lit];exact Qr hl ah j u hj
  refine (Hy ad n c l w hn hl ag).mono ?_;rintro e w' ⟨v,rfl,x,y⟩;obtain⟨z,Q,rfl,h1,h2,h3⟩:=Ja x;refine⟨z,Q,rfl,λw2 g2=>?_,h2,y⟩;obtain⟨a2,c2,e2,h4,_,_⟩:=Ja (g2.own x (λk hk e=>by have:=(x.lt k hk).1;omega));injection e2 with e2 _ _;subst e2;exact h4
theorem Zgr(h v:Int)(a:Option Addr)(n c:Nat)(l:List (Int×Int))(w:World)(hn:n<=8796093022208)(hl:OpsAt w a n l)(hs:SlOk a n c) :
  Calls aB 84 #[E J h,E J v,F a n c] w λe w'=>∃ ao,e = cY (.agg #[E J h,F none 0 0,F ao 1 1])/\Fresh w.heap.size w' (λw2=>Tr.txR.C w2 [E J h,F none 0 0,F ao 1 1] (P8 h v l))/\aD w.heap.size w w':=by
 obtain⟨X,Q⟩:=ZG (w.alloc (cW #[E J 0,F none 0 0,F none 0 0] 59));have ad:aD w.heap.size w X:=by rw[Q];exact Zh _ _
 have af:X.heap[w.heap.size]? = some (cW [E J 0,F none 0 0,F none 0 0].toArray 59 (0,0)):=by rw[Q];exact Zw _ _ _ _ _
 have ag:X.heap.size=w.heap.size+1:=by rw[Q];simp
 have C1:=Zd (Mi a n c l X hn (hl.later ad) hs);have an:=Zd ad;have ap:=Zd af;have ae:=Zd ag;clear hl hs ad af hn ag;go_enter func84,ntmps84;go_wp2_with fail;rw[<-Q];clear Q;(try go_wp2_with fail);refine C1.mono ?_;rintro e z ⟨a1,c1,rfl,hF,al,ac⟩;have h1:=ZE ac ap;have t0:=Zb h1 0 _ rfl;have t1:=Zb h1 1 _ rfl;have t2:=Zb h1 2 _ rfl;have f0:=Zg h1 0;have f1:=Zg h1 1;have f2:=Zg h1 2;have tl:=aA h1;have aa:=Zd (Zf an ac)
 have am:Hid (∀ W,Gr z W (λq=>q=w.heap.size)->W.heap[z.heap.size]? = some (cW [E J v,F a1 n c1].toArray 122 (0,0))->Fresh w.heap.size W (λw2=>Tr.txR.C w2 [E J h,F none 0 0,F (some ⟨z.heap.size,0,none⟩) 1 1] (P8 h v l))/\aD w.heap.size w W):=λW g h2=>by
  refine⟨λw2 g2=>?_,g.below aa aa.size (λq e=>by rw[e];exact aH _)⟩;have gg:Gr z w2 (λq=>q<X.heap.size):=(g.mono (λq _ e=>by have:=Za ae;rw[e];omega)).trans (g2.mono (λq _ e=>by have:=Za ae;omega));have h3:=g2.heap h2 (by have:=aa.size;omega);refine⟨none,0,0,some ⟨z.heap.size,0,none⟩,1,1,rfl,RowsAt.nil _ _,Zr,⟨rfl,λ_=>⟨z.heap.size,0,rfl,aA h3,λi hi=>?_⟩⟩,⟨aH _,by decide,λe=>by cases e⟩⟩;have ei:i=0:=by simp[P8] at hi;omega
  subst ei;exact⟨Zb h3 0 _ rfl,a1,n,c1,Zb h3 1 _ rfl,hF w2 gg,al⟩
 clear hF al ac h1 C1;go_wp2;(try simp only[aV,Exit.then]);refine bA (v:=.agg #[E J h,F none 0 0,F (some ⟨z.heap.size,0,none⟩) 1 1]) ?_ rfl ?_
 ·rw[Ya rfl];go_simp
 ·refine⟨_,rfl,am _ ?_ ?_⟩
  ·exact ((((Gr.refl z (λq=>q=w.heap.size)).one w.heap.size 0 (.inl rfl) _).one w.heap.size 1 (.inl rfl) _).one w.heap.size 2 (.inl rfl) _).new _
  ·have:=heap_alloc_new (((z.setCell ⟨w.heap.size,0,none⟩ (E J h)).setCell ⟨w.heap.size,1,none⟩ (F none 0 0)).setCell ⟨w.heap.size,2,none⟩ (F (some ⟨z.heap.size,0,none⟩) 1 1)) (cW #[E J v,F a1 n c1] 122);simpa[World.setCell] using this
theorem Tg{P:Program}{w:World}{ag:Array Oper}{o:Oper}{a:Act}{K:Act->World->Prop}{Q:Exit->Act->World->Prop}{z:Prop}(aa:o.guard=none)(s x:Operand)(t:TypeId)
  (ho:o.op = .call { callee:=.builtin .append,args:=#[s,x],argTypes:=#[t,t] })
  (base:Nat) (e:TypeId) (i:TypeInfo) (size:Nat) (ht:P.underlying t=some (.slice e)) (hi:P.info? e=some i)
  (v:Value) (n:Nat) (xs:List Value) (hs:a.eval s=v) (ac:w.ownsRow base e size v n xs) (hx:a.eval x = F none 0 0)
  (h:K (a.put o.dst v) w):if Region.wanted o (yielded ag a.tmps)=true then Oper.wp P o a w K Q else z:=by
 rw[if_pos (by simp[Region.wanted,aa])];have ad:=run_append_owned_none (P:=P) (w:=w) base t o.type e i size ht hi v n xs ac;unfold Oper.wp;simp[execOp,ho,resolve,invoke,builtin,hs,hx,ad,Result.andThen];exact h
theorem Gr.five{w w1:World}{S:Nat->Prop}(h:Gr w w1 S)(b:Nat)(z:S b\/w.heap.size<=b)(Q a1 a2 a3 a4:Value):Gr w (((((w1.setCell ⟨b,0,none⟩ Q).setCell ⟨b,1,none⟩ a1).setCell ⟨b,2,none⟩ a2).setCell ⟨b,3,none⟩ a3).setCell ⟨b,4,none⟩ a4) S:=
 ((((h.one b 0 z Q).one b 1 z a1).one b 2 z a2).one b 3 z a3).one b 4 z a4
def MkI(b b2 lo hi N0:Nat)(C0:List Zj)(p:Nat)(D:Nat->Prop)(w:World)(X:List (TxD×List Zj)):Prop:=
 ∃ z Q K,St b p w (.slice z ((X.take 3).map (·.1)).length Q) K ((X.take 3).map (·.1))/\FeI w b2 (Zp C0 - Zp (Yw C0 (X.take 3)))/\N0<=p/\D=DV lo hi (.slice z ((X.take 3).map (·.1)).length Q)/\0<=Zp C0 - Zp (Yw C0 (X.take 3))/\((X=[]/\z=none/\Q=0)\/(X≠[]/\Zp C0<=1000000000/\Y2 (Yw C0 (X.take 3))))
theorem Zjt(b z lo hi:Nat)(w0:World)(C0:List Zj)(hb:w0.heap[b]? = some (cW #[F none 0 0] 37 (0,0)))(aq:FeI w0 z 0)(h1:lo<=b/\b<hi)(h2:lo<=z/\z<hi)(aw:b≠z)(av:hi<=w0.heap.size) :
  Zki 82 #[dA (some ⟨b,0,none⟩),dA (some ⟨z,0,none⟩)] w0 C0 (D0 lo hi) (MkI b z lo hi w0.heap.size C0) where
 enters:=enters_of (fn:=Tryz.f82) (by kernel_rfl) (by kernel_rfl) rfl
 start p w hw hp pl:=⟨none,0,[],St.start ((hw.block b (by omega)).trans hb) (by omega) pl,by
  have:Zp C0 - Zp (Yw C0 (List.take 3 []))=0:=by rw[List.take_nil,Wj];omega
  unfold FeI;rw[this];exact (hw.block z (by omega)).trans aq,hp,rfl,by rw[List.take_nil,Wj];omega,.inl ⟨rfl,rfl,rfl⟩⟩
 dirty p D w X:=by
  rintro ⟨va,vc,K,h,_,hp,rfl,_⟩ q hq;exact DV.dirty h av hp q hq
 on p D w w' X:=by
  rintro ⟨va,vc,K,h,hf,hp,hD,r⟩ g;exact⟨va,vc,K,h.on g (λq e=>by subst e;exact⟨aH _,by omega⟩),(g.block z (aA hf) (λe=>by have e:z=p:=e;omega)).trans hf,hp,hD,r⟩
 call p D wA w X t C' u0 u1 u2:=by
  rintro ⟨va,vc,K,h,hf,hp,rfl,h0,hr⟩ af hF r1 r2 r3 hl;by_cases h3:X.length<3
  ·have et:X.take 3=X:=aL (by omega);have Q:(X++[(t,C')]).take 3=X++[(t,C')]:=aL (by rw[List.length_append];simp;omega);rw[et] at h hf h0 hr ⊢
   have hs:Zp C0<=1000000000:=by
    rcases hr with ⟨rfl,_⟩|hr
    ·rw[Wj] at r1;exact r1.sum
    ·exact hr.2.1
   have n1:=Pm r1;have n2:=Pm r2;have n3:=r1.sum;refine (Zed b z p va vc K (X.map (·.1)) _ u0 u1 u2 t wA w h _ hf aw (by omega) h0 (by omega) (by omega) (by omega) af hF (by rw[List.length_map];exact h3)).mono ?_;rintro e w' ⟨rfl,⟨v',K',hS,ar⟩,hg⟩;obtain⟨a,c,rfl,_,_⟩:=hS.txs;have e1:(X++[(t,C')]).map (·.1)=X.map (·.1)++[t]:=(by simp);refine⟨rfl,hg.mono (λq _ e=>?_),DV lo hi (.slice a (((X++[(t,C')]).take 3).map (·.1)).length c),a,c,K',?_,?_,hp,rfl,?_,.inr ⟨by simp,hs,?_⟩⟩
   ·rcases e with (e|e)|e
    ·subst e;exact .inl h1
    ·subst e;exact .inl h2
    ·exact .inr e
   ·rw[Q,e1];exact hS
   ·rw[Q,Xp];have:Zp C0 - Zp (Yw C0 X)+(Zp (Yw C0 X) - Zp C')=Zp C0 - Zp C':=(by omega);rw[<-this];exact ar
   ·rw[Q,Xp];omega
   ·rw[Q,Xp];exact r2
  ·have Q:(X++[(t,C')]).take 3=X.take 3:=List.take_append_of_le_length (by omega);refine (A6 b z p va vc K ((X.take 3).map (·.1)) _ u0 u1 u2 t wA w h af hF (by rw[List.length_map,bL];omega)).mono ?_;rintro e w' ⟨rfl,ah⟩;have aj:=Zf af ah;refine⟨rfl,Gr.of ah,DV lo hi (.slice va ((X.take 3).map (·.1)).length vc),va,vc,K,?_,?_,hp,?_,?_,.inr ?_⟩
   ·rw[Q];exact h.on (Gr.of (S:=λ_=>False) aj) (λ_ q=>q.elim)
   ·rw[Q];exact (aj.block z (aA hf)).trans hf
   ·rw[Q]
   ·rw[Q];exact h0
   ·rw[Q]
    rcases hr with ⟨rfl,_⟩|hr
    ·exact absurd h3 (by simp)
    ·exact⟨by simp,hr.2⟩
def Ji(b:Zl)(a:Option Addr)(n c:Nat):Value:=.agg #[E J b.1,E J b.2.1,E J b.2.2.1,E J b.2.2.2.1,F a n c]
def MkR(w w':World)(x:Int)(b:Zl)(e:Ending):Prop:=
 ∃ a n c,e = cY (cZ #[Ji b a n c,E J x])/\Fresh w.heap.size w' (λw2=>TxsAt w2 a n b.2.2.2.2)/\SlOk a n c/\aD w.heap.size w w'
theorem MkR.err{w Q w':World}{x y:Int}{b:Zl}{B:Nat}(h:(x,b)=(y,Yq))(z:aD w.heap.size w Q)(hg:Gr Q w' (λq=>q=B))(hB:w.heap.size<=B):MkR w w' x b (cY (cZ #[.agg #[E J 0,E J 0,E J 0,E J 0,F none 0 0],E J y])):=by
 simp only[aU] at h;obtain⟨rfl,rfl⟩:=h;exact⟨none,0,0,rfl,λ_ _=>RowsAt.nil _ _,Zr,hg.below z z.size (λq e=>by rw[e];exact hB)⟩
def Zil(Q wx:World)(B P:Nat)(p h wk nc:Int)(T:List TxD):Prop:=
 ∃ g n c,wx.heap[B]? = some (cW [E J p,E J h,E J wk,E J nc,F g n c].toArray 39 (0,0))/\(∀ z,Gr wx z (λq=>q<=P)->TxsAt z g n T)/\SlOk g n c/\Gr Q wx (λq=>q=B)
theorem Fi{w1 z:World}{B P:Nat}{p h wk nc:Int}{T:List TxD}{g:Nat}{n c base:Nat}{K:List (List Value)}(hn:T.length=n)(ag:z.heap[B]? = some (cW [E J p,E J h,E J wk,E J nc,F none 0 0].toArray 39 (0,0)))(ab:z.ownsRow base 59 3 (F (some ⟨g,0,none⟩) n c) n K.flatten)(am:P<base)(hB:B<=P)
  (hk:∀ Q,Gr z Q (λq=>q<=P)->Tr.AllC Tr.txR Q K T) (hg:Gr w1 z (λq=>q=B)):Zil w1 (z.setCell ⟨B,4,none⟩ (F (some ⟨g,0,none⟩) n c)) B P p h wk nc T:=by
 have g1:Gr z (z.setCell ⟨B,4,none⟩ (F (some ⟨g,0,none⟩) n c)) (λq=>q=B):=(Gr.refl z (λq=>q=B)).one B 4 (.inl rfl) _
 have rd:∀ Q,Gr z Q (λq=>q<=P)->TxsAt Q (some ⟨g,0,none⟩) n T/\SlOk (some ⟨g,0,none⟩) n c:=λQ g2=>by
  have o:=g2.own ab (λk hk e=>by have:=(ab.lt k hk).1;omega);obtain⟨a',c',e,h1,h2⟩:=Tr.rows_of_own Tr.txR o (hk Q g2) hn;injection e with e1 _ e3;subst e1 e3;exact⟨h1,h2⟩
 exact⟨some ⟨g,0,none⟩,n,c,Tr.set_cells ag 4 _,λQ g2=>(rd Q ((g1.mono (λq _ e=>by have e:q=B:=e;omega)).trans g2)).1,(rd z (Gr.refl _ _)).2,hg.trans g1⟩
theorem Zdg(ka:Option Addr)(kn kc:Nat)(K:List ByteArray)(la:Option Addr)(ln lc:Nat)(C:List Zj)(a:Option Addr)(m c:Nat)(L:List TxD)(pr ht wk nc:Int)(ta:Option Addr)(tn tc:Nat)(lk:List (Int×Int))(h x:Int)(bb:Zl)(w:World)
  (hE:Env w) (hK:Bk.TextsAt w ka kn K) (hC:CoinsAt w la ln C) (sC:SlOk la ln lc) (hL:TxsAt w a m L) (hT:OpsAt w ta tn lk) (sT:SlOk ta tn tc) (hn:tn<=8796093022208) (hh:IntKind.i64.wrap (ht+1)=h) (hx:mkE K C L pr h wk nc lk=(x,bb)) :
  Calls aB 26 #[.agg #[F ka kn kc],F la ln lc,F a m c,E J pr,E J ht,E J wk,E J nc,F ta tn tc] w λe w'=>MkR w w' x bb e:=by
 obtain⟨i0,hi,il,im,io⟩:=info_parts Tryz.infoTx9;obtain⟨X,hX⟩:=ZG (Yp w [cW #[F ka kn kc] 24,cW #[E J 0,E J 0,E J 0,E J 0,F none 0 0] 39,cW #[E J pr,E J h,E J wk,E J nc,F none 0 0] 39,cW #[F none 0 0] 37,cW #[E J 0] 3]);have ce:aD w.heap.size w X:=by rw[hX];exact Zs _ _
 have ev:X.heap.size=w.heap.size+5:=by rw[hX];exact Z4 _ _
 have x0:X.heap[w.heap.size]? = some (cW #[F ka kn kc] 24 (0,0)):=by rw[hX];exact Zk _ w 0 _ rfl
 have x1:X.heap[w.heap.size+1]? = some (cW [E J 0,E J 0,E J 0,E J 0,F none 0 0].toArray 39 (0,0)):=by rw[hX];exact Zk _ w 1 _ rfl
 have x2:X.heap[w.heap.size+2]? = some (cW [E J pr,E J h,E J wk,E J nc,F none 0 0].toArray 39 (0,0)):=by rw[hX];exact Zk _ w 2 _ rfl
 have x3:X.heap[w.heap.size+3]? = some (cW #[F none 0 0] 37 (0,0)):=by rw[hX];exact Zk _ w 3 _ rfl
 have x4:X.heap[w.heap.size+4]? = some (cW #[E J 0] 3 (0,0)):=by rw[hX];exact Zk _ w 4 _ rfl
 have eu:X=((((w.alloc (cW #[F ka kn kc] 24)).alloc (cW #[E J 0,E J 0,E J 0,E J 0,F none 0 0] 39)).alloc (cW #[E J pr,E J h,E J wk,E J nc,F none 0 0] 39)).alloc (cW #[F none 0 0] 37)).alloc (cW #[E J 0] 3):=hX;have es:=Zjt (w.heap.size+3) (w.heap.size+4) (w.heap.size+3) (w.heap.size+5) X C x3 x4 (by omega) (by omega) (by omega) (by omega);have dt:∀ V,Gr X V (D0 (w.heap.size+3) (w.heap.size+5))->aD w.heap.size w V:=λV g=>g.below ce ce.size (λq e=>by have:=e.ge;omega);obtain⟨cu,cn⟩:=ZF (swE K C L h);have C1:=Zd (Kw _ _ _ _ ka kn kc K la ln lc C a m c L h cu X es w dt hE hK hC sC hL cn);obtain⟨S3,cc⟩:=ZF ((Z0 h L (K,C)).1.take 3);have e1:((swT h L (K,C)).take 3).map (·.1)=S3:=by rw[List.map_take,Q6,cc]
 obtain⟨Q,hF⟩:=ZF (Zen h L K C);obtain⟨⟨r,r2⟩,hr⟩:=ZF (rwD h);obtain⟨n,du⟩:=ZF (S3.length);have jo:n<=3:=by rw[<-du,<-cc,bL];omega
 obtain⟨y,hy⟩:=ZF (Yn (pr,h,wk,nc,P8 h (r+Q) lk :: S3));unfold mkE at hx;simp only[cn,cc,hF,hr,hy] at hx;have HX:=Zd hx;have db:=Zd ce;have gj:=Zd ev;have fy:=Zd dt;have dc:=Zd x1;have en:=Zd x2;have gi:=Zd cn;have ek:=Zd e1;have HF:=Zd hF;have HR:=Zd hr;have aq:=Zd du;have HY:=Zd hy;have HT:=Zd hT;have gf:=Zd sT;have gh:=Zd hn;have t0:=Zb (X:=[F ka kn kc]) x0 0 _ rfl;have tl:=aA x0;have g1:=Zb x2 1 _ rfl;have gl:=aA x2;clear hE hK hC sC hL hx cn ce ev x0 x1 x2 x3 x4 hX es dt e1 hF hr du hy hT sT cc hn;go_enter func26,ntmps26;go_wp2_with fail;rw[<-eu];clear eu hh;(try go_wp2_with fail);refine C1.mono ?_;rintro e w1 ij
 rcases ij with ⟨h0,rfl,av⟩|⟨h0,p,D,rfl,hp,dq,hd,hI⟩
 ·have y:=ZE av dc;have y0:=Zb y 0 _ rfl;have ja:=Zg y 0;have y1:=Zb y 1 _ rfl;have jb:=Zg y 1;have y2:=Zb y 2 _ rfl;have jc:=Zg y 2;have y3:=Zb y 3 _ rfl;have jd:=Zg y 3;have y4:=Zb y 4 _ rfl;have je:=Zg y 4;have yl:=aA y;clear y;have gx:(cu != 0)=true:=by simp[h0]
  have aj:Hid ((x,bb)=(cu,Yq)):=by have:=Za HX;rw[if_pos h0] at this;exact this.symm
  have HB:=Zd (Zf db av);clear av C1 HX;go_wp2;(try simp only[aV,Exit.then]);refine bA (v:=cZ #[.agg #[E J 0,E J 0,E J 0,E J 0,F none 0 0],E J cu]) ?_ rfl ?_
  ·rw[results_cell_tmp rfl];go_simp
  ·exact MkR.err (B:=w.heap.size+1) aj HB ((Gr.refl w1 (λq=>q=w.heap.size+1)).five (w.heap.size+1) (.inl rfl) _ _ _ _ _) (by omega)
 ·subst h0;obtain⟨va,vc,Kl,hS,hf,_,_,id,dn⟩:=hI;rw[Za ek,Za aq] at hS;have cg:Zp C - Zp (Yw C ((swT h L (K,C)).take 3))=Q:=Za HF;rw[cg] at hf id;have av:=fy w1 dq;have z1:=(dq.block _ (aA dc) (λe=>by have:=e.ge;omega)).trans dc;have z2:=(dq.block _ (aA en) (λe=>by have:=e.ge;omega)).trans en;have dv:=Uu (Rj gi).1
  have ii:r2=0/\0<=r/\r<=64:=by
   have q:=Za HR;unfold rwD at q;rw[if_pos (by simp[dv.2.2.1,dv.2.2.2])] at q;injection q with q1 q2;have:=Pq ((h - 1).toNat / 8);exact⟨q2.symm,by omega,by omega⟩
  obtain⟨rfl,js,jt⟩:=ii
  have jn:Q<=1000000000:=by
   rcases dn with q|q
   ·rw[<-cg,q.1,List.take_nil,Wj];omega
   ·rw[<-cg];have:=Pm q.2.2;omega
  have fc:n=0->va=none/\vc=0:=λq0=>by
   rcases dn with q|q
   ·exact q.2
   ·have q1:=congrArg List.length ek;rw[List.length_map,bL,Za aq,q0] at q1;exact absurd (aI.1 (by omega)) q.1
  have CR:=Zd (λV=>Kv h r 0 V HR);have HS:=Zd hS;have ft:=Zd av;have dd:=Zd z1;have gm:=Zd z2;have HP:=Zd hp;have fx:=Zd hf;have fz:=Zd fc;have b0:=Zb z2 1 _ rfl;have bl:=aA z2;clear av z1 dv hS cg z2 C1 hd hf dn fc;go_wp2_with fail;refine (CR _).mono ?_;rintro e w2 ⟨rfl,cd⟩;have bs:=Zd (Zf ft cd);have bg:=Zd cd;have cf:=ZE cd fx;have f0:=Zb (X:=[_]) cf 0 _ rfl;have fl:=aA cf;have jf:=Zd cf;clear cd CR b0 bl cf;by_cases e0:r+Q=0
  ·have y:=ZE bg dd;have y0:=Zb y 0 _ rfl;have ja:=Zg y 0;have y1:=Zb y 1 _ rfl;have jb:=Zg y 1;have y2:=Zb y 2 _ rfl;have jc:=Zg y 2;have y3:=Zb y 3 _ rfl;have jd:=Zg y 3;have y4:=Zb y 4 _ rfl;have je:=Zg y 4;have yl:=aA y;clear y;have aj:Hid ((x,bb)=(9,Yq)):=(by have:=Za HX;rw[if_neg (λq=>q rfl),if_pos e0] at this;exact this.symm);have g0:(r+Q == 0)=true:=(by simp[e0]);clear HX;go_wp2;(try simp only[aV,Exit.then]);refine bA (v:=cZ #[.agg #[E J 0,E J 0,E J 0,E J 0,F none 0 0],E J 9]) ?_ rfl ?_
   ·rw[results_cell_tmp rfl];go_simp
   ·exact MkR.err (B:=w.heap.size+1) aj bs ((Gr.refl w2 (λq=>q=w.heap.size+1)).five (w.heap.size+1) (.inl rfl) _ _ _ _ _) (by omega)
  ·have g0:(r+Q == 0)=false:=(by simp[e0]);have dy:=Za HX;rw[if_neg (λq=>q rfl),if_neg e0] at dy;have bu:=Zd dy;clear dy HX;have jq:w.heap.size+5<=p:=(by have:=Za gj;have:=Za HP;omega);have bh:=HS.on (Gr.of (S:=λ_=>False) bg) (λ_ q=>q.elim);have bt:=Zd bh;have br:=ZE bg gm;have de:=Zd br;have c1:=Zb br 1 _ rfl;have kr:=aA br;have d0:=Zb (X:=[_]) bh.box 0 _ rfl;have kq:=aA bh.box;have CP:=Zd (λV (hv:aD w.heap.size w V)=>Zgr h (r+Q) ta tn tc lk V gh (HT.later hv) gf);have jr:=bh.pl;have ju:IntKind.i64.wrap (r+Q)=r+Q:=(by rw[IntKind.wrap_i64];omega);have KS:Hid (∀ U:World,Gr w2 U (λq=>p<q)->((U.cell? ⟨w.heap.size+4,0,none⟩=some (E J Q)/\w.heap.size+4<U.heap.size)/\(U.cell? ⟨w.heap.size+2,1,none⟩=some (E J h)/\w.heap.size+2<U.heap.size)/\U.cell? ⟨w.heap.size+3,0,none⟩=some (F va n vc)/\w.heap.size+3<U.heap.size)):=λU hu=>⟨⟨hu.cell f0 (by simp;omega),aE fl hu.size⟩,⟨hu.cell c1 (by simp;omega),aE kr hu.size⟩,hu.cell d0 (by simp;omega),aE kq hu.size⟩
   have df:Hid (∀ (U:World) (v:Value),Gr w2 U (λq=>p<q)->(λU:World=>(U.cell? ⟨w.heap.size+4,0,none⟩=some (E J Q)/\w.heap.size+4<U.heap.size)/\(U.cell? ⟨w.heap.size+2,1,none⟩=some (E J h)/\w.heap.size+2<U.heap.size)/\U.cell? ⟨w.heap.size+3,0,none⟩=some (F va n vc)/\w.heap.size+3<U.heap.size) (U.setCell ⟨w.heap.size+2,4,none⟩ v)):=λU v hu=>by
    have hg:=(Gr.refl U (λq=>q=w.heap.size+2)).one (w.heap.size+2) 4 (.inl rfl) v;have hh:=(Gr.refl w2 (λq=>p<q)).trans hu;have hz:=Tr.set_cells (hu.heap br (by omega)) 4 v;exact⟨⟨hg.cell (hu.cell f0 (by simp;omega)) (by simp),aE fl (aS hu.size hg.size)⟩,⟨Zb hz 1 _ rfl,aA hz⟩,hg.cell (hu.cell d0 (by simp;omega)) (by simp),aE kq (aS hu.size hg.size)⟩
   clear bh br
   go_upto_region 12 with fail
   clear f0 fl d0 kq
   go_cut [] from 60 to 70 (λwx=>Hid (Zil w2 wx (w.heap.size+2) p pr h wk nc (P8 h (r+Q) lk :: S3)))
   case first=>
    refine wp_region_held_drew (S:=λU=>(U.cell? ⟨w.heap.size+4,0,none⟩=some (E J Q)/\w.heap.size+4<U.heap.size)/\(U.cell? ⟨w.heap.size+2,1,none⟩=some (E J h)/\w.heap.size+2<U.heap.size)/\U.cell? ⟨w.heap.size+3,0,none⟩=some (F va n vc)/\w.heap.size+3<U.heap.size) (by kernel_rfl) (KS _ (Gr.of (Zi _))) (λz=>?_);refine tk 0 ⟨some 60,.fieldAddr 39 (.tmp 18) 1,0, "pool.go:68",#[],none⟩ ?_ rfl ?_ z ?_;rotate_left
    ·(intro U ab;obtain⟨⟨s1,s2⟩,⟨s5,s6⟩,s3,s4⟩:=ab;go_simp;first|done|with_reducible rfl)
    (try simp only[aC,ZA,ZB,ZC]);refine tk 1 ⟨some 61,.load 3 (.tmp 60),3, "pool.go:68",#[⟨0,.data⟩],none⟩ ?_ rfl ?_ z ?_;rotate_left
    ·(intro U ab;obtain⟨⟨s1,s2⟩,⟨s5,s6⟩,s3,s4⟩:=ab;go_simp;first|done|with_reducible rfl)
    (try simp only[aC,ZA,ZB,ZC]);refine tk 2 ⟨some 62,.move (.tmp 23),3, "pool.go:68",#[],none⟩ ?_ rfl ?_ z ?_;rotate_left
    ·(intro U ab;obtain⟨⟨s1,s2⟩,⟨s5,s6⟩,s3,s4⟩:=ab;go_simp;first|done|with_reducible rfl)
    (try simp only[aC,ZA,ZB,ZC]);refine tk 3 ⟨some 63,.load 3 (.tmp 20),3, "pool.go:68",#[],none⟩ ?_ rfl ?_ z ?_;rotate_left
    ·(intro U ab;obtain⟨⟨s1,s2⟩,⟨s5,s6⟩,s3,s4⟩:=ab;go_simp;first|done|with_reducible rfl)
    (try simp only[aC,ZA,ZB,ZC]);refine tk 4 ⟨some 64,.binOp BinOp.add 3 (.tmp 62) (.tmp 63) 3,3, "pool.go:68",#[⟨2,.data⟩,⟨3,.data⟩],none⟩ (E J (r+Q)) rfl ?_ z ?_
    ·(intro U ab;obtain⟨⟨s1,s2⟩,⟨s5,s6⟩,s3,s4⟩:=ab;go_simp;first|done|with_reducible rfl)
    (try simp only[aC,ZA,ZB,ZC]);refine tk 5 ⟨some 65,.move (.tmp 7),48, "pool.go:68",#[],none⟩ ?_ rfl ?_ z ?_;rotate_left
    ·(intro U ab;obtain⟨⟨s1,s2⟩,⟨s5,s6⟩,s3,s4⟩:=ab;go_simp;first|done|with_reducible rfl)
    (try simp only[aC,ZA,ZB,ZC]);refine tk 8 ⟨some 68,.load 37 (.tmp 19),37, "pool.go:68",#[],none⟩ ?_ rfl ?_ z ?_;rotate_left
    ·(intro U ab;obtain⟨⟨s1,s2⟩,⟨s5,s6⟩,s3,s4⟩:=ab;go_simp;first|done|with_reducible rfl)
    (try simp only[aC,ZA,ZB,ZC]);refine aG (rs:=[6]) (by kernel_rfl) (by simp) ?_;refine AllReadyH.cons (o:=⟨some 66,.call { callee:=Callee.value (.func 84),args:=#[.tmp 61,.tmp 64,.tmp 65],argTypes:=#[3,3,48] },59, "pool.go:68",#[⟨1,.data⟩,⟨4,.data⟩,⟨5,.data⟩],none⟩) rfl (λKQ hK=>?_) AllReadyH.nil;refine Zm (by kernel_rfl) 84 #[E J h,E J (r+Q),F ta tn tc] (by kernel_rfl) (CP w2.drew (Zf bs (Zi _))) ?_;rintro e w4 ⟨po,rfl,gy,ib⟩;refine⟨_,rfl,?_⟩;have dl:aD w2.heap.size w2 w4:=Zf (Zi w2) ib;refine hK.out _ _ (KS _ (Gr.of dl)) (λaa=>?_);clear hK KQ z;have z:=aa;clear aa;(try simp only[aC,ZA,ZB,ZC]);refine aG (rs:=[7]) (by kernel_rfl) (by simp) ?_;refine AllReadyH.cons (o:=⟨some 67,.buildSlice 37 1 #[(0,.tmp 66)],37, "pool.go:68",#[⟨6,.data⟩],none⟩) rfl (λKQ hK=>?_) AllReadyH.nil;go_simp;obtain⟨w5,cm⟩:=ZG (w4.alloc (cW #[E J h,F none 0 0,F po 1 1] 59));rw[<-cm];have dm:aD w4.heap.size w4 w5:=(by rw[cm];exact Zh _ _);have h5:w5.heap[w4.heap.size]? = some (cW #[E J h,F none 0 0,F po 1 1] 59 (0,0)):=(by rw[cm];exact Zw _ _ _ _ _);have ah:=Zf dl dm;have eb:w5.ownsRow w4.heap.size 59 3 (F (some ⟨w4.heap.size,0,none⟩) 1 1) 1 [E J h,F none 0 0,F po 1 1]:=⟨rfl,.inr ⟨w4.heap.size,1,_,rfl,aH _,h5,aH _,by decide,rfl,rfl⟩⟩;have z5:=ZE ah de;clear cm;refine hK.out _ _ (KS _ (Gr.of ah)) (λaa=>?_);clear hK KQ z;have z:=aa;clear aa
    (try simp only[aC,ZA,ZB,ZC]);have kd:=dl.size;have ke:=dm.size
    have eo:Hid (∀ W2,Gr w5 W2 (λq=>q<=p\/w4.heap.size<=q)->Tr.AllC Tr.txR W2 ([E J h,F none 0 0,F po 1 1] :: Kl) (P8 h (r+Q) lk :: S3)):=λW2 g2=>by
     have k1:=bt.kept W2 ((Gr.of ah).far g2 (λq e=>by rcases e with e|e;exact .inr (.inl e);exact .inl (by omega)));have k2:=gy W2 ((Gr.of dm).far g2 (λq e=>by have:w2.drew.heap.size=w2.heap.size:=rfl;rcases e with e|e;exact .inr (by omega);exact .inl e));refine⟨by simp[k1.1],λi h1 h2=>?_⟩;cases i with
     | zero=>exact k2
     | succ i=>exact k1.2 i (by simpa using h1) (by simpa using h2)
    by_cases n0:n=0
    ·obtain⟨rfl,rfl⟩:=fz n0;subst n0
     have ia:Kl=[]:=by
      have k1:=(bt.kept w2 (Gr.refl _ _)).1;rw[Za aq] at k1;exact aI.1 k1
     refine aG (rs:=[9]) (by kernel_rfl) (by simp) ?_;refine AllReadyH.cons (o:=⟨some 69,.call { callee:=Callee.builtin Builtin.append,args:=#[.tmp 67,.tmp 68],argTypes:=#[37,37] },37, "pool.go:68",#[⟨7,.data⟩,⟨8,.data⟩,⟨6,.chain⟩],none⟩) rfl (λKQ hK=>?_) AllReadyH.nil;refine Tg rfl _ _ 37 rfl w4.heap.size 59 i0 3 underlying37 hi (F (some ⟨w4.heap.size,0,none⟩) 1 1) 1 _ rfl eb rfl ?_;refine hK.out _ _ (KS _ (Gr.of ah)) (λaa=>?_);clear hK KQ z;have z:=aa;clear aa;(try simp only[aC,ZA,ZB,ZC]);refine tk 10 ⟨some 70,.fieldAddr 39 (.tmp 18) 4,0, "pool.go:68",#[⟨0,.phase⟩,⟨1,.phase⟩,⟨2,.phase⟩,⟨3,.phase⟩,⟨4,.phase⟩,⟨5,.phase⟩,⟨6,.phase⟩,⟨7,.phase⟩,⟨8,.phase⟩,⟨9,.phase⟩],none⟩ ?_ rfl ?_ z ?_;rotate_left
     ·(intro U ab;go_simp;first|done|with_reducible rfl)
     (try simp only[aC,ZA,ZB,ZC]);have y4:=Zb z5 4 _ rfl;have yf:=Zg z5 4;have yl:=aA z5;refine aG (rs:=[11]) (by kernel_rfl) (by simp) ?_;refine AllReadyH.cons (o:=⟨none,.store 37 (.tmp 70) (.tmp 69),0, "pool.go:68",#[⟨10,.data⟩,⟨9,.data⟩,⟨9,.chain⟩,⟨0,.phase⟩,⟨1,.phase⟩,⟨2,.phase⟩,⟨3,.phase⟩,⟨4,.phase⟩,⟨5,.phase⟩,⟨6,.phase⟩,⟨7,.phase⟩,⟨8,.phase⟩,⟨9,.phase⟩],none⟩) rfl (λKQ hK=>?_) AllReadyH.nil;go_simp;refine hK.out _ _ (df _ _ (Gr.of ah)) (λaa=>?_);clear hK KQ z;have z:=aa;clear aa;(try simp only[aC]);refine wpAnyH_done (by kernel_rfl) ?_ _;clear z;go_wp2_with fail;go_meet
     case rel=>exact Fi (K:=[Value.int .i64 h,F none 0 0,F po 1 1] :: Kl) (base:=w4.heap.size) (by rw[List.length_cons,Za aq]) z5 (by rw[ia];exact eb) (by omega) (by omega) (λW2 g2=>eo W2 (g2.mono (λq _ e=>.inl e))) (Gr.of ah)
    ·have own2:=(Gr.of (S:=λ_=>False) ah).own bt.own (λ_ _ q=>q);rw[Za aq] at own2
     obtain⟨vg,rfl⟩:∃ vg:Nat,va=some ⟨vg,0,none⟩:=by
      rcases own2.2 with ⟨q,q2⟩|⟨g,cap,ji,q,_⟩
      ·exact absurd q2 n0
      ·injection q with q _ _;exact⟨g,q⟩
     have fa:Kl.flatten.length=n*3:=own2.1
     have iq:∀ j u,Kl.flatten[j]? = some u->w5.cell? ((⟨vg,0,none⟩:Addr).add j)=some u:=λj u hj=>by
      have ig:j<n*3:=(by rw[<-fa];exact (cO.1 hj).1);rw[Addr.add_lit,Nat.zero_add,own2.cellAt j ig];exact hj
     have ir:∀ u∈Kl.flatten,u.oneCell'=true:=Tr.flat_one (bt.kept w2 (Gr.refl _ _));refine aG (rs:=[9]) (by kernel_rfl) (by simp) ?_;refine AllReadyH.cons (o:=⟨some 69,.call { callee:=Callee.builtin Builtin.append,args:=#[.tmp 67,.tmp 68],argTypes:=#[37,37] },37, "pool.go:68",#[⟨7,.data⟩,⟨8,.data⟩,⟨6,.chain⟩],none⟩) rfl (λKQ hK=>?_) AllReadyH.nil;refine step_append_lies _ rfl _ _ 37 rfl w4.heap.size 59 i0 (.agg #[E J 0,F none 0 0,F none 0 0]) 3 56 underlying37 hi il im io rfl (by decide) (F (some ⟨w4.heap.size,0,none⟩) 1 1) 1 _ rfl eb ⟨vg,0,none⟩ n vc Kl.flatten rfl fa iq ir (by omega) (by unfold maxLen;omega) (by omega) (by omega) _ rfl ?_;intro g6 jh w6 ih ie jp _;have ds:Gr w5 w6 (λq=>q=w4.heap.size):=(Gr.refl w5 _).grown ie (λq e=>.inl (by injection e with e;exact e.symm));have dr:Gr w2 w6 (λq=>p<q):=(Gr.of ah).trans (ds.mono (λq _ e=>by have e:q=w4.heap.size:=e;omega));have z6:=(dr.block _ (aA de) (by omega)).trans de;refine hK.out _ _ (KS _ dr) (λaa=>?_);clear hK KQ z;have z:=aa;clear aa;(try simp only[aC,ZA,ZB,ZC]);refine tk 10 ⟨some 70,.fieldAddr 39 (.tmp 18) 4,0, "pool.go:68",#[⟨0,.phase⟩,⟨1,.phase⟩,⟨2,.phase⟩,⟨3,.phase⟩,⟨4,.phase⟩,⟨5,.phase⟩,⟨6,.phase⟩,⟨7,.phase⟩,⟨8,.phase⟩,⟨9,.phase⟩],none⟩ ?_ rfl ?_ z ?_;rotate_left
     ·(intro U ab;go_simp;first|done|with_reducible rfl)
     (try simp only[aC,ZA,ZB,ZC]);have y4:=Zb z6 4 _ rfl;have yf:=Zg z6 4;have yl:=aA z6;refine aG (rs:=[11]) (by kernel_rfl) (by simp) ?_;refine AllReadyH.cons (o:=⟨none,.store 37 (.tmp 70) (.tmp 69),0, "pool.go:68",#[⟨10,.data⟩,⟨9,.data⟩,⟨9,.chain⟩,⟨0,.phase⟩,⟨1,.phase⟩,⟨2,.phase⟩,⟨3,.phase⟩,⟨4,.phase⟩,⟨5,.phase⟩,⟨6,.phase⟩,⟨7,.phase⟩,⟨8,.phase⟩,⟨9,.phase⟩],none⟩) rfl (λKQ hK=>?_) AllReadyH.nil;go_simp;refine hK.out _ _ (df _ _ dr) (λaa=>?_);clear hK KQ z;have z:=aa;clear aa;(try simp only[aC]);refine wpAnyH_done (by kernel_rfl) ?_ _;clear z;go_wp2_with fail;go_meet
     case rel=>exact Fi (K:=[Value.int .i64 h,F none 0 0,F po 1 1] :: Kl) (base:=w4.heap.size) (by rw[List.length_cons,Za aq];omega) z6 ih (by omega) (by omega) (λW2 g2=>eo W2 ((ds.mono (λq _ e=>.inr (by have e:q=w4.heap.size:=e;omega))).trans (g2.mono (λq _ e=>.inl e)))) ((Gr.of ah).far ds (λq e=>.inl (by have e:q=w4.heap.size:=e;omega)))
   case rest=>
    obtain⟨ga,kp,gc,al,dx,sg,cl⟩:=Za hcut;have CK:=Zd (Wc pr h wk nc ga kp gc (P8 h (r+Q) lk :: S3) y wc (dx wc (Gr.refl _ _)) HY);have gb:=Zd dx;have gd:=Zd sg;have db:=Zd al;have jg:=Zd cl;have gp:=Zb al 0 _ rfl;have gq:=Zb al 1 _ rfl;have gs:=Zb al 2 _ rfl;have gu:=Zb al 3 _ rfl;have gv:=Zb al 4 _ rfl;have el:=aA al;have ew:aD w.heap.size w wc:=cl.below bs bs.size (λq e=>by have e:q=w.heap.size+2:=e;omega);have fv:=Zd ew;have gn:=Zd ((cl.block _ (aA (ZE bg dd)) (λe=>by have e:w.heap.size+1=w.heap.size+2:=e;omega)).trans (ZE bg dd));clear dx sg al cl ew hcut KS df CP c1 kr;go_wp2_with fail;refine CK.mono ?_;rintro e w7 ⟨rfl,bi⟩;have fu:=Zd bi;have da:=Zd (Zf fv bi);have ap:=ZE bi db;have jv:=Zb ap 0 _ rfl;have jw:=Zb ap 1 _ rfl;have jx:=Zb ap 2 _ rfl;have jy:=Zb ap 3 _ rfl;have jz:=Zb ap 4 _ rfl;have kb:=aA ap;have v:=ZE bi gn;have v0:=Zb v 0 _ rfl;have ki:=Zg v 0;have v1:=Zb v 1 _ rfl;have kj:=Zg v 1;have v2:=Zb v 2 _ rfl;have kk:=Zg v 2;have v3:=Zb v 3 _ rfl;have kl:=Zg v 3;have v4:=Zb v 4 _ rfl;have km:=Zg v 4;have vl:=aA v;clear v;clear bi ap CK gp gq gs gu gv el;by_cases ey:y=0
    ·have aj:Hid ((x,bb)=(0,(pr,h,wk,nc,P8 h (r+Q) lk :: S3))):=(by have:=Za bu;rw[if_neg (λq=>q ey)] at this;exact this.symm);subst ey
     have fq:Hid (∀ W,Gr w7 W (λq=>q=w.heap.size+1)->MkR w W x bb (cY (cZ #[.agg #[E J pr,E J h,E J wk,E J nc,F ga kp gc],E J 0]))):=λW g=>by
      have fe:=Za aj;simp only[aU] at fe;obtain⟨rfl,rfl⟩:=fe;refine⟨ga,kp,gc,rfl,λW2 g2=>gb W2 ?_,Za gd,g.below da da.size (λq e=>by have e:q=w.heap.size+1:=e;omega)⟩;exact ((Gr.of fu).trans (g.mono (λq _ e=>by have e:q=w.heap.size+1:=e;omega))).trans (g2.mono (λq _ e=>by omega))
     clear aj bu;go_wp2;(try simp only[aV,Exit.then]);refine bA (v:=cZ #[.agg #[E J pr,E J h,E J wk,E J nc,F ga kp gc],E J 0]) ?_ rfl ?_
     ·rw[results_cell_tmp rfl];go_simp
     ·exact fq _ ((Gr.refl w7 (λq=>q=w.heap.size+1)).five (w.heap.size+1) (.inl rfl) _ _ _ _ _)
    ·have aj:Hid ((x,bb)=(y,Yq)):=(by have:=Za bu;rw[if_pos ey] at this;exact this.symm);have ks:(y != 0)=true:=(by simp[ey]);clear bu;go_wp2;(try simp only[aV,Exit.then]);refine bA (v:=cZ #[.agg #[E J 0,E J 0,E J 0,E J 0,F none 0 0],E J y]) ?_ rfl ?_
     ·rw[results_cell_tmp rfl];go_simp
     ·exact MkR.err (B:=w.heap.size+1) aj da ((Gr.refl w7 (λq=>q=w.heap.size+1)).five (w.heap.size+1) (.inl rfl) _ _ _ _ _) (by omega)
