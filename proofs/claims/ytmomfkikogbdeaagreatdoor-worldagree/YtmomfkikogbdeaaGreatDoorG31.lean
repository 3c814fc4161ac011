import Derived.Test.YtmomfkikogbdeaaGreatDoorH
import Derived.Test.YtmomfkikogbdeaaGreatDoorG30
open Go.Proofs.Tryz
open Go renaming lt_of_block->aA,bodyPost_ret->bB,wp_region_held_drew->dD
open Go.Act renaming put->aQ
open Go.Ending renaming returned->dF
open Go.Exit renaming inBlock->aV
open Go.IntKind renaming i64->J
open Go.Obj renaming cells->dE
open Go.Proofs.Tryz renaming prog->aB,underlying48->cV
open Go.Value renaming int->E,slice->F,tuple->dG,pointer->dH
open List renaming getElem?_eq_some_iff->aX,take_of_length_le->aS,length_take->bI,length_eq_zero_iff->aL,drop_eq_getElem_cons->aJ
open Nat renaming le_refl->aF,lt_of_lt_of_le->aD,le_trans->aN
open Prod.mk renaming injEq->aU
set_option maxHeartbeats 12800000
set_option maxRecDepth 10000
namespace Go.Proofs.YtmomfkikogbdeaaGreatDoor
open Go.RowKit
def AccR(w w':World)(x:Int)(K:List ByteArray)(L:List TxD)(e:Ending):Prop:=
 ∃ ka kn kc sa sn sc,e = dF (dG #[.agg #[F ka kn kc],F sa sn sc,E J x])/\Fresh w.heap.size w' (λw2=>Bk.TextsAt w2 ka kn K/\TxsAt w2 sa sn L)/\SlOk ka kn kc/\SlOk sa sn sc/\ZD w w'
theorem AccR.err{w w':World}{x y:Int}{K L}{b:Nat}{v}(h:(x,K,L)=(y,[],[]))(hb:ZD w w')(hB:w.heap.size<=b):AccR w (w'.setCell ⟨b,0,none⟩ v) x K L (dF (dG #[.agg #[F none 0 0],F none 0 0,E J y])):=by
 simp only[aU] at h;obtain⟨rfl,rfl,rfl⟩:=h;exact⟨_,_,_,_,_,_,rfl,λ_ _=>⟨Bk.TextsAt.nil _ _,RowsAt.nil _ _⟩,Zu,Zu,hb.setCell (p:=⟨b,0,none⟩) hB _⟩
theorem Mq(ad:Addr)(n c:Nat)(l:List (Int×Int))(w:World)(hn:n<=8796093022208)(hz:l.length=n)(hc:∀ j u,(Xe l)[j]? = some u->w.cell? (ad.add j)=some u) :
  Calls aB 150 #[F (some ad) n c] w λe w'=>∃ v,e = dF v/\w'.ownsRow w.heap.size 164 2 v n (Xe l)/\ZD w w':=by
 obtain⟨i0,hi,aq,ar,au⟩:=info_parts Tryz.infoOpC;have hb:=Zh w (dE #[] 164);have HC:Hid (∀ j u,(Xe l)[j]? = some u->(w.alloc (dE #[] 164)).cell? (ad.add j)=some u):=λj u hj=>Ze hb (hc j u hj);obtain⟨HB,HZ,HO⟩:=kh3 hb hz (We w 164 2);have he:=λw=>Lib.run_eql_slice_nil (P:=aB) w 48 164 (some ad) n c 0 0 cV;clear hc hb hz;go_enter func150,ntmps150
 go_wp2_with (at_builtin;refine wpList_append_own _ rfl _ _ 48 rfl w.heap.size 164 i0 (.agg #[E J 0,E J 0]) 2 16 cV hi aq ar au rfl (by decide) _ _ _ rfl HO ad n c (Xe l) rfl (by rw[Xh,Za HZ]) HC (Rh l) (by unfold maxLen;omega) (by omega) HB.size ?_;intro v2 w3 ag af _)
 have HW:Hid (w3.ownsRow w.heap.size 164 2 v2 n (Xe l)):=by show World.ownsRow _ _ _ _ _ _ _;simpa using ag
 have aj:=Zd (HB.grown af HB.size (Xn HO));clear ag af;go_wp2;go_ret;exact⟨v2,rfl,Za HW,Za aj⟩
theorem Fy(a)(n c:Nat)(l)(w:World)(hn:n<=8796093022208)(h:OpsAt w a n l)(hs:SlOk a n c) :
  Calls aB 150 #[F a n c] w λe w'=>∃ a' c',e = dF (F a' n c')/\Fresh w.heap.size w' (λw2=>OpsAt w2 a' n l)/\SlOk a' n c'/\ZD w w':=by
 obtain⟨hl,hc⟩:=h;cases a with
 | none=>
  obtain⟨rfl,rfl⟩:=hs.2.2 rfl;exact (Jz w).mono λe w' ⟨x,y⟩=>⟨none,0,x,λ_ _=>⟨hl,λh=>absurd h (by omega)⟩,hs,y ▸ Below.refl _ _⟩
 | some ad=>
  have aj:∀ j u,(Xe l)[j]? = some u->w.cell? (ad.add j)=some u:=λj u hj=>by
   have ar:j<l.length*2:=(by rw[<-Xh];exact (aX.1 hj).1);obtain⟨b,off,e,ak⟩:=hc (by omega);cases e;rw[Addr.add_lit];exact Jx hl ak j u hj
  refine (Mq ad n c l w hn hl aj).mono ?_;rintro e w' ⟨v,rfl,x,y⟩;obtain⟨a',c',rfl,h1,h2,h3⟩:=Rb x;refine⟨a',c',rfl,λw2 g2=>?_,h2,y⟩;obtain⟨a2,c2,e2,h4,_,_⟩:=Rb (g2.own x (λk hk e=>by have:=(x.lt k hk).1;omega));injection e2 with e2 _ _;subst e2;exact h4
theorem Zni(h v:Int)(a)(n c:Nat)(l)(w:World)(hn:n<=8796093022208)(hl:OpsAt w a n l)(hs:SlOk a n c) :
  Calls aB 84 #[E J h,E J v,F a n c] w λe w'=>∃ ao,e = dF (.agg #[E J h,F none 0 0,F ao 1 1])/\Fresh w.heap.size w' (λw2=>Tr.txR.C w2 [E J h,F none 0 0,F ao 1 1] (Kj h v l))/\ZD w w':=by
 obtain⟨X,hX,af,ah⟩:=ka00 w [E J 0,F none 0 0,F none 0 0] 59;have aj:X.heap.size=w.heap.size+1:=by rw[hX];simp
 obtain⟨C1,ar,au,ag⟩:=kh4 (Fy a n c l X hn (hl.later af) hs) af ah aj;clear hl hs af ah hn aj;go_enter func84,ntmps84;go_wp2_with fail;rw[<-hX];clear hX;(try go_wp2_with fail);refine C1.mono ?_;rintro e w1 ⟨a1,c1,rfl,hF,ap,ae⟩;have h1:=ZE ae au;obtain⟨t0,t1,t2,f0,f1,f2,tl⟩:=kf3 h1;have ab:=Zd (Zf ar ae)
 have aq:Hid (∀ W,Gr w1 W (λq=>q=w.heap.size)->W.heap[w1.heap.size]? = some (dE [E J v,F a1 n c1].toArray 122 (0,0))->Fresh w.heap.size W (λw2=>Tr.txR.C w2 [E J h,F none 0 0,F (some ⟨w1.heap.size,0,none⟩) 1 1] (Kj h v l))/\ZD w W):=λW g h2=>by
  refine⟨λw2 g2=>?_,g.below ab ab.size (λq e=>by rw[e];exact aF _)⟩;have gg:Gr w1 w2 (λq=>q<X.heap.size):=(g.mono (λq _ e=>by have:=Za ag;rw[e];omega)).trans (g2.mono (λq _ e=>by have:=Za ag;omega));have h3:=g2.heap h2 (by have:=ab.size;omega);refine⟨none,0,0,some ⟨w1.heap.size,0,none⟩,1,1,rfl,RowsAt.nil _ _,Zu,⟨rfl,λ_=>⟨w1.heap.size,0,rfl,aA h3,λi hi=>?_⟩⟩,⟨aF _,by decide,λe=>by cases e⟩⟩;have ei:i=0:=by simp[Kj] at hi;omega
  subst ei;exact⟨Zb h3 0 _ rfl,a1,n,c1,Zb h3 1 _ rfl,hF w2 gg,ap⟩
 clear hF ap ae h1 C1;go_wp2;(try simp only[aV,Exit.then]);refine bB (v:=.agg #[E J h,F none 0 0,F (some ⟨w1.heap.size,0,none⟩) 1 1]) ?_ rfl ?_
 ·rw[Yf rfl];go_simp
 ·refine⟨_,rfl,aq _ ?_ ?_⟩
  ·exact ((((Gr.refl w1 (λq=>q=w.heap.size)).one w.heap.size 0 (.inl rfl) _).one w.heap.size 1 (.inl rfl) _).one w.heap.size 2 (.inl rfl) _).new _
  ·have:=heap_alloc_new (((w1.setCell ⟨w.heap.size,0,none⟩ (E J h)).setCell ⟨w.heap.size,1,none⟩ (F none 0 0)).setCell ⟨w.heap.size,2,none⟩ (F (some ⟨w1.heap.size,0,none⟩) 1 1)) (dE #[E J v,F a1 n c1] 122);simpa[World.setCell] using this
theorem S8{P:Program}{w:World}{ah}{o:Oper}{a:Act}{K:Act->World->Prop}{Q:Exit->Act->World->Prop}{aa:Prop}(ab:o.guard=none)(s x:Operand)(t:TypeId)
  (ho:o.op = .call { callee:=.builtin .append,args:=#[s,x],argTypes:=#[t,t] })
  (base:Nat) (e:TypeId) (i:TypeInfo) (size:Nat) (ht:P.underlying t=some (.slice e)) (hi:P.info? e=some i)
  (v) (n:Nat) (xs) (hs:a.eval s=v) (ad:w.ownsRow base e size v n xs) (hx:a.eval x = F none 0 0)
  (h:K (a.put o.dst v) w):if Region.wanted o (yielded ah a.tmps)=true then Oper.wp P o a w K Q else aa:=by
 rw[if_pos (by simp[Region.wanted,ab])];have ae:=run_append_owned_none (P:=P) (w:=w) base t o.type e i size ht hi v n xs ad;unfold Oper.wp;simp[execOp,ho,resolve,invoke,builtin,hs,hx,ae,Result.andThen];exact h
theorem Gr.five{w w1:World}{S:Nat->Prop}(h:Gr w w1 S)(b:Nat)(hb:S b\/w.heap.size<=b)(a0 a1 a2 a3 a4):Gr w (((((w1.setCell ⟨b,0,none⟩ a0).setCell ⟨b,1,none⟩ a1).setCell ⟨b,2,none⟩ a2).setCell ⟨b,3,none⟩ a3).setCell ⟨b,4,none⟩ a4) S:=
 ((((h.one b 0 hb a0).one b 1 hb a1).one b 2 hb a2).one b 3 hb a3).one b 4 hb a4
def MkI(b b2 lo hi N0:Nat)(C0:List Zj)(p:Nat)(D:Nat->Prop)(w:World)(X:List (TxD×List Zj)):Prop:=
 ∃ va vc K,St b p w (.slice va ((X.take 3).map (·.1)).length vc) K ((X.take 3).map (·.1))/\FeI w b2 (Zp C0 - Zp (Y6 C0 (X.take 3)))/\N0<=p/\D=DV lo hi (.slice va ((X.take 3).map (·.1)).length vc)/\0<=Zp C0 - Zp (Y6 C0 (X.take 3))/\((X=[]/\va=none/\vc=0)\/(X≠[]/\Zp C0<=1000000000/\Yd (Y6 C0 (X.take 3))))
theorem Zrd(b b2 lo hi:Nat)(w0:World)(C0)(hb:w0.heap[b]? = some (dE #[F none 0 0] 37 (0,0)))(au:FeI w0 b2 0)(h1:lo<=b/\b<hi)(h2:lo<=b2/\b2<hi)(ay:b≠b2)(ax:hi<=w0.heap.size) :
  Zro 82 #[dH (some ⟨b,0,none⟩),dH (some ⟨b2,0,none⟩)] w0 C0 (D0 lo hi) (MkI b b2 lo hi w0.heap.size C0) where
 enters:=enters_of (fn:=Tryz.f82) (by kernel_rfl) (by kernel_rfl) rfl
 start p w hw hp pl:=⟨none,0,[],St.start ((hw.block b (by omega)).trans hb) (by omega) pl,by
  have:Zp C0 - Zp (Y6 C0 (List.take 3 []))=0:=by rw[List.take_nil,Ve];omega
  unfold FeI;rw[this];exact (hw.block b2 (by omega)).trans au,hp,rfl,by rw[List.take_nil,Ve];omega,.inl ⟨rfl,rfl,rfl⟩⟩
 dirty p D w X:=by
  rintro ⟨va,vc,K,h,_,hp,rfl,_⟩ q hq;exact DV.dirty h ax hp q hq
 on p D w w' X:=by
  rintro ⟨va,vc,K,h,hf,hp,hD,r⟩ g;exact⟨va,vc,K,h.on g (λq e=>by subst e;exact⟨aF _,by omega⟩),(g.block b2 (aA hf) (λe=>by have e:b2=p:=e;omega)).trans hf,hp,hD,r⟩
 call p D wA w X t C' u0 u1 u2:=by
  rintro ⟨va,vc,K,h,hf,hp,rfl,h0,hr⟩ ag hF r1 r2 r3 hl;by_cases h3:X.length<3
  ·have et:X.take 3=X:=aS (by omega);have aa:(X++[(t,C')]).take 3=X++[(t,C')]:=aS (by rw[List.length_append];simp;omega);rw[et] at h hf h0 hr ⊢
   have hs:Zp C0<=1000000000:=by
    rcases hr with ⟨rfl,_⟩|hr
    ·rw[Ve] at r1;exact r1.sum
    ·exact hr.2.1
   have n1:=Hu r1;have n2:=Hu r2;have n3:=r1.sum;refine (Zkl b b2 p va vc K (X.map (·.1)) _ u0 u1 u2 t wA w h _ hf ay (by omega) h0 (by omega) (by omega) (by omega) ag hF (by rw[List.length_map];exact h3)).mono ?_;rintro e w' ⟨rfl,⟨v',K',hS,av⟩,hg⟩;obtain⟨a,c,rfl,_,_⟩:=hS.txs;have e1:(X++[(t,C')]).map (·.1)=X.map (·.1)++[t]:=(by simp);refine⟨rfl,hg.mono (λq _ e=>?_),DV lo hi (.slice a (((X++[(t,C')]).take 3).map (·.1)).length c),a,c,K',?_,?_,hp,rfl,?_,.inr ⟨by simp,hs,?_⟩⟩
   ·rcases e with (e|e)|e
    ·subst e;exact .inl h1
    ·subst e;exact .inl h2
    ·exact .inr e
   ·rw[aa,e1];exact hS
   ·rw[aa,Wj];have:Zp C0 - Zp (Y6 C0 X)+(Zp (Y6 C0 X) - Zp C')=Zp C0 - Zp C':=(by omega);rw[<-this];exact av
   ·rw[aa,Wj];omega
   ·rw[aa,Wj];exact r2
  ·have aa:(X++[(t,C')]).take 3=X.take 3:=List.take_append_of_le_length (by omega);refine (Zbm b b2 p va vc K ((X.take 3).map (·.1)) _ u0 u1 u2 t wA w h ag hF (by rw[List.length_map,bI];omega)).mono ?_;rintro e w' ⟨rfl,aj⟩;have ak:=Zf ag aj;refine⟨rfl,Gr.of aj,DV lo hi (.slice va ((X.take 3).map (·.1)).length vc),va,vc,K,?_,?_,hp,?_,?_,.inr ?_⟩
   ·rw[aa];exact h.on (Gr.of (S:=λ_=>False) ak) (λ_ q=>q.elim)
   ·rw[aa];exact (ak.block b2 (aA hf)).trans hf
   ·rw[aa]
   ·rw[aa];exact h0
   ·rw[aa]
    rcases hr with ⟨rfl,_⟩|hr
    ·exact absurd h3 (by simp)
    ·exact⟨by simp,hr.2⟩
def Rn(b:Zk)(a:Option Addr)(n c:Nat):Value:=.agg #[E J b.1,E J b.2.1,E J b.2.2.1,E J b.2.2.2.1,F a n c]
def MkR(w w':World)(x:Int)(b:Zk)(e:Ending):Prop:=
 ∃ a n c,e = dF (dG #[Rn b a n c,E J x])/\Fresh w.heap.size w' (λw2=>TxsAt w2 a n b.2.2.2.2)/\SlOk a n c/\ZD w w'
theorem MkR.err{w w1 w':World}{x y:Int}{b:Zk}{B:Nat}(h:(x,b)=(y,Yx))(hb:ZD w w1)(hg:Gr w1 w' (λq=>q=B))(hB:w.heap.size<=B):MkR w w' x b (dF (dG #[.agg #[E J 0,E J 0,E J 0,E J 0,F none 0 0],E J y])):=by
 simp only[aU] at h;obtain⟨rfl,rfl⟩:=h;exact⟨none,0,0,rfl,λ_ _=>RowsAt.nil _ _,Zu,hg.below hb hb.size (λq e=>by rw[e];exact hB)⟩
def Zpr(w1 wx:World)(B P:Nat)(p h wk nc:Int)(T:List TxD):Prop:=
 ∃ g n c,wx.heap[B]? = some (dE [E J p,E J h,E J wk,E J nc,F g n c].toArray 39 (0,0))/\(∀ W2,Gr wx W2 (λq=>q<=P)->TxsAt W2 g n T)/\SlOk g n c/\Gr w1 wx (λq=>q=B)
theorem Ef{w1 W6:World}{B P:Nat}{p h wk nc:Int}{T:List TxD}{g:Nat}{n c base:Nat}{K:List (List Value)}(hn:T.length=n)(aj:W6.heap[B]? = some (dE [E J p,E J h,E J wk,E J nc,F none 0 0].toArray 39 (0,0)))(ad:W6.ownsRow base 59 3 (F (some ⟨g,0,none⟩) n c) n K.flatten)(aq:P<base)(hB:B<=P)
  (hk:∀ W2,Gr W6 W2 (λq=>q<=P)->Tr.AllC Tr.txR W2 K T) (hg:Gr w1 W6 (λq=>q=B)):Zpr w1 (W6.setCell ⟨B,4,none⟩ (F (some ⟨g,0,none⟩) n c)) B P p h wk nc T:=by
 have g1:Gr W6 (W6.setCell ⟨B,4,none⟩ (F (some ⟨g,0,none⟩) n c)) (λq=>q=B):=(Gr.refl W6 (λq=>q=B)).one B 4 (.inl rfl) _
 have rd:∀ W2,Gr W6 W2 (λq=>q<=P)->TxsAt W2 (some ⟨g,0,none⟩) n T/\SlOk (some ⟨g,0,none⟩) n c:=λW2 g2=>by
  have o:=g2.own ad (λk hk e=>by have:=(ad.lt k hk).1;omega);obtain⟨a',c',e,h1,h2⟩:=Tr.rows_of_own Tr.txR o (hk W2 g2) hn;injection e with e1 _ e3;subst e1 e3;exact⟨h1,h2⟩
 exact⟨some ⟨g,0,none⟩,n,c,Tr.set_cells aj 4 _,λW2 g2=>(rd W2 ((g1.mono (λq _ e=>by have e:q=B:=e;omega)).trans g2)).1,(rd W6 (Gr.refl _ _)).2,hg.trans g1⟩
theorem Zjm(ka kn kc K la ln lc C a m c L)(pr ht wk nc:Int)(ta tn tc lk)(h x:Int)(bb:Zk)(w)
  (hE:Env w) (hK:Bk.TextsAt w ka kn K) (hC:CoinsAt w la ln C) (sC:SlOk la ln lc) (hL:TxsAt w a m L) (hT:OpsAt w ta tn lk) (sT:SlOk ta tn tc) (hn:tn<=8796093022208) (hh:IntKind.i64.wrap (ht+1)=h) (hx:mkE K C L pr h wk nc lk=(x,bb)) :
  Calls aB 26 #[.agg #[F ka kn kc],F la ln lc,F a m c,E J pr,E J ht,E J wk,E J nc,F ta tn tc] w λe w'=>MkR w w' x bb e:=by
 obtain⟨i0,hi,ie,ig,ih⟩:=info_parts Tryz.infoTx9;obtain⟨X,hX⟩:=ZG (Yv w [dE #[F ka kn kc] 24,dE #[E J 0,E J 0,E J 0,E J 0,F none 0 0] 39,dE #[E J pr,E J h,E J wk,E J nc,F none 0 0] 39,dE #[F none 0 0] 37,dE #[E J 0] 3]);have bs:ZD w X:=by rw[hX];exact Zs _ _
 have el:X.heap.size=w.heap.size+5:=by rw[hX];exact Z0 _ _
 have x0:X.heap[w.heap.size]? = some (dE #[F ka kn kc] 24 (0,0)):=by rw[hX];exact Zl _ w 0 _ rfl
 have x1:=kl hX 1 _ _ rfl;have x2:=kl hX 2 _ _ rfl;have x3:X.heap[w.heap.size+3]? = some (dE #[F none 0 0] 37 (0,0)):=by rw[hX];exact Zl _ w 3 _ rfl
 have x4:X.heap[w.heap.size+4]? = some (dE #[E J 0] 3 (0,0)):=by rw[hX];exact Zl _ w 4 _ rfl
 have ek:X=((((w.alloc (dE #[F ka kn kc] 24)).alloc (dE #[E J 0,E J 0,E J 0,E J 0,F none 0 0] 39)).alloc (dE #[E J pr,E J h,E J wk,E J nc,F none 0 0] 39)).alloc (dE #[F none 0 0] 37)).alloc (dE #[E J 0] 3):=hX;have ei:=Zrd (w.heap.size+3) (w.heap.size+4) (w.heap.size+3) (w.heap.size+5) X C x3 x4 (by omega) (by omega) (by omega) (by omega);have dg:∀ V,Gr X V (D0 (w.heap.size+3) (w.heap.size+5))->ZD w V:=λV g=>g.below bs bs.size (λq e=>by have:=e.ge;omega);obtain⟨ce,ca⟩:=ZF (swE K C L h);have C1:=Zd (Nl _ _ _ _ ka kn kc K la ln lc C a m c L h ce X ei w dg hE hK hC sC hL ca);obtain⟨S3,bq⟩:=ZF ((Z5 h L (K,C)).1.take 3);have e1:((swT h L (K,C)).take 3).map (·.1)=S3:=by rw[List.map_take,J6,bq]
 obtain⟨ab,hF⟩:=ZF (Zky h L K C);obtain⟨⟨r,r2⟩,hr⟩:=ZF (rwD h);obtain⟨n,dh⟩:=ZF (S3.length);have ji:n<=3:=by rw[<-dh,<-bq,bI];omega
 obtain⟨y,hy⟩:=ZF (Yq (pr,h,wk,nc,Kj h (r+ab) lk :: S3));unfold mkE at hx;simp only[ca,bq,hF,hr,hy] at hx;obtain⟨HX,cj,gd,ft,cl,ed,gc,eb⟩:=kh8 hx bs el dg x1 x2 ca e1;obtain⟨HF,HR,ap,HY,HT,fz,gb⟩:=kh7 hF hr dh hy hT sT hn;have t0:=Zb (X:=[F ka kn kc]) x0 0 _ rfl;have tl:=aA x0;obtain⟨-,g1,kq⟩:=kc2 x2;clear hE hK hC sC hL hx ca bs el x0 x1 x2 x3 x4 hX ei dg e1 hF hr dh hy hT sT bq hn;go_enter func26,ntmps26;go_wp2_with fail;rw[<-ek];clear ek hh;(try go_wp2_with fail);refine C1.mono ?_;rintro e w1 ic
 rcases ic with ⟨h0,rfl,au⟩|⟨h0,p,D,rfl,hp,dd,hd,hI⟩
 ·have y:=ZE au cl;obtain⟨y0,y1,y2,y3,y4,iu,iv,iw,ix,iy,yl⟩:=kf5 y;clear y;have kr:(ce != 0)=true:=by simp[h0]
  have aj:Hid ((x,bb)=(ce,Yx)):=by have:=Za HX;rw[if_pos h0] at this;exact this.symm
  have HB:=Zd (Zf cj au);clear au C1 HX;go_wp2;(try simp only[aV,Exit.then]);refine bB (v:=dG #[.agg #[E J 0,E J 0,E J 0,E J 0,F none 0 0],E J ce]) ?_ rfl ?_
  ·rw[results_cell_tmp rfl];go_simp
  ·exact MkR.err (B:=w.heap.size+1) aj HB ((Gr.refl w1 (λq=>q=w.heap.size+1)).five (w.heap.size+1) (.inl rfl) _ _ _ _ _) (by omega)
 ·subst h0;obtain⟨va,vc,Kl,hS,hf,_,_,gx,db⟩:=hI;rw[Za eb,Za ap] at hS;have bu:Zp C - Zp (Y6 C ((swT h L (K,C)).take 3))=ab:=Za HF;rw[bu] at hf gx;have au:=ft w1 dd;have z1:=(dd.block _ (aA cl) (λe=>by have:=e.ge;omega)).trans cl;have z2:=(dd.block _ (aA ed) (λe=>by have:=e.ge;omega)).trans ed;have di:=Tg (Ht gc).1
  have ib:r2=0/\0<=r/\r<=64:=by
   have q:=Za HR;unfold rwD at q;rw[if_pos (by simp[di.2.2.1,di.2.2.2])] at q;injection q with q1 q2;have:=H8 ((h - 1).toNat / 8);exact⟨q2.symm,by omega,by omega⟩
  obtain⟨rfl,jm,jn⟩:=ib
  have jh:ab<=1000000000:=by
   rcases db with q|q
   ·rw[<-bu,q.1,List.take_nil,Ve];omega
   ·rw[<-bu];have:=Hu q.2.2;omega
  have eu:n=0->va=none/\vc=0:=λq0=>by
   rcases db with q|q
   ·exact q.2
   ·have q1:=congrArg List.length eb;rw[List.length_map,bI,Za ap,q0] at q1;exact absurd (aL.1 (by omega)) q.1
  have CR:=Zd (λV=>Nk h r 0 V HR);obtain⟨HS,fm,cm,gg,HP,fs,fu⟩:=kh7 hS au z1 z2 hp hf eu;obtain⟨-,b0,bl⟩:=kc2 z2;clear au z1 di hS bu z2 C1 hd hf db eu;go_wp2_with fail;refine (CR _).mono ?_;rintro e w2 ⟨rfl,br⟩;obtain⟨be,aw⟩:=kh2 (Zf fm br) br;have bt:=ZE br fs;have f0:=Zb (X:=[_]) bt 0 _ rfl;have fl:=aA bt;have iz:=Zd bt;clear br CR b0 bl bt;by_cases e0:r+ab=0
  ·have y:=ZE aw cm;obtain⟨y0,y1,y2,y3,y4,iu,iv,iw,ix,iy,yl⟩:=kf5 y;clear y;have aj:Hid ((x,bb)=(9,Yx)):=(by have:=Za HX;rw[if_neg (λq=>q rfl),if_pos e0] at this;exact this.symm);have g0:(r+ab == 0)=true:=(by simp[e0]);clear HX;go_wp2;(try simp only[aV,Exit.then]);refine bB (v:=dG #[.agg #[E J 0,E J 0,E J 0,E J 0,F none 0 0],E J 9]) ?_ rfl ?_
   ·rw[results_cell_tmp rfl];go_simp
   ·exact MkR.err (B:=w.heap.size+1) aj be ((Gr.refl w2 (λq=>q=w.heap.size+1)).five (w.heap.size+1) (.inl rfl) _ _ _ _ _) (by omega)
  ·have g0:(r+ab == 0)=false:=(by simp[e0]);have dl:=Za HX;rw[if_neg (λq=>q rfl),if_neg e0] at dl;have bg:=Zd dl;clear dl HX;have jk:w.heap.size+5<=p:=(by have:=Za gd;have:=Za HP;omega);have ax:=HS.on (Gr.of (S:=λ_=>False) aw) (λ_ q=>q.elim);have bf:=Zd ax;have cf:=ZE aw gg;have cn:=Zd cf;obtain⟨-,c1,ko⟩:=kc2 cf;have d0:=Zb (X:=[_]) ax.box 0 _ rfl;have km:=aA ax.box;have CP:=Zd (λV (hv:ZD w V)=>Zni h (r+ab) ta tn tc lk V gb (HT.later hv) fz);have jl:=ax.pl;have jo:IntKind.i64.wrap (r+ab)=r+ab:=(by rw[IntKind.wrap_i64];omega);have KS:Hid (∀ U:World,Gr w2 U (λq=>p<q)->((U.cell? ⟨w.heap.size+4,0,none⟩=some (E J ab)/\w.heap.size+4<U.heap.size)/\(U.cell? ⟨w.heap.size+2,1,none⟩=some (E J h)/\w.heap.size+2<U.heap.size)/\U.cell? ⟨w.heap.size+3,0,none⟩=some (F va n vc)/\w.heap.size+3<U.heap.size)):=λU hu=>⟨⟨hu.cell f0 (by simp;omega),aD fl hu.size⟩,⟨hu.cell c1 (by simp;omega),aD ko hu.size⟩,hu.cell d0 (by simp;omega),aD km hu.size⟩
   have cp:Hid (∀ (U:World) (v:Value),Gr w2 U (λq=>p<q)->(λU:World=>(U.cell? ⟨w.heap.size+4,0,none⟩=some (E J ab)/\w.heap.size+4<U.heap.size)/\(U.cell? ⟨w.heap.size+2,1,none⟩=some (E J h)/\w.heap.size+2<U.heap.size)/\U.cell? ⟨w.heap.size+3,0,none⟩=some (F va n vc)/\w.heap.size+3<U.heap.size) (U.setCell ⟨w.heap.size+2,4,none⟩ v)):=λU v hu=>by
    have hg:=(Gr.refl U (λq=>q=w.heap.size+2)).one (w.heap.size+2) 4 (.inl rfl) v;have hh:=(Gr.refl w2 (λq=>p<q)).trans hu;have hz:=Tr.set_cells (hu.heap cf (by omega)) 4 v;exact⟨⟨hg.cell (hu.cell f0 (by simp;omega)) (by simp),aD fl (aN hu.size hg.size)⟩,⟨Zb hz 1 _ rfl,aA hz⟩,hg.cell (hu.cell d0 (by simp;omega)) (by simp),aD km (aN hu.size hg.size)⟩
   clear ax cf
   go_upto_region 12 with fail
   clear f0 fl d0 km
   go_cut [] from 60 to 70 (λwx=>Hid (Zpr w2 wx (w.heap.size+2) p pr h wk nc (Kj h (r+ab) lk :: S3)))
   case first=>
    refine dD (S:=λU=>(U.cell? ⟨w.heap.size+4,0,none⟩=some (E J ab)/\w.heap.size+4<U.heap.size)/\(U.cell? ⟨w.heap.size+2,1,none⟩=some (E J h)/\w.heap.size+2<U.heap.size)/\U.cell? ⟨w.heap.size+3,0,none⟩=some (F va n vc)/\w.heap.size+3<U.heap.size) (by kernel_rfl) (KS _ (Gr.of (Zi _))) (λaa=>?_);refine tkL 0 rfl aa ?_;refine tkL 1 rfl aa ?_;refine tkL 2 rfl aa ?_;refine tkL 3 rfl aa ?_;refine tkL 4 (v:=E J (r+ab)) rfl aa ?_;refine tkL 5 rfl aa ?_;refine tkL 8 rfl aa ?_;refine rdS 6 rfl (CP w2.drew (Zf be (Zi _))) ?_;rintro e w4 ⟨po,rfl,gq,gv⟩;have cy:ZD w2 w4:=Zf (Zi w2) gv;clear aa;refine⟨_,rfl,(KS _ (Gr.of cy)),λaa=>?_⟩;(try simp only[aQ,ZA,ZB,ZC]);refine rdY 7 rfl (λKQ hK=>?_);go_simp;obtain⟨w5,bz⟩:=ZG (w4.alloc (dE #[E J h,F none 0 0,F po 1 1] 59));rw[<-bz];have cz:ZD w4 w5:=(by rw[bz];exact Zh _ _);have h5:w5.heap[w4.heap.size]? = some (dE #[E J h,F none 0 0,F po 1 1] 59 (0,0)):=(by rw[bz];exact Zw _ _ _ _ _);have ah:=Zf cy cz;have dp:w5.ownsRow w4.heap.size 59 3 (F (some ⟨w4.heap.size,0,none⟩) 1 1) 1 [E J h,F none 0 0,F po 1 1]:=⟨rfl,.inr ⟨w4.heap.size,1,_,rfl,aF _,h5,aF _,by decide,rfl,rfl⟩⟩;have z5:=ZE ah cn;clear bz;clear aa;refine hK.out _ _ (KS _ (Gr.of ah)) (λaa=>?_);clear hK KQ;(try simp only[aQ,ZA,ZB,ZC]);have jv:=cy.size;have jw:=cz.size
    have ee:Hid (∀ W2,Gr w5 W2 (λq=>q<=p\/w4.heap.size<=q)->Tr.AllC Tr.txR W2 ([E J h,F none 0 0,F po 1 1] :: Kl) (Kj h (r+ab) lk :: S3)):=λW2 g2=>by
     have k1:=bf.kept W2 ((Gr.of ah).far g2 (λq e=>by rcases e with e|e;exact .inr (.inl e);exact .inl (by omega)));have k2:=gq W2 ((Gr.of cz).far g2 (λq e=>by have:w2.drew.heap.size=w2.heap.size:=rfl;rcases e with e|e;exact .inr (by omega);exact .inl e));refine⟨by simp[k1.1],λi h1 h2=>?_⟩;cases i with
     | zero=>exact k2
     | succ i=>exact k1.2 i (by simpa using h1) (by simpa using h2)
    by_cases n0:n=0
    ·obtain⟨rfl,rfl⟩:=fu n0;subst n0
     have gu:Kl=[]:=by
      have k1:=(bf.kept w2 (Gr.refl _ _)).1;rw[Za ap] at k1;exact aL.1 k1
     refine rdY 9 rfl (λKQ hK=>?_);refine S8 rfl _ _ 37 rfl w4.heap.size 59 i0 3 underlying37 hi (F (some ⟨w4.heap.size,0,none⟩) 1 1) 1 _ rfl dp rfl ?_;clear aa;refine hK.out _ _ (KS _ (Gr.of ah)) (λaa=>?_);clear hK KQ;refine tkL 10 rfl aa ?_;obtain⟨-,-,-,-,y4,-,-,-,-,yf,yl⟩:=kf5 z5;refine rdY 11 rfl (λKQ hK=>?_);go_simp;clear aa;refine hK.out _ _ (cp _ _ (Gr.of ah)) (λaa=>?_);clear hK KQ;(try simp only[aQ]);refine wpAnyH_done (by kernel_rfl) ?_ _;clear aa;go_wp2_with fail;go_meet
     case rel=>exact Ef (K:=[Value.int .i64 h,F none 0 0,F po 1 1] :: Kl) (base:=w4.heap.size) (by rw[List.length_cons,Za ap]) z5 (by rw[gu];exact dp) (by omega) (by omega) (λW2 g2=>ee W2 (g2.mono (λq _ e=>.inl e))) (Gr.of ah)
    ·have own2:=(Gr.of (S:=λ_=>False) ah).own bf.own (λ_ _ q=>q);rw[Za ap] at own2
     obtain⟨vg,rfl⟩:∃ vg:Nat,va=some ⟨vg,0,none⟩:=by
      rcases own2.2 with ⟨q,q2⟩|⟨g,cap,jc,q,_⟩
      ·exact absurd q2 n0
      ·injection q with q _ _;exact⟨g,q⟩
     have es:Kl.flatten.length=n*3:=own2.1
     have ij:∀ j u,Kl.flatten[j]? = some u->w5.cell? ((⟨vg,0,none⟩:Addr).add j)=some u:=λj u hj=>by
      have gz:j<n*3:=(by rw[<-es];exact (aX.1 hj).1);rw[Addr.add_lit,Nat.zero_add,own2.cellAt j gz];exact hj
     have ik:∀ u∈Kl.flatten,u.oneCell'=true:=Tr.flat_one (bf.kept w2 (Gr.refl _ _));refine rdY 9 rfl (λKQ hK=>?_);refine step_append_lies _ rfl _ _ 37 rfl w4.heap.size 59 i0 (.agg #[E J 0,F none 0 0,F none 0 0]) 3 56 underlying37 hi ie ig ih rfl (by decide) (F (some ⟨w4.heap.size,0,none⟩) 1 1) 1 _ rfl dp ⟨vg,0,none⟩ n vc Kl.flatten rfl es ij ik (by omega) (by unfold maxLen;omega) (by omega) (by omega) _ rfl ?_;intro g6 jb w6 ia gy jj _;have df:Gr w5 w6 (λq=>q=w4.heap.size):=(Gr.refl w5 _).grown gy (λq e=>.inl (by injection e with e;exact e.symm));have de:Gr w2 w6 (λq=>p<q):=(Gr.of ah).trans (df.mono (λq _ e=>by have e:q=w4.heap.size:=e;omega));have z6:=(de.block _ (aA cn) (by omega)).trans cn;clear aa;refine hK.out _ _ (KS _ de) (λaa=>?_);clear hK KQ;refine tkL 10 rfl aa ?_;obtain⟨-,-,-,-,y4,-,-,-,-,yf,yl⟩:=kf5 z6;refine rdY 11 rfl (λKQ hK=>?_);go_simp;clear aa;refine hK.out _ _ (cp _ _ de) (λaa=>?_);clear hK KQ;(try simp only[aQ]);refine wpAnyH_done (by kernel_rfl) ?_ _;clear aa;go_wp2_with fail;go_meet
     case rel=>exact Ef (K:=[Value.int .i64 h,F none 0 0,F po 1 1] :: Kl) (base:=w4.heap.size) (by rw[List.length_cons,Za ap];omega) z6 ia (by omega) (by omega) (λW2 g2=>ee W2 ((df.mono (λq _ e=>.inr (by have e:q=w4.heap.size:=e;omega))).trans (g2.mono (λq _ e=>.inl e)))) ((Gr.of ah).far df (λq e=>.inl (by have e:q=w4.heap.size:=e;omega)))
   case rest=>
    obtain⟨ga,kj,ki,da,dk,sg,bx⟩:=Za hcut;obtain⟨CK,fw,fy,cj,ja⟩:=kh5 (W3 pr h wk nc ga kj ki (Kj h (r+ab) lk :: S3) y wc (dk wc (Gr.refl _ _)) HY) dk sg da bx;obtain⟨gi,gj,gl,gm,gn,kp⟩:=kc5 da;have eo:ZD w wc:=bx.below be be.size (λq e=>by have e:q=w.heap.size+2:=e;omega);obtain⟨fp,gh⟩:=kh2 eo ((bx.block _ (aA (ZE aw cm)) (λe=>by have e:w.heap.size+1=w.heap.size+2:=e;omega)).trans (ZE aw cm));clear dk sg da bx eo hcut KS cp CP c1 ko;go_wp2_with fail;refine CK.mono ?_;rintro e w7 ⟨rfl,ay⟩;obtain⟨fo,cg⟩:=kh2 ay (Zf fp ay);have en:=ZE ay cj;obtain⟨jp,jq,jr,js,jt,ju⟩:=kc5 en;have v:=ZE ay gh;obtain⟨v0,v1,v2,v3,v4,jz,kb,kd,ke,kf,vl⟩:=kf5 v;clear v;clear ay en CK gi gj gl gm gn kp;by_cases ey:y=0
    ·have aj:Hid ((x,bb)=(0,(pr,h,wk,nc,Kj h (r+ab) lk :: S3))):=(by have:=Za bg;rw[if_neg (λq=>q ey)] at this;exact this.symm);subst ey
     have fk:Hid (∀ W,Gr w7 W (λq=>q=w.heap.size+1)->MkR w W x bb (dF (dG #[.agg #[E J pr,E J h,E J wk,E J nc,F ga kj ki],E J 0]))):=λW g=>by
      have ew:=Za aj;simp only[aU] at ew;obtain⟨rfl,rfl⟩:=ew;refine⟨ga,kj,ki,rfl,λW2 g2=>fw W2 ?_,Za fy,g.below cg cg.size (λq e=>by have e:q=w.heap.size+1:=e;omega)⟩;exact ((Gr.of fo).trans (g.mono (λq _ e=>by have e:q=w.heap.size+1:=e;omega))).trans (g2.mono (λq _ e=>by omega))
     clear aj bg;go_wp2;(try simp only[aV,Exit.then]);refine bB (v:=dG #[.agg #[E J pr,E J h,E J wk,E J nc,F ga kj ki],E J 0]) ?_ rfl ?_
     ·rw[results_cell_tmp rfl];go_simp
     ·exact fk _ ((Gr.refl w7 (λq=>q=w.heap.size+1)).five (w.heap.size+1) (.inl rfl) _ _ _ _ _)
    ·have aj:Hid ((x,bb)=(y,Yx)):=(by have:=Za bg;rw[if_pos ey] at this;exact this.symm);have ks:(y != 0)=true:=(by simp[ey]);clear bg;go_wp2;(try simp only[aV,Exit.then]);refine bB (v:=dG #[.agg #[E J 0,E J 0,E J 0,E J 0,F none 0 0],E J y]) ?_ rfl ?_
     ·rw[results_cell_tmp rfl];go_simp
     ·exact MkR.err (B:=w.heap.size+1) aj cg ((Gr.refl w7 (λq=>q=w.heap.size+1)).five (w.heap.size+1) (.inl rfl) _ _ _ _ _) (by omega)
def Xz(N:List Int)(T:List Zk)(tip:Int):Int:=(Tr.blockE N T tip).1.2.1
section
variable {Z : Nat -> Prop} {w : World} {d bm m : Nat} {ka na ba pa : Option Addr} {kn kc nn nc bn bc pn pc : Nat} {K : List ByteArray} {N : List Int} {T : List Zk} {P : List TxD} {tip : Int} {f : Int -> Value} {β : Int -> List Zj}
theorem Rj(h:DeskAt Z w d bm m ka kn kc K na nn nc N ba bn bc T pa pn pc P tip f β)(ht:(Lit.int .i64 tip).wf=true) :
  ZH 108 #[.pointer (some ⟨d,0,none⟩)] w (f tip):=by
 have hl:=h.mp.drew_look tip ht;obtain⟨-,-,-,-,c4,c5,dl⟩:=kc6 h.box;have HB:=Zd (Zi w);obtain⟨v,hv⟩:=ZF (f tip);rw[hv] at hl ⊢;clear h ht hv;go_enter func108,ntmps108;go_wp2
 go_region
 go_wp2;go_ret;exact⟨rfl,Za HB⟩
theorem Tl(h:DeskAt Z w d bm m ka kn kc K na nn nc N ba bn bc T pa pn pc P tip f β)(z:Int)(hz:Xz N T tip=z) :
  ZH 165 #[dH (some ⟨d,0,none⟩)] w (E J z):=by
 obtain⟨⟨⟨bp,br,bw,bo,bT⟩,y⟩,hx⟩:=ZF (Tr.blockE N T tip);have ax:z=br:=by rw[<-hz];unfold Xz;rw[hx]
 subst ax;have CB:=Zd (λV (hv:ZD w V)=>Tr.block_is na ba nn nc bn bc N T tip (bp,z,bw,bo,bT) y V (h.later hv).now.n (h.later hv).now.b h.sn h.sb hx);obtain⟨-,c1,c2,-,c4,dl⟩:=kc5 h.box;have KS:Hid (∀ U:World,ZD w U->(U.cell? ⟨d,1,none⟩=some (F na nn nc)/\U.cell? ⟨d,2,none⟩=some (F ba bn bc)/\U.cell? ⟨d,4,none⟩=some (E J tip)/\d<U.heap.size)):=λU hu=>⟨Ze hu c1,Ze hu c2,Ze hu c4,aD dl hu.size⟩;clear h hx hz c1 c2 c4 dl;go_enter func165,ntmps165;go_wp2_with fail
 go_cut [3,4] from 5 to 18 (λs3 s4 wx=>∃ u,s3 = dH (some ⟨u,0,none⟩)/\Hid (wx.cell? ⟨u,1,none⟩=some (E J z)/\u<wx.heap.size)/\Hid (ZD w wx))
 case first=>
  refine dD (S:=λU=>(U.cell? ⟨d,1,none⟩=some (F na nn nc)/\U.cell? ⟨d,2,none⟩=some (F ba bn bc)/\U.cell? ⟨d,4,none⟩=some (E J tip)/\d<U.heap.size)) (by kernel_rfl) (KS _ (Zi _)) (λaa=>?_);refine tkL 0 rfl aa ?_;refine tkL 1 rfl aa ?_;refine tkL 2 rfl aa ?_;refine tkL 3 rfl aa ?_;refine tkL 4 rfl aa ?_;refine tkL 5 rfl aa ?_;refine tkL 6 rfl aa ?_;refine tkL 7 rfl aa ?_;refine tkL 8 rfl aa ?_;refine tkL 9 rfl aa ?_;refine wpAnyH_ready (rs:=[10,14]) (by kernel_rfl) (by simp) ?_;refine rdC rfl (λKQ hK=>?_) (rdC rfl (λKQ hK=>?_) AllReadyH.nil)
  ·refine Zm (by kernel_rfl) 20 #[.agg #[F na nn nc,F ba bn bc],E J tip] (by kernel_rfl) (CB w.drew (Zi w)) ?_;rintro e w5 ⟨ta,tn,tc,rfl,-,-,ah⟩;refine⟨_,rfl,?_⟩;have hb:ZD w w5:=Zf (Zi w) ah;clear aa;refine hK.out _ _ (KS _ hb) (λaa=>?_);clear hK KQ;refine tkL 11 rfl aa ?_;refine tkL 12 rfl aa ?_;refine tkL 13 rfl aa ?_;refine rdY 14 rfl (λKQ hK=>?_);go_simp;obtain⟨w6,ag,-,hu⟩:=ka00 w5 [E J 0,E J 0,E J 0,E J 0,F none 0 0] 39;rw[<-ag];have ae:ZD w w6:=(by rw[ag];exact Zf hb (Zh _ _));clear ag;have bk:=hb.size;obtain⟨u50,u51,u52,u53,u54,be,bf,bg,bh,bi,bj⟩:=kf5 hu;clear aa;refine hK.out _ _ (KS _ ae) (λaa=>?_);clear hK KQ;(try simp only[aQ,ZA,ZB,ZC]);refine rdY 15 rfl (λKQ hK=>?_);go_simp;clear aa;refine hK.out _ _ (KS _ (Gr.below (S:=λq=>q=w5.heap.size) ((Gr.refl _ (λq=>q=w5.heap.size)).five w5.heap.size (.inl rfl) _ _ _ _ _) ae (ae).size (λq e=>by have e:q=w5.heap.size:=e;omega))) (λaa=>?_);clear hK KQ;(try simp only[aQ]);refine tkL 16 rfl aa ?_;refine wpAnyH_done (by kernel_rfl) ?_ _;clear aa;go_wp2_with fail;go_meet
   case rel=>exact⟨w5.heap.size,rfl,⟨Zb (Tr.set_cells (Tr.set_cells (Tr.set_cells (Tr.set_cells (Tr.set_cells hu 0 _) 1 _) 2 _) 3 _) 4 _) 1 _ rfl,aA (Tr.set_cells (Tr.set_cells (Tr.set_cells (Tr.set_cells (Tr.set_cells hu 0 _) 1 _) 2 _) 3 _) 4 _)⟩,Gr.below (S:=λq=>q=w5.heap.size) ((Gr.refl _ (λq=>q=w5.heap.size)).five w5.heap.size (.inl rfl) _ _ _ _ _) ae (ae).size (λq e=>by have e:q=w5.heap.size:=e;omega)⟩
  ·go_simp;obtain⟨w6,ag⟩:=ZG ((w.alloc (dE #[E J 0,E J 0,E J 0,E J 0,F none 0 0] 39)).drew);rw[<-ag];have ae:ZD w w6:=(by rw[ag];exact Zf (Zh _ _) (Zi _));have aw:w6.heap[w.heap.size]? = some (dE [E J 0,E J 0,E J 0,E J 0,F none 0 0].toArray 39 (0,0)):=(by rw[ag];exact Zx _ _ _ _ _ _ _);clear ag;clear aa;refine hK.out _ _ (KS _ ae) (λaa=>?_);clear hK KQ;(try simp only[aQ,ZA,ZB,ZC]);refine rdY 10 rfl (λKQ hK=>?_);refine Zm (by kernel_rfl) 20 #[.agg #[F na nn nc,F ba bn bc],E J tip] (by kernel_rfl) (CB w6 ae) ?_;rintro e w5 ⟨ta,tn,tc,rfl,-,-,ah⟩;refine⟨_,rfl,?_⟩;have hb:ZD w w5:=Zf ae ah;have hu:=ZE ah aw;obtain⟨u50,u51,u52,u53,u54,be,bf,bg,bh,bi,bj⟩:=kf5 hu;clear aa;refine hK.out _ _ (KS _ hb) (λaa=>?_);clear hK KQ;refine tkL 11 rfl aa ?_;refine tkL 12 rfl aa ?_;refine tkL 13 rfl aa ?_;refine rdY 15 rfl (λKQ hK=>?_);go_simp;clear aa;refine hK.out _ _ (KS _ (Gr.below (S:=λq=>q=w.heap.size) ((Gr.refl _ (λq=>q=w.heap.size)).five w.heap.size (.inl rfl) _ _ _ _ _) hb (hb).size (λq e=>by have e:q=w.heap.size:=e;omega))) (λaa=>?_);clear hK KQ;(try simp only[aQ]);refine tkL 16 rfl aa ?_;refine wpAnyH_done (by kernel_rfl) ?_ _;clear aa;go_wp2_with fail;go_meet
   case rel=>exact⟨w.heap.size,rfl,⟨Zb (Tr.set_cells (Tr.set_cells (Tr.set_cells (Tr.set_cells (Tr.set_cells hu 0 _) 1 _) 2 _) 3 _) 4 _) 1 _ rfl,aA (Tr.set_cells (Tr.set_cells (Tr.set_cells (Tr.set_cells (Tr.set_cells hu 0 _) 1 _) 2 _) 3 _) 4 _)⟩,Gr.below (S:=λq=>q=w.heap.size) ((Gr.refl _ (λq=>q=w.heap.size)).five w.heap.size (.inl rfl) _ _ _ _ _) hb (hb).size (λq e=>by have e:q=w.heap.size:=e;omega)⟩
 case rest=>
  obtain⟨u,rfl,hu,hb⟩:=hcut;obtain⟨u1,ul⟩:=Za hu;clear hu KS CB;go_wp2;go_ret;exact⟨rfl,Za hb⟩
theorem Gj(h:DeskAt Z w d bm m ka kn kc K na nn nc N ba bn bc T pa pn pc P tip f β)(s p hh k o:Int)(a n c L)(x:Int)(C' U')(hE:Env w)(hL:TxsAt w a n L)(hm:m<1000000)(hs:(Lit.int .i64 s).wf=true)(hp:(Lit.int .i64 p).wf=true)(hx:Xw K (β p) (p,hh,k,o,L)=(x,C',U')) :
  Calls aB 162 #[.pointer (some ⟨d,0,none⟩),.int .i64 s,.agg #[.int .i64 p,.int .i64 hh,.int .i64 k,.int .i64 o,F a n c]] w λe w'=>e = dF (.int .i64 x)/\∃ f',DeskAt Z w' d bm (m+1) ka kn kc K na nn nc N ba bn bc T pa pn pc P tip f' (Uz β s C')/\Gr w w' (λq=>q=bm):=by
 obtain⟨X,hX,ae,bq⟩:=ka00 w [.int .i64 p,.int .i64 hh,.int .i64 k,.int .i64 o,F a n c] 39;obtain⟨cw,cy,cx,aq,_,sC⟩:=h.c p;have ad:=h.later (Zf ae (Zi X));have CC:=Zd (show Calls aB 21 #[.agg #[F ka kn kc],F cw cy cx,.agg #[.int .i64 p,.int .i64 hh,.int .i64 k,.int .i64 o,F a n c]] X.drew λe w'=>Zrp X.drew w' x C' U' e from Zcj ka kn kc K cw cy cx (β p) p hh k o a n c L x C' U' X.drew (hE.later (Zf ae (Zi X))) ad.now.k (by obtain⟨a2,n2,c2,q1,q2,_⟩:=ad.c p;rw[aq] at q1;injection q1 with e1 e2 e3;subst e1 e2 e3;exact q2) sC (hL.later (Zf ae (Zi X))) hx);have hl:=ad.mp.look p hp;rw[aq] at hl;have aw:=Zd (λW (hw:Below X.drew.heap.size X.drew W) v=>(h.later (Zf (Zf ae (Zi X)) hw)).mp.put hm s hs v);obtain⟨HH,cb⟩:=kh2 h ae;have cn:=h.ne;obtain⟨d0,-,-,-,-,d5,dl⟩:=kc6 ad.box;have cl:=ad.mp.lt;obtain⟨e0,e1,e2,e3,e4,el⟩:=kc5 bq;have cm:bm<w.heap.size:=h.mp.lt
 have KS:Hid (∀ U:World,Gr X.drew U (λq=>q=bm)->((U.cell? ⟨d,0,none⟩=some (F ka kn kc)/\U.cell? ⟨d,5,none⟩=some (.map (some bm))/\d<U.heap.size)/\U.cell? ⟨w.heap.size,0,none⟩=some (.int .i64 p)/\U.cell? ⟨w.heap.size,1,none⟩=some (.int .i64 hh)/\U.cell? ⟨w.heap.size,2,none⟩=some (.int .i64 k)/\U.cell? ⟨w.heap.size,3,none⟩=some (.int .i64 o)/\U.cell? ⟨w.heap.size,4,none⟩=some (F a n c)/\w.heap.size<U.heap.size)):=λU hu=>⟨⟨hu.cell d0 (by simp;omega),hu.cell d5 (by simp;omega),aD dl hu.size⟩,hu.cell e0 (by simp;omega),hu.cell e1 (by simp;omega),hu.cell e2 (by simp;omega),hu.cell e3 (by simp;omega),hu.cell e4 (by simp;omega),aD el hu.size⟩;clear hE hL hx hs hp hm h ae bq ad sC aq d0 d5 dl e0 e1 e2 e3 e4 el;go_enter func162,ntmps162
 go_upto_region 1 with fail
 rw[<-hX];clear hX;refine dD (S:=λU=>(U.cell? ⟨d,0,none⟩=some (F ka kn kc)/\U.cell? ⟨d,5,none⟩=some (.map (some bm))/\d<U.heap.size)/\U.cell? ⟨w.heap.size,0,none⟩=some (.int .i64 p)/\U.cell? ⟨w.heap.size,1,none⟩=some (.int .i64 hh)/\U.cell? ⟨w.heap.size,2,none⟩=some (.int .i64 k)/\U.cell? ⟨w.heap.size,3,none⟩=some (.int .i64 o)/\U.cell? ⟨w.heap.size,4,none⟩=some (F a n c)/\w.heap.size<U.heap.size) (by kernel_rfl) (KS _ (Gr.refl _ _)) (λaa=>?_);refine tkL 0 rfl aa ?_;refine tkL 1 rfl aa ?_;refine tkL 2 rfl aa ?_;refine tkL 3 rfl aa ?_;refine tkL 4 rfl aa ?_;refine tkL 5 rfl aa ?_;refine tkL 6 rfl aa ?_;refine tkL 7 rfl aa ?_;refine tkL 8 rfl aa ?_;refine tkL 9 rfl aa ?_;refine tkL 10 rfl aa ?_;refine tkL 11 rfl aa ?_;refine tkL 12 rfl aa ?_;refine tkL 13 rfl aa ?_;refine tkL 14 rfl aa ?_;refine tkL 16 rfl aa ?_;refine rdY 15 rfl (λKQ hK=>?_);go_simp;clear aa;refine hK.out _ _ (KS _ (Gr.refl _ _)) (λaa=>?_);clear hK KQ;(try simp only[aQ,ZA,ZB,ZC]);refine rdS 17 rfl CC ?_;rintro e w5 ⟨ra,rn,rc,ua,un,uc,rfl,bj,bz,-,-,ah,-⟩;clear aa;refine⟨_,rfl,(KS _ (Gr.of ah)),λaa=>?_⟩;refine tkL 18 rfl aa ?_;refine tkL 19 rfl aa ?_;refine tkL 20 rfl aa ?_;refine tkL 21 rfl aa ?_;obtain⟨w6,cc,bi,an⟩:=aw w5 ah (F ra rn rc);have br:Gr X.drew w6 (λq=>q=bm):=(Gr.of ah).grown an (λq e=>.inl (by injection e with e;exact e.symm));refine rdY 22 rfl (λKQ hK=>?_);go_simp;clear aa;refine hK.out _ _ (KS _ br) (λaa=>?_);clear hK KQ
 (try simp only[aQ]);refine tkL 23 rfl aa ?_;refine wpAnyH_done (by kernel_rfl) ?_ _;clear aa;have ar:=Zf (Zf cb (Zi X)) ah;have ca:Hid (∃ f',DeskAt Z w6 d bm (m+1) ka kn kc K na nn nc N ba bn bc T pa pn pc P tip f' (Uz β s C')/\Gr w w6 (λq=>q=bm)):=⟨_,HH.put ar bj bz bi an,(Gr.of ar).grown an (λq e=>.inl (by injection e with e;exact e.symm))⟩;clear bj bz ah cc bi an br ar aw HH CC KS hl;go_wp2;go_ret;obtain⟨f',h1,h2⟩:=Za ca;exact⟨rfl,f',h1,h2⟩
end
def Z1(K:List ByteArray):List Int->List Zk->(Int->List Zj)->Int×(Int->List Zj)
 | s :: N,b :: T,β=>if kbD K s b=false then (5,β) else if (Xw K (β b.1) b).1≠0 then ((Xw K (β b.1) b).1,β) else Z1 K N T (Uz β s (Xw K (β b.1) b).2.1)
 | [],_,β=>(0,β)
 | _ :: _,[],β=>(0,β)
theorem cb_at{K}{N:List Int}{T:List Zk}{β : Int->List Zj}{k:Nat}(h1:k<N.length)(h2:k<T.length):Z1 K (N.drop k) (T.drop k) β = if kbD K N[k] T[k]=false then (5,β) else if (Xw K (β T[k].1) T[k]).1≠0 then ((Xw K (β T[k].1) T[k]).1,β) else Z1 K (N.drop (k+1)) (T.drop (k+1)) (Uz β N[k] (Xw K (β T[k].1) T[k]).2.1):=by
 rw[aJ h1,aJ h2,Z1]
theorem Zrj{K}{N:List Int}{T:List Zk}{β : Int->List Zj}{k:Nat}(h1:N.length<=k):Z1 K (N.drop k) (T.drop k) β = (0,β):=by
 rw[List.drop_of_length_le h1];rfl
def poE(K:List ByteArray)(N:List Int)(T:List Zk)(P:List TxD)(tip:Int)(β : Int->List Zj):Int:=
 if P.length=0 then 0 else if P.all (knT K)=false then 5 else if swE K (β tip) P (Xz N T tip+1)≠0 then swE K (β tip) P (Xz N T tip+1) else
 if (Z5 (Xz N T tip+1) P (K,β tip)).1.length<P.length then 7 else 0
def noB:Int->List Zj:=λ_=>[]
def opE(K:List ByteArray)(N:List Int)(T:List Zk)(P:List TxD)(tip:Int):Int:=
 if Bk.bkChk K≠0 then Bk.bkChk K else if (Tr.bstD N T).2≠0 then (Tr.bstD N T).2 else if (Tr.bstD N T).1≠tip then 4 else
 if (Z1 K N T noB).1≠0 then (Z1 K N T noB).1 else poE K N T P tip (Z1 K N T noB).2
