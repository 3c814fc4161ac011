import Derived.Test.YtmomfkikogbdeaaGreatDoorH
import Derived.Test.YtmomfkikogbdeaaGreatDoorG25
open Go.Proofs.Tryz
open Go renaming lt_of_block->aA,maxLen->cW,bodyPost_ret->aW
open Go.Ending renaming returned->dA
open Go.Exit renaming inBlock->aR
open Go.IntKind renaming i64->J
open Go.Obj renaming cells->cZ
open Go.Proofs.Tryz renaming prog->aB,underlying3->bC
open Go.Value renaming slice->aX,int->cH,int->E,slice->F,tuple->dB,pointer->dC
open List renaming drop_eq_getElem_cons->aI,length_append->bW
open List.cons renaming injEq->cS
open Nat renaming le_trans->aT,lt_of_lt_of_le->aD,le_refl->aF
set_option maxHeartbeats 6400000
set_option maxRecDepth 10000
namespace Go.Proofs.YtmomfkikogbdeaaGreatDoor
open Go.RowKit
structure Zps(f:Nat)(caps:Array Value)(w0:World)(C0:List Zj)(D0:Nat->Prop)(I:Nat->(Nat->Prop)->World->List (TxD×List Zj)->Prop):Prop where
 enters:∀ args w,(callFunc f args).run aB w = .ok (.enter f args) w
 start:∀ p w,ZD w0 w->w0.heap.size<=p->p<w.heap.size->I p D0 w []
 dirty:∀ p D w X,I p D w X->∀ q,D q->q≠p/\q<w.heap.size/\(D0 q\/w0.heap.size<=q)
 on:∀ p D w w' X,I p D w X->Gr w w' (λq=>q=p)->I p D w' X
 call:∀ p D wA w X t C' u0 u1 u2,I p D wA X->ZD wA w->Fresh wA.heap.size w (λw2=>Tr.txR.C w2 [u0,u1,u2] t)->Ys (Xf C0 X)->Ys C'->Zp C'<=Zp (Xf C0 X)->X.length<8 ->
  Calls aB f (#[.agg #[u0,u1,u2],E J (Zp (Xf C0 X) - Zp C')]++caps) w λe w'=>e = dA (dB #[])/\Gr w w' D/\∃ D',I p D' w' (X++[(t,C')])
def SwR(w w':World)(x:Int)(D0:Nat->Prop)(K:List ByteArray)(C:List Zj)(h:Int)(I:Nat->(Nat->Prop)->World->List (TxD×List Zj)->Prop)(X:List (TxD×List Zj))(e:Ending):Prop:=
 (x≠0/\e = dA (dB #[dC none,E J x])/\ZD w w') \/
 (x=0/\∃ p D,e = dA (dB #[dC (some ⟨p,0,none⟩),E J 0])/\w.heap.size<=p/\Gr w w' D0/\DoT w' w.heap.size p K C h/\I p D w' X)
structure SwS(w0 wr:World)(h:Int)(D0:Nat->Prop)(I:Nat->(Nat->Prop)->World->List (TxD×List Zj)->Prop)(s0:List ByteArray×List Zj)(L:List TxD)(p k:Nat):Prop where
 gr:Gr w0 wr D0
 all:∃ B D K C X,w0.heap.size<=B/\DoT wr B p K C h/\I p D wr X/\Bk.Right K/\Ys C/\Xf s0.2 X=C/\X.length<=k/\swT h L s0=X++swT h (L.drop k) (K,C)/\(Zv h L s0).2=(Zv h (L.drop k) (K,C)).2
theorem Gr.far{w Q w2:World}{S T:Nat->Prop}(h:Gr w Q S)(k:Gr Q w2 T)(hT:∀ q,T q->w.heap.size<=q\/S q):Gr w w2 S:=
 ⟨k.os.trans h.os,k.tape.trans h.tape,k.output.trans h.output,aT h.size k.size,λi hi z=>(k.block i (aD hi h.size) (λq=>by
  rcases hT i q with q|q
  ·omega
  ·exact z q)).trans (h.block i hi z)⟩
theorem Zqp{h:Int}{L:List TxD}{k:Nat}(z:k<L.length)(s:List ByteArray×List Zj):swT h (L.drop k) s=if (doD h s L[k]).1=0 then (L[k],(doD h s L[k]).2.2) :: swT h (L.drop (k+1)) (doD h s L[k]).2 else swT h (L.drop (k+1)) s:=by
 rw[aI z,swT]
theorem Znk{h:Int}{L:List TxD}{k:Nat}(z:k<L.length)(s:List ByteArray×List Zj):(Zv h (L.drop k) s).2=if (doD h s L[k]).1=0 then (Zv h (L.drop (k+1)) (doD h s L[k]).2).2 else (Zv h (L.drop (k+1)) s).2:=by
 rw[aI z,Zv];split <;> rfl
theorem Pv(f:Nat)(caps)(D0:Nat->Prop)(I:Nat->(Nat->Prop)->World->List (TxD×List Zj)->Prop)(ka kn kc K la ln lc C a m c L)(h x:Int)(w)
  (hk:Zps f caps w C D0 I) (ay:World) (cw:∀ V,Gr w V D0->ZD ay V) (hE:Env ay) (hK:Bk.TextsAt ay ka kn K) (hC:CoinsAt ay la ln C) (sC:SlOk la ln lc) (hL:TxsAt ay a m L) (hx:swE K C L h=x) :
  Calls aB 78 #[.agg #[F ka kn kc],F la ln lc,F a m c,E J h,.func (.func f) #[] caps] w λe w'=>SwR w w' x D0 (Zv h L (K,C)).2.1 (Zv h L (K,C)).2.2 h I (swT h L (K,C)) e:=by
 obtain⟨X,hX,cl,ee⟩:=ka00 w [F ka kn kc] 24;obtain⟨x1,bi⟩:=ZF (J7 K C h);have cf:L.length=m:=hL.1;have cx:=cw X (Gr.of cl);have C1:=Zd (Zjv ka kn kc K la ln lc C h x1 X (hK.later cx) (hC.later cx) sC bi);unfold swE at hx;rw[bi,cf] at hx;obtain⟨HK,HE,HL,dl,HX,du,dp,dg⟩:=kh8 hk hE hL cw hx bi cf cl;obtain⟨t0,tl⟩:=kc1 ee;clear hk hE hK hC sC hL hx bi cf cl ee cw cx;go_enter func78,ntmps78;go_wp2_with fail;rw[<-hX];clear hX;(try go_wp2_with fail);refine C1.mono ?_;rintro e w1 ⟨hr,cj⟩;have az:=Zd (Zf dg cj);have dv:=Zd dg.size
 rcases hr with ⟨h0,rfl⟩|⟨h0,p,rfl,el,fm,hd⟩
 ·have gx:(x1 != 0)=true:=by simp[h0]
  have ap:Hid (x=x1):=by have:=Za HX;rw[if_pos h0] at this;exact this.symm
  clear HX cj C1;go_wp2;go_ret2;rw[Za ap];exact .inl ⟨h0,rfl,Za az⟩
 ·subst h0;obtain⟨dh,bu⟩:=kh2 (hd.less dv) (aT dv el);have fb:=Zd (show p<w1.heap.size by omega);clear hd cj C1 el fm;by_cases e8:8<m
  ·have g8:(8:Int)<(m:Int):=(by omega);have ap:Hid (x=2):=(by have:=Za HX;rw[if_neg (λq=>q rfl),if_pos e8] at this;exact this.symm);clear HX e8;go_wp2;go_ret2;rw[Za ap];exact .inl ⟨by decide,rfl,Za az⟩
  ·have g8:¬(8:Int)<(m:Int):=(by omega);have gd:m<=8:=(by omega);have ap:Hid (x=0):=(by have:=Za HX;rw[if_neg (λq=>q rfl),if_neg e8] at this;exact this.symm);obtain⟨hR,aj,_,_⟩:=Vm du;have ST:Hid (SwS w w1 h D0 I (K,C) L p 0):=⟨Gr.of az,w.heap.size,D0,K,C,[],aF _,Za dh,HK.start p w1 az bu fb,hR,aj,rfl,aF _,rfl,rfl⟩;clear HX hR aj e8 du dh;go_wp2
   go_loopw [33] (λi wr=>∃ k:Nat,k<=m/\i = E J k/\Hid (SwS w wr h D0 I (K,C) L p k)) (λi _=>m - (intOf i).toNat)
   case atStart=>exact⟨0,Nat.zero_le _,rfl,ST⟩
   case round=>
    obtain⟨k,hk,rfl,HS⟩:=hrel;by_cases fl:k<m
    ·obtain⟨hg,B,D,Kk,Ck,Xs,hB,hd,hI,hR,aj,ae,ef,z,Q⟩:=Za HS;have ac:=dl wr hg;have cz:k<L.length:=(by rw[Za dp];exact fl);obtain⟨b,off,rfl,ei,eo⟩:=HL.2 (by omega);obtain⟨c0,⟨ai,ni,ci,c1,au,db⟩,ao,no,co,c2,av,er⟩:=eo k cz;have c0:=Ze ac c0;have c1:=Ze ac c1;have c2:=Ze ac c2;have ei:b<wr.heap.size:=aD ei ac.size;rw[Zqp cz] at z;rw[Znk cz] at Q;obtain⟨t,ht⟩:=ZF (L[k]);rw[ht] at z Q c0 au av;obtain⟨th,tI,tO⟩:=t;simp only at c0 au av;obtain⟨⟨y,K',C'⟩,hy⟩:=ZF (doD h (Kk,Ck) (th,tI,tO));rw[hy] at z Q;simp only at z Q;obtain⟨Y,hY,ak,cg⟩:=ka00 wr [E J th,F ai ni ci,F ao no co] 59;have CD:=Zd (Zjx p Kk Ck h th ai ao ni ci no co tI tO y K' C' Y (HE.later (Zf ac ak)) (hd.later ak).till aj (au.later (Zf ac ak)) (av.later (Zf ac ak)) db hy);obtain⟨y0,y1,y2,yl⟩:=kc3 cg;obtain⟨HG,HB,dj,HI,ds,dr,dn,bv⟩:=kh8 hg hB hd hI hR aj ae ef;obtain⟨dt,dk,br,dw,dm,dq,fc,fd⟩:=kh8 z Q ak cg au av db er;have HY:=Zd hy;clear hg hB hd hI hR aj ae ef z Q ak cg au av db er hy eo ht HS ac;go_wp2_with fail;rw[<-hY];clear hY c0 c1 c2;(try go_wp2_with fail);refine CD.mono ?_;rintro e w2 fk
     rcases fk with ⟨n0,rfl,eh⟩|⟨n0,rfl,cp,ej⟩
     ·have gy:(y == 0)=false:=(by simp[n0]);have gc:¬y=0:=n0;have bg:=Zf br eh
      have bx:Hid (SwS w w2 h D0 I (K,C) L p (k+1)):=by
       refine⟨HG.on bg,B,D,Kk,Ck,Xs,Za HB,dj.later bg,HK.on p D wr w2 Xs HI (Gr.of bg),Za ds,Za dr,Za dn,Nat.le_succ_of_le bv,?_,?_⟩
       ·have:=Za dt;rw[if_neg n0] at this;exact this
       ·have:=Za dk;rw[if_neg n0] at this;exact this
      clear bg eh CD n0;go_wp2;go_roundw
      case rel=>exact⟨k+1,by omega,by go_num,bx⟩
      case measure=>simp[intOf];omega
     ·subst n0;have fj:=S8 ds HY;obtain⟨f1,_,f3,f4,f5⟩:=fj;have sm:=Tr.tx_small f5;obtain⟨ew,ey,fy⟩:=kh3 f1 f3 f4;have cq:Gr wr w2 (λq=>q=p):=(Gr.of br).trans cp;have ek:=HK.dirty p D wr Xs HI;have cd:=HK.on p D wr w2 Xs HI cq;have gf:p<wr.heap.size:=(by obtain⟨_,_,_,_,_,_,hh,_⟩:=Za dj;exact aA hh);have ct:Gr w w2 D0:=HG.far cq (λq e=>.inl (by rw[e];exact Za bu));have cm:=dl w2 ct;have CT:=Zd (Tr.clTx_is th ai ao ni ci no co tI tO w2 (dm.later cm) (dq.later cm) fc fd (by rw[<-(Za dm).1];exact sm.1) (by rw[<-(Za dq).1];exact sm.2.1) sm.2.2.1 sm.2.2.2);have h20:=(cp.block _ (aA dw) (by intro q;have q:wr.heap.size=p:=q;omega)).trans dw;obtain⟨z0,z1,z2,zl⟩:=kc3 h20;obtain⟨ez,eu,fz,di⟩:=kh4 ct ek cd ej;have dx:=Zd br.size;have ae:Xf C Xs=Ck:=Za dn;have bo:=Zd (λw3 (ax:ZD w2 w3) a1 c1 a2 c2 (bf:Fresh w2.heap.size w3 (λW=>Tr.txR.C W [E J th,F a1 ni c1,F a2 no c2] (th,tI,tO)))=>HK.call p D w2 w3 Xs (th,tI,tO) C' _ _ _ cd ax bf (by rw[ae];exact Za dr) f3 (by rw[ae];exact f4) (by have:=Za bv;omega));rw[ae] at bo;clear f1 f3 f4 f5 sm cq ek cd ct cm h20 ej cp ae CD y0 y1 y2 yl;go_wp2_with fail;refine CT.mono ?_;rintro e w3 ⟨a1,c1,a2,c2,rfl,bf,ax⟩;obtain⟨CL,bb⟩:=kh2 (bo w3 ax a1 c1 a2 c2 bf) ax;clear bf ax CT bo z0 z1 z2 zl;have eg:=HK.enters;go_wp2_with fail;refine CL.mono ?_;rintro e w4 ⟨rfl,bh,D',ec⟩
      have bx:Hid (SwS w w4 h D0 I (K,C) L p (k+1)):=by
       have cn:=Za eu;refine⟨(ez.on bb).far bh (λq e=>(cn q e).2.2.symm),Y.heap.size,D',K',C',Xs++[((th,tI,tO),C')],?_,?_,ec,Za ew,Za ey,Wv _ _ _ _,?_,?_,?_⟩
       ·exact aT HG.size dx
       ·refine di.on ((Gr.of bb).trans (bh.mono (λq _ e=>aD (cn q e).2.1 dx))) ?_;have en:p<w2.heap.size:=(by obtain⟨_,_,_,_,_,_,hh,_⟩:=Za di;exact aA hh);exact (bh.block p (aD en bb.size) (λe=>(cn p e).1 rfl)).trans (bb.block p en)
       ·rw[bW];exact Nat.succ_le_succ bv
       ·have:=Za dt;(first|rw[if_pos rfl] at this|rw[if_pos trivial] at this);rw[this,List.append_assoc];rfl
       ·have:=Za dk;(first|rw[if_pos rfl] at this|rw[if_pos trivial] at this);exact this
      clear bh ec CL eg;go_wp2;go_roundw
      case rel=>exact⟨k+1,by omega,by go_num,bx⟩
      case measure=>simp[intOf];omega
    ·have gi:k=m:=(by omega);subst gi;obtain⟨hg,B,D,Kk,Ck,Xs,hB,hd,hI,_,_,_,_,z,Q⟩:=Za HS;rw[List.drop_of_length_le (by rw[Za dp];exact aF _)] at z Q;rw[swT,List.append_nil] at z;have e1:(Zv h L (K,C)).2=(Kk,Ck):=Q
     have es:Hid (SwR w wr x D0 (Zv h L (K,C)).2.1 (Zv h L (K,C)).2.2 h I (swT h L (K,C)) (dA (dB #[dC (some ⟨p,0,none⟩),E J 0]))):=by
      rw[e1,z];exact .inr ⟨Za ap,p,D,rfl,Za bu,hg,hd.less hB,hI⟩
     clear hg hB hd hI z Q e1 HS;go_wp2;go_ret2;exact Za es
structure St(b p:Nat)(w:World)(v:Value)(K:List (List Value))(L:List TxD):Prop where
 box:w.heap[b]? = some (cZ #[v] 37 (0,0))
 own:w.ownsRow (p+1) 59 3 v L.length K.flatten
 kept:∀ w2,Gr w w2 (λq=>q<=p\/v.ownBlock=some q)->Tr.AllC Tr.txR w2 K L
 bp:b<p
 pl:p<w.heap.size
theorem St.start{b p:Nat}{w:World}(h:w.heap[b]? = some (cZ #[F none 0 0] 37 (0,0)))(bp:b<p)(pl:p<w.heap.size):St b p w (F none 0 0) [] []:=
 ⟨h,⟨rfl,.inl ⟨rfl,rfl⟩⟩,λ_ _=>⟨rfl,λi h1 _=>absurd h1 (by simp)⟩,bp,pl⟩
theorem St.on{b p:Nat}{w w' v K L}{S:Nat->Prop}(h:St b p w v K L)(g:Gr w w' S)(z:∀ q,S q->q<=p/\q≠b):St b p w' v K L:=
 ⟨g.heap h.box (λe=>(z b e).2 rfl),g.own h.own (λk Q e=>by have:=(h.own.lt k Q).1;have:=(z k e).1;omega),
  λw2 g2=>h.kept w2 ((g.mono (λq _ e=>.inl (z q e).1)).trans g2),h.bp,aD h.pl g.size⟩
theorem St.push{b p:Nat}{wA w Y w':World}{v v':Value}{K:List (List Value)}{L:List TxD}{u0 u1 u2 t}(h:St b p wA v K L)(hb:ZD wA w)(hF:Fresh wA.heap.size w (λw2=>Tr.txR.C w2 [u0,u1,u2] t))(aa:ZD w Y)
  (Q:Y.grownBy w' v.ownBlock) (ag:w'.ownsRow (p+1) 59 3 v' (L.length+1) (K.flatten++[u0,u1,u2])) (hv:v.ownBlock=v'.ownBlock\/∃ g,v'.ownBlock=some g/\Y.heap.size<=g) :
  St b p (w'.setCell ⟨b,0,none⟩ v') v' (K++[[u0,u1,u2]]) (L++[t])/\Gr w (w'.setCell ⟨b,0,none⟩ v') (λq=>q=b\/v.ownBlock=some q):=by
 have ae:ZD wA Y:=Zf hb aa;have ak:=h.bp;have ap:=h.pl;have aq:=hb.size;have ar:=aa.size;have au:=Q.size;have am:v.ownBlock≠some b:=λe=>by have:=(h.own.lt b e).1;omega
 have bx:w'.heap[b]? = some (cZ #[v] 37 (0,0)):=((Q.block b (by omega) (λe=>am e.symm)).trans (ae.block b (by omega))).trans h.box;have g1:Gr wA w' (λq=>q<=p\/v.ownBlock=some q):=(Gr.of ae).grown Q (λk e=>.inl (.inr e));have g2:Gr w w' (λq=>q=b\/v.ownBlock=some q):=(Gr.of aa).grown Q (λk e=>.inl (.inr e));have g3:Gr w (w'.setCell ⟨b,0,none⟩ v') (λq=>q=b\/v.ownBlock=some q):=g2.one b 0 (.inl (.inl rfl)) v';have g4:Gr wA (w'.setCell ⟨b,0,none⟩ v') (λq=>q<=p\/v.ownBlock=some q):=g1.one b 0 (.inl (.inl (by omega))) v';refine⟨⟨Vt bx,?_,λw2 gw=>?_,ak,by have:=g4.size;omega⟩,g3⟩
 ·rw[bW,List.flatten_append];exact (((Gr.refl w' (λq=>q=b)).one b 0 (.inl rfl) v').own ag (λk hk e=>by have:=(ag.lt k hk).1;omega))
 ·refine Tr.AllC.snoc (h.kept w2 (g4.far gw (λq e=>?_))) (hF w2 ?_)
  ·rcases e with e|e
   ·exact .inr (.inl e)
   ·rcases hv with z|⟨g,z,q2⟩
    ·exact .inr (.inr (z.trans e))
    ·rw[z] at e;injection e with e;exact .inl (by omega)
  ·refine (g3.mono (T:=λq=>q<wA.heap.size) (λq _ e=>?_)).far gw (λq e=>?_)
   ·rcases e with e|e
    ·omega
    ·exact (h.own.lt q e).2
   ·rcases e with e|e
    ·exact .inr (by omega)
    ·rcases hv with z|⟨g,z,q2⟩
     ·exact .inr (h.own.lt q (z.trans e)).2
     ·rw[z] at e;injection e with e;exact .inl (by omega)
theorem St.txs{b p:Nat}{w v K}{L:List TxD}(h:St b p w v K L):∃ a c,v = F a L.length c/\TxsAt w a L.length L/\SlOk a L.length c:=
 Tr.rows_of_own Tr.txR h.own (h.kept w (Gr.refl _ _)) rfl
theorem Tryz.infoTx9:(Tryz.prog.info? 59).map (λi=>(i.zero,i.size,i.bytes))=some (some (.agg #[E J 0,F none 0 0,F none 0 0]),3,56):=by kernel_rfl
def FeI(w:World)(b:Nat)(z:Int):Prop:=w.heap[b]? = some (cZ #[E J z] 3 (0,0))
theorem Zfb(b z p:Nat)(va vc K)(L:List TxD)(aa:Int)(u0 u1 u2 t)(wA w:World)(h:St b p wA (F va L.length vc) K L)(Q:Int)(h2:FeI wA z Q)(bj:b≠z)(dc:z<p)(f1:0<=Q)(f2:Q<=1000000000)(f3:0<=aa)(f4:aa<=1000000000)(hb:ZD wA w)(hF:Fresh wA.heap.size w (λw2=>Tr.txR.C w2 [u0,u1,u2] t))(hl:L.length<8) :
  Calls aB 79 (#[.agg #[u0,u1,u2],E J aa]++#[dC (some ⟨b,0,none⟩),dC (some ⟨z,0,none⟩)]) w λe w'=>e = dA (dB #[])/\(∃ v',∃ K',St b p w' v' K' (L++[t])/\FeI w' z (Q+aa))/\Gr w w' (λq=>(q=b\/q=z)\/(aX va L.length vc).ownBlock=some q):=by
 obtain⟨i0,hi,cj,cl,cm⟩:=info_parts Tryz.infoTx9;obtain⟨ai,ni,ci,ao,no,co,e,_⟩:=hF w (Gr.refl _ _);simp only[cS,and_true] at e;obtain⟨rfl,rfl,rfl⟩:=e;obtain⟨U,hU⟩:=ZG ((w.alloc (cZ #[E J t.1,F ai ni ci,F ao no co] 59)).alloc (cZ #[E J t.1,F ai ni ci,F ao no co] 59));have ax:ZD w U:=by rw[hU];exact Zf (Zh _ _) (Zh _ _)
 have bh:U.heap[w.heap.size+1]? = some (cZ #[E J t.1,F ai ni ci,F ao no co] 59 (0,0)):=by
  rw[hU];have:=Zx (w.alloc (cZ #[E J t.1,F ai ni ci,F ao no co] 59)) (E J t.1) (F ai ni ci) (F ao no co) 59;rw[show (w.alloc (cZ #[E J t.1,F ai ni ci,F ao no co] 59)).heap.size=w.heap.size+1 by simp] at this;exact this
 have db:U.heap.size=w.heap.size+2:=by rw[hU];simp
 have dd:=h.bp;have cf:=h.pl;have cg:=hb.size;have am:=Zf hb ax;have be:U.ownsRow (p+1) 59 3 (F va L.length vc) L.length K.flatten:=(Gr.of (S:=λ_=>False) am).own h.own (λ_ _ q=>q);have av:=(hb.block b (by omega)).trans h.box;have bf:=(am.block b (by omega)).trans h.box;have b0:=Zb av 0 _ rfl;have bl:b<w.heap.size:=aA av;have bg:=(am.block z (by omega)).trans h2;have ca:Hid (∀ j u,[cH .i64 t.1,F ai ni ci,F ao no co][j]? = some u->World.cell? ((w.alloc (cZ #[E J t.1,F ai ni ci,F ao no co] 59)).alloc (cZ #[E J t.1,F ai ni ci,F ao no co] 59)) ((⟨w.heap.size+1,0,none⟩:Addr).add j)=some u):=by rw[<-hU];exact World.news_of_block bh
 have bd:Hid (World.ownsRow ((w.alloc (cZ #[E J t.1,F ai ni ci,F ao no co] 59)).alloc (cZ #[E J t.1,F ai ni ci,F ao no co] 59)) (p+1) 59 3 (F va L.length vc) L.length K.flatten):=by rw[<-hU];exact be
 have ce:p+1<=((w.alloc (cZ #[E J t.1,F ai ni ci,F ao no co] 59)).alloc (cZ #[E J t.1,F ai ni ci,F ao no co] 59)).heap.size:=by rw[<-hU];omega
 have ar:Hid (∀ q,q<=p->(aX va L.length vc).ownBlock≠some q):=λq hq e=>by have:=(h.own.lt q e).1;omega
 obtain⟨HH,br,bt,bq,ap,aq⟩:=kh6 h hb hF ax bf hl;obtain⟨n,hn⟩:=ZF (L.length);have az:=Zd bg;have fw:w.cell? ⟨z,0,none⟩=some (E J Q):=Zb ((hb.block z (by omega)).trans h2) 0 _ rfl;have HN:=Zd hn;rw[hn] at bd aq b0 ar ap HH bf;simp only[hn];clear h hb hF ax bh be av am cf cg hn hl h2 bg;go_enter func79,ntmps79
 go_wp2_with (at_builtin;refine wpList_append_lies _ rfl _ _ 37 rfl (p+1) 59 i0 (.agg #[E J 0,F none 0 0,F none 0 0]) 3 56 underlying37 hi cj cl cm rfl (by decide) _ _ _ rfl bd ⟨w.heap.size+1,0,none⟩ 1 1 [E J t.1,F ai ni ci,F ao no co] rfl rfl ca (λu hu=>by simp at hu;rcases hu with rfl|rfl|rfl <;> rfl) (by decide) (by have:=Za aq;unfold cW;omega) (by have:=Za aq;omega) ce _ rfl ?_;intro g7 ag w7 bk aj ay _;rw[<-hU] at aj ay;have ak:=(aj.block b (aA ap) (λe=>ar b (by omega) e.symm)).trans ap;have cp:=Zd ak;have bx:=Zd bk;have bu:=Zd aj;have bz:=Zd ay;have de:=Zb ak 0 _ rfl;have dg:=aA ak;have df:=Zg ak 0;have ah:=(aj.block z (aA az) (λe=>ar z (by omega) e.symm)).trans az;have bs:=Zd ah;have cx:=Zb ah 0 _ rfl;have cz:=aA ah;have cy:=Zg ah 0;clear ah;clear ak bk aj ay)
 have PU:=St.push (v':=F (some ⟨g7,0,none⟩) (n+1) ag) HH br bt bq bu (by rw[Za HN];exact Za bx) (by
  rcases Za bz with q|q
  ·exact .inl q
  ·exact .inr ⟨g7,rfl,by omega⟩)
 have g9:Gr (w7.setCell ⟨b,0,none⟩ (F (some ⟨g7,0,none⟩) (n+1) ag)) ((w7.setCell ⟨b,0,none⟩ (F (some ⟨g7,0,none⟩) (n+1) ag)).setCell ⟨z,0,none⟩ (E J (Q+aa))) (λq=>q=z):=(Gr.refl _ (λq=>q=z)).one z 0 (.inl rfl) _;have R1:=Zd (PU.1.on g9 (λq e=>by subst e;exact⟨by omega,λq=>bj q.symm⟩));have R2:Hid (FeI ((w7.setCell ⟨b,0,none⟩ (F (some ⟨g7,0,none⟩) (n+1) ag)).setCell ⟨z,0,none⟩ (E J (Q+aa))) z (Q+aa)):=Vt ((heap_setCell_other w7 ⟨b,0,none⟩ z _ (λe=>bj e.symm)).trans bs);have R3:Hid (Gr w ((w7.setCell ⟨b,0,none⟩ (F (some ⟨g7,0,none⟩) (n+1) ag)).setCell ⟨z,0,none⟩ (E J (Q+aa))) (λq=>(q=b\/q=z)\/(aX va n vc).ownBlock=some q)):=(PU.2.mono (λq _ e=>e.elim (λe=>.inl (.inl e)) .inr)).trans (g9.mono (λq _ e=>.inl (.inr e)));clear PU g9;(try go_wp2)
 ((try simp only[aR,Exit.then]);first|refine bodyPost_end (results_none rfl _ _ _) rfl ?_|refine aW (results_none rfl _ _ _) rfl ?_)
 exact⟨rfl,⟨_,_,Za R1,Za R2⟩,Za R3⟩
theorem Zda(b p:Nat)(va vc K)(L:List TxD)(br:Int)(u0 u1 u2 t)(wA w:World)(h:St b p wA (F va L.length vc) K L)(Q:ZD wA w)(hF:Fresh wA.heap.size w (λw2=>Tr.txR.C w2 [u0,u1,u2] t))(hl:L.length<8) :
  Calls aB 88 (#[.agg #[u0,u1,u2],E J br]++#[dC (some ⟨b,0,none⟩)]) w λe w'=>e = dA (dB #[])/\(∃ v',∃ K',St b p w' v' K' (L++[t]))/\Gr w w' (λq=>q=b\/(aX va L.length vc).ownBlock=some q):=by
 obtain⟨i0,hi,bu,bv,bx⟩:=info_parts Tryz.infoTx9;obtain⟨ai,ni,ci,ao,no,co,e,_⟩:=hF w (Gr.refl _ _);simp only[cS,and_true] at e;obtain⟨rfl,rfl,rfl⟩:=e;obtain⟨U,z⟩:=ZG ((w.alloc (cZ #[E J t.1,F ai ni ci,F ao no co] 59)).alloc (cZ #[E J t.1,F ai ni ci,F ao no co] 59));have ak:ZD w U:=by rw[z];exact Zf (Zh _ _) (Zh _ _)
 have ax:U.heap[w.heap.size+1]? = some (cZ #[E J t.1,F ai ni ci,F ao no co] 59 (0,0)):=by
  rw[z];have:=Zx (w.alloc (cZ #[E J t.1,F ai ni ci,F ao no co] 59)) (E J t.1) (F ai ni ci) (F ao no co) 59;rw[show (w.alloc (cZ #[E J t.1,F ai ni ci,F ao no co] 59)).heap.size=w.heap.size+1 by simp] at this;exact this
 have cb:U.heap.size=w.heap.size+2:=by rw[z];simp
 have cc:=h.bp;have bs:=h.pl;have bt:=Q.size;have aj:=Zf Q ak;have ar:U.ownsRow (p+1) 59 3 (F va L.length vc) L.length K.flatten:=(Gr.of (S:=λ_=>False) aj).own h.own (λ_ _ q=>q);have ah:=(Q.block b (by omega)).trans h.box;have av:=(aj.block b (by omega)).trans h.box;have b0:=Zb ah 0 _ rfl;have bl:b<w.heap.size:=aA ah;have bk:Hid (∀ j u,[cH .i64 t.1,F ai ni ci,F ao no co][j]? = some u->World.cell? ((w.alloc (cZ #[E J t.1,F ai ni ci,F ao no co] 59)).alloc (cZ #[E J t.1,F ai ni ci,F ao no co] 59)) ((⟨w.heap.size+1,0,none⟩:Addr).add j)=some u):=by rw[<-z];exact World.news_of_block ax
 have aq:Hid (World.ownsRow ((w.alloc (cZ #[E J t.1,F ai ni ci,F ao no co] 59)).alloc (cZ #[E J t.1,F ai ni ci,F ao no co] 59)) (p+1) 59 3 (F va L.length vc) L.length K.flatten):=by rw[<-z];exact ar
 have bo:p+1<=((w.alloc (cZ #[E J t.1,F ai ni ci,F ao no co] 59)).alloc (cZ #[E J t.1,F ai ni ci,F ao no co] 59)).heap.size:=by rw[<-z];omega
 have an:Hid (∀ q,q<=p->(aX va L.length vc).ownBlock≠some q):=λq hq e=>by have:=(h.own.lt q e).1;omega
 obtain⟨HH,be,bf,bd,af,ag⟩:=kh6 h Q hF ak av hl;obtain⟨n,hn⟩:=ZF (L.length);have HN:=Zd hn;rw[hn] at aq ag b0 an af HH av;simp only[hn];clear h Q hF ak ax ar ah aj bs bt hn hl;go_enter func88,ntmps88
 go_wp2_with (at_builtin;refine wpList_append_lies _ rfl _ _ 37 rfl (p+1) 59 i0 (.agg #[E J 0,F none 0 0,F none 0 0]) 3 56 underlying37 hi bu bv bx rfl (by decide) _ _ _ rfl aq ⟨w.heap.size+1,0,none⟩ 1 1 [E J t.1,F ai ni ci,F ao no co] rfl rfl bk (λu hu=>by simp at hu;rcases hu with rfl|rfl|rfl <;> rfl) (by decide) (by have:=Za ag;unfold cW;omega) (by have:=Za ag;omega) bo _ rfl ?_;intro g7 bq w7 az ad al _;rw[<-z] at ad al;have aa:=(ad.block b (aA af) (λe=>an b (by omega) e.symm)).trans af;have ca:=Zd aa;have bi:=Zd az;have bg:=Zd ad;have bj:=Zd al;have ce:=Zb aa 0 _ rfl;have cg:=aA aa;have cf:=Zg aa 0;clear aa az ad al)
 have PU:=St.push (v':=F (some ⟨g7,0,none⟩) (n+1) bq) HH be bf bd bg (by rw[Za HN];exact Za bi) (by
  rcases Za bj with q|q
  ·exact .inl q
  ·exact .inr ⟨g7,rfl,by omega⟩)
 have ap:=Zd PU;clear PU;(try go_wp2)
 ((try simp only[aR,Exit.then]);first|refine bodyPost_end (results_none rfl _ _ _) rfl ?_|refine aW (results_none rfl _ _ _) rfl ?_)
 exact⟨rfl,⟨_,_,ap.1⟩,ap.2⟩
theorem Zkw(b z p:Nat)(va vc K)(L:List TxD)(aa:Int)(u0 u1 u2 t)(wA w:World)(h:St b p wA (F va L.length vc) K L)(Q:Int)(h2:FeI wA z Q)(bj:b≠z)(dd:z<p)(f1:0<=Q)(f2:Q<=1000000000)(f3:0<=aa)(f4:aa<=1000000000)(hb:ZD wA w)(hF:Fresh wA.heap.size w (λw2=>Tr.txR.C w2 [u0,u1,u2] t))(hl:L.length<3) :
  Calls aB 82 (#[.agg #[u0,u1,u2],E J aa]++#[dC (some ⟨b,0,none⟩),dC (some ⟨z,0,none⟩)]) w λe w'=>e = dA (dB #[])/\(∃ v',∃ K',St b p w' v' K' (L++[t])/\FeI w' z (Q+aa))/\Gr w w' (λq=>(q=b\/q=z)\/(aX va L.length vc).ownBlock=some q):=by
 obtain⟨i0,hi,cj,cl,cm⟩:=info_parts Tryz.infoTx9;obtain⟨ai,ni,ci,ao,no,co,e,_⟩:=hF w (Gr.refl _ _);simp only[cS,and_true] at e;obtain⟨rfl,rfl,rfl⟩:=e;obtain⟨U,hU⟩:=ZG ((w.alloc (cZ #[E J t.1,F ai ni ci,F ao no co] 59)).alloc (cZ #[E J t.1,F ai ni ci,F ao no co] 59));have ax:ZD w U:=by rw[hU];exact Zf (Zh _ _) (Zh _ _)
 have bh:U.heap[w.heap.size+1]? = some (cZ #[E J t.1,F ai ni ci,F ao no co] 59 (0,0)):=by
  rw[hU];have:=Zx (w.alloc (cZ #[E J t.1,F ai ni ci,F ao no co] 59)) (E J t.1) (F ai ni ci) (F ao no co) 59;rw[show (w.alloc (cZ #[E J t.1,F ai ni ci,F ao no co] 59)).heap.size=w.heap.size+1 by simp] at this;exact this
 have dc:U.heap.size=w.heap.size+2:=by rw[hU];simp
 have de:=h.bp;have cf:=h.pl;have cg:=hb.size;have an:=Zf hb ax;have be:U.ownsRow (p+1) 59 3 (F va L.length vc) L.length K.flatten:=(Gr.of (S:=λ_=>False) an).own h.own (λ_ _ q=>q);have av:=(hb.block b (by omega)).trans h.box;have bf:=(an.block b (by omega)).trans h.box;have b0:=Zb av 0 _ rfl;have bl:b<w.heap.size:=aA av;have bg:=(an.block z (by omega)).trans h2;have ca:Hid (∀ j u,[cH .i64 t.1,F ai ni ci,F ao no co][j]? = some u->World.cell? ((w.alloc (cZ #[E J t.1,F ai ni ci,F ao no co] 59)).alloc (cZ #[E J t.1,F ai ni ci,F ao no co] 59)) ((⟨w.heap.size+1,0,none⟩:Addr).add j)=some u):=by rw[<-hU];exact World.news_of_block bh
 have bd:Hid (World.ownsRow ((w.alloc (cZ #[E J t.1,F ai ni ci,F ao no co] 59)).alloc (cZ #[E J t.1,F ai ni ci,F ao no co] 59)) (p+1) 59 3 (F va L.length vc) L.length K.flatten):=by rw[<-hU];exact be
 have ce:p+1<=((w.alloc (cZ #[E J t.1,F ai ni ci,F ao no co] 59)).alloc (cZ #[E J t.1,F ai ni ci,F ao no co] 59)).heap.size:=by rw[<-hU];omega
 have ar:Hid (∀ q,q<=p->(aX va L.length vc).ownBlock≠some q):=λq hq e=>by have:=(h.own.lt q e).1;omega
 obtain⟨HH,br,bt,bq,aq,am⟩:=kh6 h hb hF ax bf hl;obtain⟨n,hn⟩:=ZF (L.length);have az:=Zd bg;have fw:w.cell? ⟨z,0,none⟩=some (E J Q):=Zb ((hb.block z (by omega)).trans h2) 0 _ rfl;have HN:=Zd hn;rw[hn] at bd am b0 ar aq HH bf;simp only[hn];clear h hb hF ax bh be av an cf cg hn hl h2 bg;go_enter func82,ntmps82;have gl:(n:Int)<3:=by have:=Za am;omega
 go_wp2_with (at_builtin;refine wpList_append_lies _ rfl _ _ 37 rfl (p+1) 59 i0 (.agg #[E J 0,F none 0 0,F none 0 0]) 3 56 underlying37 hi cj cl cm rfl (by decide) _ _ _ rfl bd ⟨w.heap.size+1,0,none⟩ 1 1 [E J t.1,F ai ni ci,F ao no co] rfl rfl ca (λu hu=>by simp at hu;rcases hu with rfl|rfl|rfl <;> rfl) (by decide) (by have:=Za am;unfold cW;omega) (by have:=Za am;omega) ce _ rfl ?_;intro g7 ag w7 bk aj ay _;rw[<-hU] at aj ay;have ak:=(aj.block b (aA aq) (λe=>ar b (by omega) e.symm)).trans aq;have cp:=Zd ak;have bx:=Zd bk;have bu:=Zd aj;have bz:=Zd ay;have df:=Zb ak 0 _ rfl;have dh:=aA ak;have dg:=Zg ak 0;have ah:=(aj.block z (aA az) (λe=>ar z (by omega) e.symm)).trans az;have bs:=Zd ah;have cx:=Zb ah 0 _ rfl;have cz:=aA ah;have cy:=Zg ah 0;clear ah;clear ak bk aj ay)
 have PU:=St.push (v':=F (some ⟨g7,0,none⟩) (n+1) ag) HH br bt bq bu (by rw[Za HN];exact Za bx) (by
  rcases Za bz with q|q
  ·exact .inl q
  ·exact .inr ⟨g7,rfl,by omega⟩)
 have g9:Gr (w7.setCell ⟨b,0,none⟩ (F (some ⟨g7,0,none⟩) (n+1) ag)) ((w7.setCell ⟨b,0,none⟩ (F (some ⟨g7,0,none⟩) (n+1) ag)).setCell ⟨z,0,none⟩ (E J (Q+aa))) (λq=>q=z):=(Gr.refl _ (λq=>q=z)).one z 0 (.inl rfl) _;have R1:=Zd (PU.1.on g9 (λq e=>by subst e;exact⟨by omega,λq=>bj q.symm⟩));have R2:Hid (FeI ((w7.setCell ⟨b,0,none⟩ (F (some ⟨g7,0,none⟩) (n+1) ag)).setCell ⟨z,0,none⟩ (E J (Q+aa))) z (Q+aa)):=Vt ((heap_setCell_other w7 ⟨b,0,none⟩ z _ (λe=>bj e.symm)).trans bs);have R3:Hid (Gr w ((w7.setCell ⟨b,0,none⟩ (F (some ⟨g7,0,none⟩) (n+1) ag)).setCell ⟨z,0,none⟩ (E J (Q+aa))) (λq=>(q=b\/q=z)\/(aX va n vc).ownBlock=some q)):=(PU.2.mono (λq _ e=>e.elim (λe=>.inl (.inl e)) .inr)).trans (g9.mono (λq _ e=>.inl (.inr e)));clear PU g9;(try go_wp2)
 ((try simp only[aR,Exit.then]);first|refine bodyPost_end (results_none rfl _ _ _) rfl ?_|refine aW (results_none rfl _ _ _) rfl ?_)
 exact⟨rfl,⟨_,_,Za R1,Za R2⟩,Za R3⟩
theorem Zbh(b b2 p:Nat)(va vc K)(L:List TxD)(ad:Int)(u0 u1 u2 t)(wA w:World)(h:St b p wA (F va L.length vc) K L)(Q:ZD wA w)(hF:Fresh wA.heap.size w (λw2=>Tr.txR.C w2 [u0,u1,u2] t))(hl:3<=L.length) :
  Calls aB 82 (#[.agg #[u0,u1,u2],E J ad]++#[dC (some ⟨b,0,none⟩),dC (some ⟨b2,0,none⟩)]) w λe w'=>e = dA (dB #[])/\ZD w w':=by
 obtain⟨ai,ni,ci,ao,no,co,e,_⟩:=hF w (Gr.refl _ _);simp only[cS,and_true] at e;obtain⟨rfl,rfl,rfl⟩:=e;have HB:=Zd (Zh w (cZ #[E J t.1,F ai ni ci,F ao no co] 59));have af:=h.bp;have ah:=h.pl;have z:=(Q.block b (by omega)).trans h.box;have b0:=Zb z 0 _ rfl;have bl:b<w.heap.size:=aA z;have gl:¬((L.length:Int)<3):=by omega
 obtain⟨n,hn⟩:=ZF (L.length);rw[hn] at b0 gl;clear h Q hF af ah z hl hn;go_enter func82,ntmps82;go_wp2
 ((try simp only[aR,Exit.then]);first|refine bodyPost_end (results_none rfl _ _ _) rfl ?_|refine aW (results_none rfl _ _ _) rfl ?_)
 exact⟨rfl,Za HB⟩
def D0(lo hi:Nat):Nat->Prop:=λq=>(lo<=q/\q<hi)\/(aX none 0 0).ownBlock=some q
theorem D0.ge{lo hi q:Nat}(h:D0 lo hi q):lo<=q/\q<hi:=by
 rcases h with h|h
 ·exact h
 ·cases h
def DV(lo hi:Nat)(v:Value):Nat->Prop:=λq=>(lo<=q/\q<hi)\/v.ownBlock=some q
theorem DV.dirty{lo hi b p:Nat}{w:World}{v K L}{z:Nat}(h:St b p w v K L)(Q:hi<=z)(hp:z<=p)(q:Nat)(hq:DV lo hi v q):q≠p/\q<w.heap.size/\(D0 lo hi q\/z<=q):=by
 have:=h.pl
 rcases hq with e|e
 ·exact⟨by omega,by omega,.inl (.inl e)⟩
 ·have:=h.own.lt q e;exact⟨by omega,this.2,.inr (by omega)⟩
def SwI(b b2 lo hi N0:Nat)(C0:List Zj)(p:Nat)(D:Nat->Prop)(w:World)(X:List (TxD×List Zj)):Prop:=
 ∃ z Q K,St b p w (.slice z (X.map (·.1)).length Q) K (X.map (·.1))/\FeI w b2 (Zp C0 - Zp (Xf C0 X))/\N0<=p/\D=DV lo hi (.slice z (X.map (·.1)).length Q)/\0<=Zp C0 - Zp (Xf C0 X)/\(X=[]\/(Zp C0<=1000000000/\Ys (Xf C0 X)))
theorem Kc{C}(h:Ys C):0<=Zp C:=Ww C (λc z=>by have:=Yu (h.one c z);omega)
theorem Zrs(b z lo hi:Nat)(w0:World)(C0)(hb:w0.heap[b]? = some (cZ #[F none 0 0] 37 (0,0)))(ak:FeI w0 z 0)(h1:lo<=b/\b<hi)(h2:lo<=z/\z<hi)(ar:b≠z)(ap:hi<=w0.heap.size) :
  Zps 79 #[dC (some ⟨b,0,none⟩),dC (some ⟨z,0,none⟩)] w0 C0 (D0 lo hi) (SwI b z lo hi w0.heap.size C0) where
 enters:=enters_of (fn:=Tryz.f79) (by kernel_rfl) (by kernel_rfl) rfl
 start p w hw hp pl:=⟨none,0,[],St.start ((hw.block b (by omega)).trans hb) (by omega) pl,by
  have:Zp C0 - Zp (Xf C0 [])=0:=by rw[Vn];omega
  unfold FeI;rw[this];exact (hw.block z (by omega)).trans ak,hp,rfl,by rw[Vn];omega,.inl rfl⟩
 dirty p D w X:=by
  rintro ⟨va,vc,K,h,_,hp,rfl,_⟩ q hq;exact DV.dirty h ap hp q hq
 on p D w w' X:=by
  rintro ⟨va,vc,K,h,Q,hp,hD,r⟩ g;exact⟨va,vc,K,h.on g (λq e=>by subst e;exact⟨aF _,by omega⟩),(g.block z (aA Q) (λe=>by have e:z=p:=e;omega)).trans Q,hp,hD,r⟩
 call p D wA w X t C' u0 u1 u2:=by
  rintro ⟨va,vc,K,h,Q,hp,rfl,h0,hr⟩ al hF r1 r2 r3 hl
  have hs:Zp C0<=1000000000:=by
   rcases hr with rfl|hr
   ·rw[Vn] at r1;exact r1.sum
   ·exact hr.1
  have n1:=Kc r1;have n2:=Kc r2;have n3:=r1.sum;refine (Zfb b z p va vc K (X.map (·.1)) _ u0 u1 u2 t wA w h _ Q ar (by omega) h0 (by omega) (by omega) (by omega) al hF (by rw[List.length_map];exact hl)).mono ?_;rintro e w' ⟨rfl,⟨v',K',hS,am⟩,hg⟩;obtain⟨a,c,rfl,_,_⟩:=hS.txs;have e1:(X++[(t,C')]).map (·.1)=X.map (·.1)++[t]:=by simp
  refine⟨rfl,hg.mono (λq _ e=>?_),DV lo hi (.slice a ((X++[(t,C')]).map (·.1)).length c),a,c,K',?_,?_,hp,rfl,?_,.inr ⟨hs,?_⟩⟩
  ·rcases e with (e|e)|e
   ·subst e;exact .inl h1
   ·subst e;exact .inl h2
   ·exact .inr e
  ·rw[e1];exact hS
  ·rw[Wv];have:Zp C0 - Zp (Xf C0 X)+(Zp (Xf C0 X) - Zp C')=Zp C0 - Zp C':=(by omega);rw[<-this];exact am
  ·rw[Wv];omega
  ·rw[Wv];exact r2
theorem St.reads{b p:Nat}{w w2 z vc K}{L:List TxD}{S:Nat->Prop}(h:St b p w (F z L.length vc) K L)(g:Gr w w2 S)(Q:∀ q,S q->q<=p):TxsAt w2 z L.length L/\SlOk z L.length vc:=by
 have o:=g.own h.own (λk hk e=>by have:=(h.own.lt k hk).1;have:=Q k e;omega);obtain⟨a,c,e,h1,h2⟩:=Tr.rows_of_own Tr.txR o (h.kept w2 (g.mono (λq _ e=>.inl (Q q e)))) rfl;injection e with e1 _ e3;subst e1 e3;exact⟨h1,h2⟩
def Zms(w w':World)(x:Int)(K:List ByteArray)(L:List TxD)(C:List Zj)(f:Int)(e:Ending):Prop:=
 ∃ ka kn kc sa sn sc z Q cc,e = dA (dB #[.agg #[F ka kn kc],F sa sn sc,F z Q cc,E J f,E J x]) /\
  Fresh w.heap.size w' (λw2=>Bk.TextsAt w2 ka kn K/\TxsAt w2 sa sn L/\CoinsAt w2 z Q C)/\SlOk ka kn kc/\SlOk sa sn sc/\SlOk z Q cc/\ZD w w'
def swF(K:List ByteArray)(C:List Zj)(l:List TxD)(h x:Int):List ByteArray×List TxD×List Zj×Int:=
 if x=0 then ((Zv h l (K,C)).2.1,(Zv h l (K,C)).1,(Zv h l (K,C)).2.2,Zp C - Zp (Zv h l (K,C)).2.2) else ([],[],[],0)
def Yw(w:World):List Obj->World
 | []=>w
 | o :: r=>Yw (w.alloc o) r
theorem Z3:∀ (os:List Obj) (w:World),(Yw w os).heap.size=w.heap.size+os.length
 | [],_=>rfl
 | o :: r,w=>by rw[Yw,Z3 r,List.length_cons];simp;omega
theorem Zs:∀ (os:List Obj) (w:World),ZD w (Yw w os)
 | [],_=>Below.refl _ _
 | o :: r,w=>Zf (Zh w o) (Zs r (w.alloc o))
theorem Zk:∀ (os:List Obj) (w:World) (i:Nat) (o:Obj),os[i]? = some o->(Yw w os).heap[w.heap.size+i]? = some o
 | [],_,_,_,h=>by simp at h
 | o :: r,w,0,x,h=>by
  simp at h;subst h;have h1:(w.alloc o).heap[w.heap.size]? = some o:=heap_alloc_new w o;exact ZE (Zs r (w.alloc o)) h1
 | o :: r,w,i+1,x,h=>by
  have:=Zk r (w.alloc o) i x (by simpa using h);rw[show (w.alloc o).heap.size+i=w.heap.size+(i+1) by simp;omega] at this;exact this
theorem kl{X w:World}{l}(h:X=Yw w l)(i:Nat)(L:List Value)(t:TypeId)(e:l[i]? = some (cZ L.toArray t)):X.heap[w.heap.size+i]? = some (cZ L.toArray t (0,0)):=by subst h;exact Zk _ w i _ e
theorem kl0{X w:World}{l}(h:X=Yw w l)(L:List Value)(t:TypeId)(e:l[0]? = some (cZ L.toArray t)):X.heap[w.heap.size]? = some (cZ L.toArray t (0,0)):=by subst h;exact Zk _ w 0 _ e
theorem R6{fn:Func}{p q u v al:Tmp}{ty z Q:TypeId}(h:fn.results=#[.cell p ty,.cell q z,.tmp u,.cell v Q,.tmp al])(tmps:Array Value)(P:Program)(w) :
  (results fn tmps).run P w =
   ((asAddr (tmps.getD p undef)).run P w).andThen λa w₁=>((loadVar ty a).run P w₁).andThen λx w₂=>((asAddr (tmps.getD q undef)).run P w₂).andThen λa2 w₃=>((loadVar z a2).run P w₃).andThen λy w₄=>((asAddr (tmps.getD v undef)).run P w₄).andThen λa3 w₅=>((loadVar Q a3).run P w₅).andThen λz3 w₆=>.ok (dB #[x,y,tmps.getD u undef,z3,tmps.getD al undef]) w₆:=by
 simp only[results,h];simp[Sem.run_bind,Result.andThen]
theorem Nv(ka kn kc K la ln lc C a m c L)(h x:Int)(K' Q C')(f:Int)(w)
  (hE:Env w) (hK:Bk.TextsAt w ka kn K) (hC:CoinsAt w la ln C) (sC:SlOk la ln lc) (hL:TxsAt w a m L) (hx:swE K C L h=x) (hr:swF K C L h x=(K',Q,C',f)) :
  Calls aB 23 #[.agg #[F ka kn kc],F la ln lc,F a m c,E J h] w λe w'=>Zms w w' x K' Q C' f e:=by
 obtain⟨X,hX⟩:=ZG (Yw w [cZ #[F ka kn kc] 24,cZ #[F none 0 0] 24,cZ #[F none 0 0] 37,cZ #[E J 0] 3]);have ag:ZD w X:=by rw[hX];exact Zs _ _
 have bu:X.heap.size=w.heap.size+4:=by rw[hX];exact Z3 _ _
 have x0:X.heap[w.heap.size]? = some (cZ #[F ka kn kc] 24 (0,0)):=by rw[hX];exact Zk _ w 0 _ rfl
 have x1:X.heap[w.heap.size+1]? = some (cZ #[F none 0 0] 24 (0,0)):=by rw[hX];exact Zk _ w 1 _ rfl
 have x2:X.heap[w.heap.size+2]? = some (cZ #[F none 0 0] 37 (0,0)):=by rw[hX];exact Zk _ w 2 _ rfl
 have x3:X.heap[w.heap.size+3]? = some (cZ #[E J 0] 3 (0,0)):=by rw[hX];exact Zk _ w 3 _ rfl
 have bt:X=(((w.alloc (cZ #[F ka kn kc] 24)).alloc (cZ #[F none 0 0] 24)).alloc (cZ #[F none 0 0] 37)).alloc (cZ #[E J 0] 3):=hX;have br:=Zrs (w.heap.size+2) (w.heap.size+3) (w.heap.size+2) (w.heap.size+4) X C x2 x3 (by omega) (by omega) (by omega) (by omega);have ar:∀ V,Gr X V (D0 (w.heap.size+2) (w.heap.size+4))->ZD w V:=λV g=>g.below ag ag.size (λq e=>by have:=e.ge;omega);obtain⟨C1,cl,cp,HR,cm,af,bi,bj⟩:=kh8 (Pv _ _ _ _ ka kn kc K la ln lc C a m c L h x X br w ar hE hK hC sC hL hx) ag bu hr ar x1 x2 x3;have t0:=Zb (X:=[F ka kn kc]) x0 0 _ rfl;have tl:=aA x0;clear hE hK hC sC hL hx hr ag bu x0 x1 x2 x3 hX br ar;go_enter func23,ntmps23;go_wp2_with fail;rw[<-bt];clear bt;(try go_wp2_with fail);refine C1.mono ?_;rintro e w1 cx
 rcases cx with ⟨h0,rfl,ab⟩|⟨h0,p,D,rfl,hp,ah,hd,hI⟩
 ·have gx:(x != 0)=true:=by simp[h0]
  have z:=ZE ab af;have y2:=ZE ab bi;have y3:=ZE ab bj;have cz:=Zb (X:=[F none 0 0]) z 0 _ rfl;have bh:=Zb (X:=[F none 0 0]) y2 0 _ rfl;have cf:=Zb (X:=[E J 0]) y3 0 _ rfl;have da:=Zg z 0;have dc:=Zg y2 0;have de:=Zg y3 0;have db:=aA z;have dd:=aA y2;have df:=aA y3
  have cn:Hid (K'=[]/\Q=[]/\C'=[]/\f=0):=by
   have:=Za HR;unfold swF at this;rw[if_neg h0] at this;simp only[Prod.mk.injEq] at this;exact⟨this.1.symm,this.2.1.symm,this.2.2.1.symm,this.2.2.2.symm⟩
  have HB:=Zd (Zf cl ab);clear ab z y2 y3 C1 HR;go_wp2;(try simp only[aR,Exit.then]);refine aW (v:=dB #[.agg #[F none 0 0],F none 0 0,F none 0 0,E J 0,E J x]) ?_ rfl ?_
  ·rw[R6 rfl];go_simp
  ·obtain⟨rfl,rfl,rfl,rfl⟩:=Za cn;exact⟨_,_,_,_,_,_,_,_,_,rfl,λ_ _=>⟨Bk.TextsAt.nil _ _,RowsAt.nil _ _,RowsAt.nil _ _⟩,Zq,Zq,Zq,(((HB.setCell (p:=⟨w.heap.size+1,0,none⟩) (by simp) _).setCell (p:=⟨w.heap.size+2,0,none⟩) (by simp) _).setCell (p:=⟨w.heap.size+3,0,none⟩) (by simp) _)⟩
 ·obtain⟨va,vc,Kl,hS,hf,_,_,_,_⟩:=hI;obtain⟨ka',kn',kc',av,ay,ax,bx,aq,cd,cc⟩:=hd;have z:=(ah.block _ (aA af) (λe=>by have:=e.ge;omega)).trans af;have cz:=Zb (X:=[F none 0 0]) z 0 _ rfl;have bh:=Zb (X:=[_]) hS.box 0 _ rfl;have cf:=Zb (X:=[_]) hf 0 _ rfl;obtain⟨p0,p1,pl⟩:=kc2 bx;have da:=Zg z 0;have dc:=Zg hS.box 0;have de:=Zg hf 0;have db:=aA z;have dd:=aA hS.box;have df:=aA hf;subst h0
  have cu:Zv h L (K,C)=(Q,K',C')/\f=Zp C - Zp C':=by
   have:=Za HR;unfold swF at this;rw[if_pos rfl] at this;simp only[Prod.mk.injEq] at this;obtain⟨r1,r2,r3,r4⟩:=this;exact⟨Prod.ext r2 (Prod.ext r1 r3),by rw[<-r4,r3]⟩
  obtain⟨aj,bv⟩:=cu;have e1:(swT h L (K,C)).map (·.1)=Q:=by rw[Qa,aj]
  have e2:Xf C (swT h L (K,C))=C':=by have:=Kb h L (K,C);rw[aj] at this;exact this
  rw[aj] at aq;rw[e1] at hS bh;rw[e2,<-bv] at hf cf;obtain⟨n,hn⟩:=ZF (Q.length)
  have cg:Hid (∀ W,Gr w1 W (λq=>w.heap.size+1<=q/\q<w.heap.size+4)->Zms w W 0 K' Q C' f (dA (dB #[.agg #[F ka' kn' kc'],F va n vc,F av ay ax,E J f,E J 0]))):=λW g=>by
   have dj:=Za cp;have ab:=cm w1 ah;have di:=ah.size;subst hn;refine⟨ka',kn',kc',va,Q.length,vc,av,ay,ax,rfl,λW2 g2=>?_,cd,(hS.reads (Gr.refl w1 (λ_=>False)) (λ_ q=>q.elim)).2,cc,g.below ab ab.size (λq e=>by omega)⟩;have r1:=aq W2 ((g.mono (λq _ e=>by omega)).trans (g2.mono (λq _ e=>by omega)));have r2:=(hS.reads ((g.mono (T:=λq=>q<w.heap.size+4) (λq _ e=>e.2)).trans (g2.mono (λq _ e=>by omega))) (λq e=>by omega)).1;exact⟨r1.1,r2,r1.2⟩
  rw[hn] at bh;clear hS hf aq bx ah aj bv e1 e2 z HR C1 cd cc af bi bj hn;go_wp2_with fail
  go_region
  go_wp2;(try simp only[aR,Exit.then]);refine aW (v:=dB #[.agg #[F ka' kn' kc'],F va n vc,F av ay ax,E J f,E J 0]) ?_ rfl ?_
  ·rw[R6 rfl];go_simp
  ·exact cg _ ((((Gr.refl w1 (λq=>w.heap.size+1<=q/\q<w.heap.size+4)).one (w.heap.size+1) 0 (.inl (by omega)) _).one (w.heap.size+1+1) 0 (.inl (by omega)) _).one (w.heap.size+1+1+1) 0 (.inl (by omega)) _).draw
open Go.RowKit Go.Maps
def Zef(v:Value):Option (DataW Value×List MemPlace):=some (.held v,[])
abbrev Bv:Value:=F none 0 0
abbrev Zrr(x:Int):Lit:=.int .i64 x
theorem Zqa:Keyed aB 3:=int_keyed bC
theorem Zqh(w):(zeroValue 29).run aB w = .ok (F none 0 0) w:=by kernel_rfl
theorem Zol{x y:Int}(h:x≠y):Zrr x≠Zrr y:=by
 intro e;injection e with _ e;exact h e
theorem Ur{x:Int}(h : -1000000<=x)(h2:x<=1000000):(Lit.int .i64 x).wf=true:=by simp[Lit.wf,IntKind.min,IntKind.max,IntKind.signed,IntKind.bits];omega
def BMap(bm n:Nat)(f:Int->Value)(w:World):Prop:=∃ D,w.ownsMap aB 3 Zef bm n D/\IsMap D/\∀ x:Int,D.atKey (Zrr x) (.held Bv) = .held (f x)
theorem BMap.heap{bm n:Nat}{f:Int->Value}{w w':World}(h:BMap bm n f w)(hb:w'.heap[bm]? = w.heap[bm]?):BMap bm n f w':=by
 obtain⟨D,⟨Q,z,h1,r⟩,r2⟩:=h;exact⟨D,⟨Q,z,hb.trans h1,r⟩,r2⟩
theorem BMap.lt{bm n:Nat}{f:Int->Value}{w:World}(h:BMap bm n f w):bm<w.heap.size:=by
 obtain⟨D,h1,_⟩:=h;exact h1.lt
theorem BMap.keep{bm n:Nat}{f:Int->Value}{w w':World}(h:BMap bm n f w)(z:ZD w w'):BMap bm n f w':=h.heap (z.block bm h.lt)
theorem BMap.gr{bm n:Nat}{f:Int->Value}{w w'}{S:Nat->Prop}(h:BMap bm n f w)(g:Gr w w' S)(z:¬S bm):BMap bm n f w':=h.heap (g.block bm h.lt z)
theorem BMap.isMap{bm n:Nat}{f:Int->Value}{w:World}(h:BMap bm n f w):∃ Q z,w.heap[bm]? = some (.map Q z):=by
 obtain⟨D,⟨Q,z,h1,r⟩,r2⟩:=h;exact⟨Q,z,h1⟩
theorem BMap.made(w:World):BMap w.heap.size 0 (λ_=>Bv) (w.alloc (.map #[] 0)):=
 ⟨.map [],World.ownsMap_made w aB 3 Zef,⟨_,rfl⟩,λ_=>rfl⟩
theorem BMap.look{bm n:Nat}{f:Int->Value}{w}(h:BMap bm n f w)(x:Int)(hx:(Lit.int .i64 x).wf=true):(Instr.lookup 252 (.map (some bm)) (.int .i64 x) false).run aB w = .ok (f x) w:=by
 obtain⟨D,h1,_,h3⟩:=h;obtain⟨v,ps,z,Q⟩:=h1.lookup Zqa underlying252 (Zqh w) (zd:=.held Bv) (zp:=[]) rfl (keyOf_int_mk bC hx);rw[h3] at Q;have aa:v=f x:=DataW.held.inj (Prod.mk.inj (Option.some.inj Q)).1;rw[aa] at z;exact z
theorem BMap.drew_look{bm n:Nat}{f:Int->Value}{w:World}(h:BMap bm n f w)(x:Int)(hx:(Lit.int .i64 x).wf=true):(Instr.lookup 252 (.map (some bm)) (.int .i64 x) false).run aB w.drew = .ok (f x) w.drew:=BMap.look (w:=w.drew) (h.heap rfl) x hx
theorem BMap.put{bm n:Nat}{f:Int->Value}{w:World}(h:BMap bm n f w)(hn:n<1000000)(x:Int)(hx:(Lit.int .i64 x).wf=true)(v) :
  ∃ w',(Instr.mapUpdate 252 (.map (some bm)) (.int .i64 x) v).run aB w = .ok () w'/\BMap bm (n+1) (λy=>if y=x then v else f y) w'/\w.grownBy w' (some bm):=by
 obtain⟨D,h1,h2,h3⟩:=h;obtain⟨w',z,Q,r2⟩:=h1.update Zqa underlying252 (by unfold cW;omega) (keyOf_int_mk bC hx) (val:=v) (d:=.held v) (ps:=[]) rfl;refine⟨w',z,⟨_,Q,?_,λy=>?_⟩,r2⟩
 ·obtain⟨es,rfl⟩:=h2;exact⟨_,rfl⟩
 ·by_cases e:y=x
  ·subst e;rw[atKey_put_same h2 (by simp[WideAt.IsKeyLit])];show _=DataW.held (if y=y then v else f y);rw[if_pos rfl]
  ·rw[atKey_put_other (Zol e),h3];show _=DataW.held (if y=x then v else f y);rw[if_neg e]
