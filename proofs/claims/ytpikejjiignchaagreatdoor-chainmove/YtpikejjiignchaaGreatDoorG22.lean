import Derived.Test.YtpikejjiignchaaGreatDoorH
import Derived.Test.YtpikejjiignchaaGreatDoorG21
open Go.Proofs.Tryz
open Go renaming heap_alloc_new->aK,lt_of_block->aA,bodyPost_ret->aR
open Go.Ending renaming returned->dX
open Go.IntKind renaming i64->J
open Go.Obj renaming cells->dW
open Go.Proofs.Tryz renaming prog->aB
open Go.Value renaming int->E,slice->F,tuple->dY,bool->eA
open Nat renaming le_trans->aT,le_refl->aE,zero_le->aP
set_option maxHeartbeats 6400000
set_option maxRecDepth 10000
namespace Go.Proofs.YtpikejjiignchaaGreatDoor
open Go.RowKit
theorem Sl{fn:Func}{p:Tmp}{ty:TypeId}(h:fn.results=#[.cell p ty])(tmps:Array Value)(P:Program)(w) :
  (results fn tmps).run P w=((asAddr (tmps.getD p undef)).run P w).andThen λa z=>(loadVar ty a).run P z:=by
 simp only[results,h];simp[Sem.run_bind,Result.andThen]
theorem OpsAt.gr{w w'}{S:Nat->Prop}{a n l}(h:OpsAt w a n l)(g:Gr w w' S)(hn:∀ z,a=some z->¬S z.block):OpsAt w' a n l:=by
 refine⟨h.1,λh0=>?_⟩;obtain⟨b,off,rfl,hc⟩:=h.2 h0;refine⟨b,off,rfl,λi hi=>?_⟩;obtain⟨c0,c1⟩:=hc i hi;have O:=g.block b (World.block_lt_of_cell? _ _ c0) (hn _ rfl);exact⟨(World.cell?_of_block (a:=⟨b,off+i*2,none⟩) O).trans c0,(World.cell?_of_block (a:=⟨b,off+i*2+1,none⟩) O).trans c1⟩
theorem Kk(x:Int)(a)(n c:Nat)(l)(w:World)(hn:n<=8796093022208)(h:OpsAt w a n l)(hs:SlOk a n c) :
  Calls aB 103 #[.agg #[E J x,F a n c]] w λe w'=>∃ a' O,e = dX (.agg #[E J x,F a' n O])/\OpsAt w' a' n l/\SlOk a' n O/\(∀ z,a'=some z->w.heap.size<=z.block)/\ZD w w':=by
 obtain⟨X,hX⟩:=ZG ((w.alloc (dW #[E J x,F a n c] 101)).alloc (dW #[E J 0,F none 0 0] 101));have ag:ZD w X:=by rw[hX];exact Ze (Zg _ _) (Zg _ _)
 have x0:X.cell? ⟨w.heap.size,0,none⟩=some (E J x):=by rw[hX];exact Zc (Zg _ _) (Yo w _ _ _).1
 have x1:X.cell? ⟨w.heap.size,1,none⟩=some (F a n c):=by rw[hX];exact Zc (Zg _ _) (Yo w _ _ _).2
 have aj:X.heap[w.heap.size+1]? = some (dW [E J 0,F none 0 0].toArray 101 (0,0)):=by
  rw[hX];have:=aK (w.alloc (dW #[E J x,F a n c] 101)) (dW #[E J 0,F none 0 0] 101);rw[show (w.alloc (dW #[E J x,F a n c] 101)).heap.size=w.heap.size+1 by simp] at this;exact this
 have C:=Zb (Gz a n c l X.drew hn (h.later (Ze ag (Zh X))) hs);have ah:=Zb aj;have am:=Zb ag;clear h hs ag aj;go_enter func103,ntmps103;go_wp2_with fail;rw[<-hX];clear hX
 go_region_with (go_at_call 102;refine C.mono ?_;rintro e w3 ⟨a',O,rfl,ae,af,ac,aa⟩;have o2:w3.cell? ⟨w.heap.size,0,none⟩=some (E J x):=Zc aa (Zc (Zh _) x0);have ad:=ZE aa ah;have c0:=Zd ad 0 _ rfl;have c1:=Zd ad 1 _ rfl;have f0:=Zi ad 0;have f1:=Zi ad 1;have H3:Hid (OpsAt w3 a' n l/\SlOk a' n O/\(∀ z,a'=some z->X.heap.size<=z.block)/\Below X.drew.heap.size X.drew w3):=⟨ae,af,ac,aa⟩;clear ae af ac aa ad)
 all_goals
  go_wp2;(try simp only[Exit.inBlock,Exit.then]);obtain⟨ae,af,ac,aa⟩:=Za H3;have hG:=((Gr.refl w3 (λq=>q=w.heap.size+1)).one (w.heap.size+1) 0 (.inl rfl) (E J x)).one (w.heap.size+1) 1 (.inl rfl) (F a' n O);have au:=aA ah;refine aR (v:=.agg #[E J x,F a' n O]) ?_ rfl ⟨a',O,rfl,ae.gr hG (λz e q=>?_),af,λz e=>?_,?_⟩
  ·rw[Sl rfl];go_simp
  ·have:=ac z e;omega
  ·have:=ac z e;omega
  ·have av:X.heap.size<=w3.heap.size:=aa.size;exact hG.below (Ze (Ze am (Zh _)) aa) (by omega) (λk hk=>by omega)
theorem Nh(x:Int)(a)(n c:Nat)(l)(w:World)(hn:n<=4096)(h:OpsAt w a n l)(hs:SlOk a n c) :
  Calls aB 103 #[.agg #[E J x,F a n c]] w λe w'=>∃ a' O,e = dX (.agg #[E J x,F a' n O])/\OpsAt w' a' n l/\SlOk a' n O/\(∀ z,a'=some z->w.heap.size<=z.block)/\ZD w w':=
 Kk x a n c l w (aT hn (by decide)) h hs
theorem Cp(x:Zf)(a)(n c:Nat)(w:World)(hn:n<=8796093022208)(h:OpsAt w a n (ck x))(hs:SlOk a n c) :
  Calls aB 89 #[cnV x a n c] w λe w'=>∃ a' O,e = dX (cnV x a' n O)/\OpsAt w' a' n (ck x)/\SlOk a' n O/\(∀ z,a'=some z->w.heap.size<=z.block)/\ZD w w':=by
 unfold cnV;obtain⟨X,hX⟩:=ZG ((w.alloc (dW #[E J x.1,E J x.2.1,E J (cv x),F a n c,E J (ch x),eA (cr x)] 103)).alloc (dW #[E J 0,E J 0,E J 0,F none 0 0,E J 0,eA false] 103));have ag:ZD w X:=by rw[hX];exact Ze (Zg _ _) (Zg _ _)
 have ad:X.heap[w.heap.size]? = some (dW [E J x.1,E J x.2.1,E J (cv x),F a n c,E J (ch x),eA (cr x)].toArray 103 (0,0)):=by
  rw[hX,Below.heap_alloc _ _ _ (by simp)];exact Qn _ _ _ _ _ _ _ _
 have aj:X.heap[w.heap.size+1]? = some (dW zeroCs.toArray 103 (0,0)):=by
  rw[hX];have:=aK (w.alloc (dW #[E J x.1,E J x.2.1,E J (cv x),F a n c,E J (ch x),eA (cr x)] 103)) (dW zeroCs.toArray 103);rw[show (w.alloc (dW #[E J x.1,E J x.2.1,E J (cv x),F a n c,E J (ch x),eA (cr x)] 103)).heap.size=w.heap.size+1 by simp] at this;exact this
 have C:=Zb (Kk (cv x) a n c (ck x) X hn (h.later ag) hs);have an:=Zb ad;have ah:=Zb aj;have am:=Zb ag;have x2:=Zd ad 2 _ rfl;have x3:=Zd ad 3 _ rfl;clear h hs ag aj ad;go_enter func89,ntmps89;go_wp2_with fail;rw[<-hX];clear hX x2 x3;refine C.mono ?_;rintro e w3 ⟨a',O,rfl,ae,af,ac,aa⟩;have h0:=ZE aa an;have h1:=ZE aa ah;have c0:=Zd h0 0 _ rfl;have c1:=Zd h0 1 _ rfl;have c2:=Zd h0 2 _ rfl;have c3:=Zd h0 3 _ rfl;have c4:=Zd h0 4 _ rfl;have c5:=Zd h0 5 _ rfl;have f2:=Zi h0 2;have f3:=Zi h0 3;have z0:=Zd h1 0 _ rfl;have z1:=Zd h1 1 _ rfl;have z2:=Zd h1 2 _ rfl;have z3:=Zd h1 3 _ rfl;have z4:=Zd h1 4 _ rfl;have z5:=Zd h1 5 _ rfl;have y0:=Zi h1 0;have y1:=Zi h1 1;have y2:=Zi h1 2;have y3:=Zi h1 3;have y4:=Zi h1 4;have y5:=Zi h1 5;have ao:Hid (w.heap.size+1<X.heap.size):=aA ah;have H3:Hid (OpsAt w3 a' n (ck x)/\SlOk a' n O/\(∀ z,a'=some z->X.heap.size<=z.block)/\ZD X w3):=⟨ae,af,ac,aa⟩;clear ae af ac aa h0 h1;go_wp2;(try simp only[Exit.inBlock,Exit.then]);obtain⟨ae,af,ac,aa⟩:=Za H3;have bb:=Za ao;have hG:=(((Gr.refl w3 (λq=>q=w.heap.size\/q=w.heap.size+1)).one w.heap.size 2 (.inl (.inl rfl)) (E J (cv x))).one w.heap.size 3 (.inl (.inl rfl)) (F a' n O)).six (w.heap.size+1) (.inl (.inr rfl)) (E J x.1) (E J x.2.1) (E J (cv x)) (F a' n O) (E J (ch x)) (eA (cr x))
 refine aR (v:=.agg #[E J x.1,E J x.2.1,E J (cv x),F a' n O,E J (ch x),eA (cr x)]) ?_ rfl ⟨a',O,rfl,ae.gr hG (λz e q=>?_),af,λz e=>?_,?_⟩
 ·rw[Sl rfl];go_simp
 ·have:=ac z e;rcases q with q|q <;> omega
 ·have:=ac z e;omega
 ·exact hG.below (Ze am aa) (Nat.le_of_lt (Nat.lt_of_lt_of_le (by omega) aa.size)) (λk hk=>by rcases hk with q|q <;> omega)
def LkIn(w:World)(s:Nat)(x:CV):Prop:=LkAt w x/\∀ z,x.2.1=some z->s<=z.block
theorem LkIn.later{w w':World}{s:Nat}{x:CV}(h:LkIn w s x)(z:ZD w w'):LkIn w' s x:=⟨h.1.later z,h.2⟩
def Fresh(B:Nat)(w:World)(Q:World->Prop):Prop:=∀ w2,Gr w w2 (λk=>k<B)->Q w2
theorem Nf{w:World}{base:Nat}{e:TypeId}{size:Nat}{v}{n:Nat}{xs}(h:w.ownsRow base e size v n xs):∃ a c,v = F a n c/\SlOk a n c/\(0<n->∃ g,a=some ⟨g,0,none⟩/\base<=g/\g<w.heap.size):=by
 rcases h.2 with ⟨rfl,rfl⟩|⟨g,cap,aa,rfl,z,O,h1,h2,h3,h4⟩
 ·exact⟨none,0,rfl,⟨aE _,aP _,λ_=>⟨rfl,rfl⟩⟩,λh=>absurd h (by omega)⟩
 ·exact⟨_,cap,rfl,⟨h1,h2,λe=>by cases e⟩,λ_=>⟨g,rfl,z,aA O⟩⟩
theorem Su(a)(n c:Nat)(L)(w:World)(hn:n<=2199023255552)(h:CoinsAt w a n L)(cf:SlOk a n c)(hk:∀ x∈L,(ck x).length<=8796093022208) :
  Calls aB 47 #[F a n c] w λe w'=>∃ a' c',e = dX (F a' n c')/\Fresh w.heap.size w' (λw2=>CoinsAt w2 a' n L)/\SlOk a' n c'/\ZD w w':=by
 have C1:=Zb (Ts a n c L w hn h cf);have HZ:=Zb h.1;have HK:=Zb hk;clear h hk cf;go_enter func47,ntmps47;go_wp2_with fail;refine C1.mono ?_;rintro e w2 ⟨v,K,rfl,hK,am,au,be⟩;have bb:K.length=n:=by rw[<-Za HZ,<-hK,List.length_map]
 rw[bb] at au;obtain⟨a1,c1,rfl,cd,bg⟩:=Nf au;obtain⟨G,hG⟩:=ZF (w2.heap.size);rw[hG] at bg;have cl:=Zb bg;have cw:=Zb cd;have cp:=Zb hK;have bo:=Zb bb;have cq:=Zb am;have ST:Hid (w2.ownsRow w.heap.size 103 6 (F a1 n c1) n (Zk ([]++K.drop 0))):=au;have ci:=Zb be;have cm:Hid (G<=w2.heap.size):=Nat.le_of_eq hG.symm;have bt:Hid (w.heap.size<=G):=by rw[<-hG];exact be.size
 clear au be hK am cd bg hG bb;go_wp2_with fail
 go_loopw [9] (λi wr=>∃ (k:Nat) (T:List CV),k<=n/\i = E J k/\Hid (T.map (·.1)=L.take k)/\Hid (T.length=k)/\Hid (wr.ownsRow w.heap.size 103 6 (F a1 n c1) n (Zk (T++K.drop k)))/\Hid (∀ eg∈T,LkIn wr G eg)/\Hid (ZD w wr)/\Hid (G<=wr.heap.size)) (λi _=>n - (intOf i).toNat)
 case atStart=>exact⟨0,[],aP _,rfl,rfl,rfl,ST,(λeg z=>(by cases z):∀ eg∈([]:List CV),LkIn w2 G eg),ci,cm⟩
 case round=>
  obtain⟨k,T,hk,rfl,HT,ax,HO,an,HB,cn⟩:=hrel;by_cases ca:k<n
  ·have am:k<L.length:=(by rw[Za HZ];exact ca);have bz:k<K.length:=(by rw[Za bo];exact ca);obtain⟨g,rfl,dp,dn⟩:=cl (by omega)
   have bc:(K[k]).1=L[k]:=by
    have:=Za cp;subst this;rw[List.getElem_map]
   have ar:=HK _ (List.getElem_mem am);have bu:=(cq _ (List.getElem_mem bz)).later HB;have aw:Hid (L.take (k+1)=L.take k++[L[k]]):=List.take_succ_eq_append_getElem am
   have br:Hid (T++K.drop k=T++K[k] :: K.drop (k+1)):=by
    show _=_;rw[List.drop_eq_getElem_cons bz]
   obtain⟨eg,z⟩:=ZF (K[k]);rw[z] at bc br bu;rw[<-bc] at aw ar;obtain⟨x,la,ln,lc⟩:=eg;simp only at aw ar;obtain⟨ao,bj⟩:=bu;simp only at ao bj;have dh:ln<=8796093022208:=(by rw[<-ao.1];exact ar);have aq:=Za ax;have ap:=Za HO;rw[Za br] at ap
   have af:∀ j,j<6->wr.cell? ⟨g,k*6+j,none⟩=(Ey (x,la,ln,lc))[j]?:=λj hj=>by
    rw[World.ownsRow.cellAt ap _ (by omega),<-aq,Rv _ _ _ j hj]
   have g0:wr.cell? ⟨g,k*6,none⟩=some (E J x.1):=(af 0 (by decide)).trans rfl;have g1:wr.cell? ⟨g,k*6+1,none⟩=some (E J x.2.1):=(af 1 (by decide)).trans rfl;have g2:wr.cell? ⟨g,k*6+2,none⟩=some (E J (cv x)):=(af 2 (by decide)).trans rfl;have g3:wr.cell? ⟨g,k*6+3,none⟩=some (F la ln lc):=(af 3 (by decide)).trans rfl;have g4:wr.cell? ⟨g,k*6+4,none⟩=some (E J (ch x)):=(af 4 (by decide)).trans rfl;have g5:wr.cell? ⟨g,k*6+5,none⟩=some (eA (cr x)):=(af 5 (by decide)).trans rfl;obtain⟨X,hX⟩:=ZG (wr.alloc (dW #[E J x.1,E J x.2.1,E J (cv x),F la ln lc,E J (ch x),eA (cr x)] 103));have bf:ZD wr X:=(by rw[hX];exact Zg _ _);have C:=Cp x la ln lc X dh (ao.later bf) bj;unfold cnV at C;have HC:=Zb C;have bn:=Zb bf;have dq:(k:Int)<(n:Int):=(by omega);have ct:=Zb ap;clear C bf ao bj ar ap af bc z;go_wp2_with fail;rw[<-hX];clear hX g0 g1 g2 g3 g4 g5;refine HC.mono ?_;rintro e w5 ⟨a5,c5,rfl,cb,ce,bx,bw⟩;have al:=Ze bn bw;have ac:=(Gr.of (S:=λ_=>False) al).own ct (λ_ _ q=>q)
   have ag:∀ j,j<6->w5.cell? ⟨g,k*6+j,none⟩=(Ey (x,la,ln,lc))[j]?:=λj hj=>by
    rw[World.ownsRow.cellAt ac _ (by omega),<-aq,Rv _ _ _ j hj]
   have t0:w5.cell? ⟨g,k*6,none⟩=some (E J x.1):=(ag 0 (by decide)).trans rfl;have t1:w5.cell? ⟨g,k*6+1,none⟩=some (E J x.2.1):=(ag 1 (by decide)).trans rfl;have t2:w5.cell? ⟨g,k*6+2,none⟩=some (E J (cv x)):=(ag 2 (by decide)).trans rfl;have t3:w5.cell? ⟨g,k*6+3,none⟩=some (F la ln lc):=(ag 3 (by decide)).trans rfl;have t4:w5.cell? ⟨g,k*6+4,none⟩=some (E J (ch x)):=(ag 4 (by decide)).trans rfl;have t5:w5.cell? ⟨g,k*6+5,none⟩=some (eA (cr x)):=(ag 5 (by decide)).trans rfl;have z0:=ac.frozenAt (k*6);have z1:=ac.frozenAt (k*6+1);have z2:=ac.frozenAt (k*6+2);have z3:=ac.frozenAt (k*6+3);have z4:=ac.frozenAt (k*6+4);have z5:=ac.frozenAt (k*6+5);have dt:g<w5.heap.size:=(ac.lt _ rfl).2
   have cy:Hid (∃ T':List CV,Hid (T'.map (·.1)=L.take (k+1))/\Hid (T'.length=k+1)/\Hid (((((((w5.setCell ⟨g,k*6,none⟩ (E J x.1)).setCell ⟨g,k*6+1,none⟩ (E J x.2.1)).setCell ⟨g,k*6+2,none⟩ (E J (cv x))).setCell ⟨g,k*6+3,none⟩ (F a5 ln c5)).setCell ⟨g,k*6+4,none⟩ (E J (ch x))).setCell ⟨g,k*6+5,none⟩ (eA (cr x))).ownsRow w.heap.size 103 6 (F (some ⟨g,0,none⟩) n c1) n (Zk (T'++K.drop (k+1)))) /\
     Hid (∀ eg∈T',LkIn ((((((w5.setCell ⟨g,k*6,none⟩ (E J x.1)).setCell ⟨g,k*6+1,none⟩ (E J x.2.1)).setCell ⟨g,k*6+2,none⟩ (E J (cv x))).setCell ⟨g,k*6+3,none⟩ (F a5 ln c5)).setCell ⟨g,k*6+4,none⟩ (E J (ch x))).setCell ⟨g,k*6+5,none⟩ (eA (cr x))) G eg) /\
     Hid (ZD w ((((((w5.setCell ⟨g,k*6,none⟩ (E J x.1)).setCell ⟨g,k*6+1,none⟩ (E J x.2.1)).setCell ⟨g,k*6+2,none⟩ (E J (cv x))).setCell ⟨g,k*6+3,none⟩ (F a5 ln c5)).setCell ⟨g,k*6+4,none⟩ (E J (ch x))).setCell ⟨g,k*6+5,none⟩ (eA (cr x)))) /\
     Hid (G<=((((((w5.setCell ⟨g,k*6,none⟩ (E J x.1)).setCell ⟨g,k*6+1,none⟩ (E J x.2.1)).setCell ⟨g,k*6+2,none⟩ (E J (cv x))).setCell ⟨g,k*6+3,none⟩ (F a5 ln c5)).setCell ⟨g,k*6+4,none⟩ (E J (ch x))).setCell ⟨g,k*6+5,none⟩ (eA (cr x))).heap.size)):=by
    have hG:=(Gr.refl w5 (λq=>q=g)).sixAt g (k*6) (.inl rfl) (E J x.1) (E J x.2.1) (E J (cv x)) (F a5 ln c5) (E J (ch x)) (eA (cr x));have bv:=Zfc ac (k*6) (E J x.1) (E J x.2.1) (E J (cv x)) (F a5 ln c5) (E J (ch x)) (eA (cr x));have bk:=Sq T (K.drop (k+1)) (x,la,ln,lc) (x,a5,ln,c5);rw[aq] at bk;simp only at bk;rw[bk] at bv;have dm:wr.heap.size<=X.heap.size:=bn.size;have dj:=Za cn;have dr:=al.size;have ds:=hG.size;refine⟨T++[(x,a5,ln,c5)],?_,?_,?_,?_,?_,?_⟩
    ·show _=_;rw[List.map_append,Za HT,Za aw];rfl
    ·show _=_;rw[List.length_append,aq];rfl
    ·show World.ownsRow _ _ _ _ _ _ _;rw[List.append_assoc];exact bv
    ·intro eg z
     rcases List.mem_append.1 z with z|z
     ·have h1:=(an eg z).later al;exact⟨⟨h1.1.1.gr hG (λad e q=>by have:=h1.2 ad e;omega),h1.1.2⟩,h1.2⟩
     ·rw[List.mem_singleton.1 z];have h3:∀ ad,a5=some ad->G<=ad.block:=λad e=>by have:=bx ad e;omega
      exact⟨⟨cb.gr hG (λad e q=>by have:=h3 ad e;omega),ce⟩,h3⟩
    ·exact hG.below (Ze HB al) (by have:=Za bt;omega) (λq hq=>by omega)
    ·show _<=_;omega
   clear cb ce bx bw al ac ag;go_wp2;go_roundw
   case rel=>
    obtain⟨T',f1,f2,f3,f4,f5,f6⟩:=Za cy;exact⟨k+1,T',by omega,by go_num,f1,f2,f3,f4,f5,f6⟩
   case measure=>simp[intOf];omega
  ·have e:k=n:=(by omega);subst e
   have HR:Hid (Fresh w.heap.size wr (λw2=>CoinsAt w2 a1 k L)/\SlOk a1 k c1):=by
    have h1:=Za HO;have dl:=Za bo;rw[List.drop_of_length_le (by omega),List.append_nil,<-Za ax] at h1
    have hF:Fresh w.heap.size wr (λw2=>CoinsAt w2 a1 k L):=λw2 hG=>by
     have h2:=hG.own h1 (λq hq=>by have:=(h1.lt q hq).1;omega);obtain⟨a',c',e,h3,_⟩:=Zx h2 (λeg z=>⟨(an eg z).1.1.gr hG (λad e q=>by have:=(an eg z).2 ad e;have:=Za bt;omega),(an eg z).1.2⟩);cases e;rw[Za HT,List.take_of_length_le (by rw[Za HZ];exact aE _)] at h3;rw[Za ax] at h3;exact h3
    exact⟨hF,Za cw⟩
   go_wp2;go_ret;obtain⟨h1,h2⟩:=Za HR;exact⟨_,_,rfl,h1,h2,Za HB⟩
theorem Rw(a)(n c:Nat)(L)(w:World)(hn:n<=4096)(h:CoinsAt w a n L)(ab:SlOk a n c)(O:∀ x∈L,(ck x).length<=4096) :
  Calls aB 47 #[F a n c] w λe w'=>∃ a' z,e = dX (F a' n z)/\Fresh w.heap.size w' (λw2=>CoinsAt w2 a' n L)/\SlOk a' n z/\ZD w w':=
 Su a n c L w (aT hn (by decide)) h ab (λx hx=>aT (O x hx) (by decide))
def Em(m i:Nat):Value:=E J (((i+1) % m:Nat):Int)
theorem El(m:Nat)(w:World)(h0:0<m)(hm:m<=4) :
  Calls aB 121 #[E J m] w λe w'=>e = dX (F (some ⟨w.heap.size,0,none⟩) m m)/\FillV w.heap.size 3 m (Em m) w w' m:=by
 obtain⟨i0,hi,al,am,an⟩:=info_parts Tryz.infoInt;go_enter func121,ntmps121
 go_wp2_with (at_make;refine wpList_make_full _ rfl _ _ 25 rfl w.heap.size 3 i0 (E J 0) 1 underlying25 hi al am .i64 .i64 _ _ m rfl rfl rfl rfl (by rw[an];omega) (by unfold maxLen;omega) (aE _) ?_;intro w2 ad ac)
 have ae:FillV w.heap.size 3 m (Em m) w w2 0:=⟨⟨_,ad,λj hj=>absurd hj (by omega)⟩,(Below.refl _ _).grown ac (aE _) (λk h=>by cases h)⟩;have ag:=Zb ae;clear ae ad ac
 go_loopw [8] (λi wr=>∃ k:Nat,k<=m/\i = E J k/\FillV w.heap.size 3 m (Em m) w wr k) (λi _=>m - (intOf i).toNat)
 case atStart=>exact⟨0,aP _,rfl,Za ag⟩
 case round=>
  obtain⟨k,hk,rfl,z⟩:=hrel;have HF:=Zb z;by_cases O:k<m
  ·obtain⟨v,av⟩:=z.old O;have ap:=z.free k;have aq:=z.lt;have au:(m:Int)≠0:=by omega
   have ak:((k:Int)+1).tmod (m:Int)=(((k+1) % m:Nat):Int):=by
    rw[show ((k:Int)+1)=((k+1:Nat):Int) by omega];rfl
   have aj:(k+1) % m<m:=Nat.mod_lt _ h0;obtain⟨q,hq⟩:=ZF ((k+1) % m);rw[hq] at ak aj;have HQ:=Zb hq;clear z hq;go_wp2;go_roundw
   case rel=>
    refine⟨k+1,by omega,by go_num,HF.step O ?_⟩;unfold Em;rw[Za HQ]
   case measure=>simp[intOf];omega
  ·clear z;have e:k=m:=(by omega);subst e;clear hk O;go_wp2;go_ret;exact⟨rfl,Za HF⟩
def rwN:Nat->Nat
 | 0=>64
 | n+1=>rwN n / 2
theorem He:∀ n,rwN n<=64
 | 0=>aE _
 | n+1=>by
  have:=He n;unfold rwN;omega
def rwD(h:Int):Int×Int:=if (decide (1<=h) && decide (h<=1000))=true then ((rwN ((h - 1).toNat / 8):Nat),0) else (0,3)
theorem Zhh(h r x:Int)(w:World)(hx:rwD h=(r,x)) :
  ZH 66 #[E J h] w (dY #[E J r,E J x]):=by
 unfold rwD at hx;cases q:(decide ((1:Int)<=h) && decide (h<=1000)) with
 | false=>
  rw[q,if_neg (by decide)] at hx;injection hx with z e2;subst z e2;have CC:=Zb (Xy h 1 1000 false w q);clear q;go_enter func66,ntmps66;go_wp2_with fail;refine CC.mono ?_;rintro e w1 ⟨rfl,O⟩;have HB:=Zb O;clear O;go_wp2;go_ret2;exact⟨rfl,Za HB⟩
 | true=>
  rw[q,if_pos rfl] at hx;injection hx with z e2;subst e2;have CC:=Zb (Xy h 1 1000 true w q);rw[Bool.and_eq_true,decide_eq_true_eq,decide_eq_true_eq] at q;obtain⟨k,rfl⟩:∃ k:Nat,h=(k:Int)+1:=⟨(h - 1).toNat,by omega⟩;have hk:k<1000:=by omega
  rw[show (((k:Int)+1 - 1).toNat)=k by omega] at z;obtain⟨n,hn⟩:=ZF (k / 8);have hq:((k:Int)).tdiv 8=(n:Int):=by rw[<-hn];rfl
  have ar:n<=125:=by omega
  rw[hn] at z;have HR:=Zb z;clear q z hn;go_enter func66,ntmps66;go_wp2_with fail;refine CC.mono ?_;rintro e w1 ⟨rfl,O⟩;have HB:=Zb O;clear O;go_wp2
  go_loopw [4,11] (λv i wr=>∃ j:Nat,j<=n/\v = E J (rwN j:Nat)/\i = E J j/\Hid (ZD w wr)) (λ_ i _=>n - (intOf i).toNat)
  case atStart=>exact⟨0,aP _,rfl,rfl,HB⟩
  case round=>
   obtain⟨j,hj,rfl,rfl,ah⟩:=hrel;have al:=He j;by_cases aq:j<n
   ·have hd:((rwN j:Nat):Int).tdiv 2=((rwN (j+1):Nat):Int):=rfl;have am:=He (j+1);obtain⟨a,ha⟩:=ZF (rwN j);obtain⟨b,hb⟩:=ZF (rwN (j+1));rw[ha,hb] at hd;rw[ha] at al;rw[hb] at am;rw[ha];have ai:=Zb hb;clear ha hb;go_wp2;go_roundw
    case rel=>exact⟨j+1,by omega,by rw[Za ai],by go_num,ah⟩
    case measure=>simp[intOf];omega
   ·have e:j=n:=(by omega);subst e;go_wp2;go_ret2;exact⟨by rw[Za HR];rfl,Za ah⟩
