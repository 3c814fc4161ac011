import Derived.Test.YtmomfkikogbdeaaGreatDoorH
import Derived.Test.YtmomfkikogbdeaaGreatDoorG17
import Derived.Test.YtmomfkikogbdeaaGreatDoorG16
open Go.Proofs.Tryz
open Go renaming heap_alloc_new->aR,lt_of_block->aA,bodyPost_ret->bA
open Go.Ending renaming returned->cY
open Go.IntKind renaming wrap_i64->bN,i64->J
open Go.Obj renaming cells->cW
open Go.Proofs.Tryz renaming prog->aB,underlying48->cS
open Go.RowKit renaming Below->aD,intOf->cE
open Go.Value renaming int->E,slice->F,bool->dB
open Go.World renaming block_lt_of_cell?->aF,cell?_of_block->bV
open Go.World.ownsRow renaming cellAt->bK
open List renaming mem_cons->bC,getElem?_eq_some_iff->cO,getElem_mem->bB,take_succ_eq_append_getElem->aW,take_of_length_le->aL,mem_cons_self->cP
open Nat renaming le_refl->aH,zero_le->aQ
set_option maxHeartbeats 12800000
set_option maxRecDepth 10000
namespace Go.Proofs.YtmomfkikogbdeaaGreatDoor
open Go.RowKit
def Y3:List (Int×Int)->List Value
 | []=>[]
 | o :: r=>E J o.1 :: E J o.2 :: Y3 r
theorem Y6:∀ l:List (Int×Int),(Y3 l).length=l.length*2
 | []=>rfl
 | _ :: r=>by simp only[Y3,List.length_cons,Y6 r];omega
theorem Ry:∀ (l:List (Int×Int)) (i:Nat),i<l.length->(Y3 l)[i*2]? = some (E J (l.getD i (0,0)).1)/\(Y3 l)[i*2+1]? = some (E J (l.getD i (0,0)).2)
 | [],_,h=>absurd h (by simp)
 | o :: r,0,_=>⟨rfl,rfl⟩
 | o :: r,i+1,h=>by
  have:=Ry r i (by simpa using h);rw[show (i+1)*2=i*2+2 by omega];simpa[Y3] using this
theorem Jf:∀ (l:List (Int×Int)) (u:Value),u∈Y3 l->u.oneCell'=true
 | [],u,h=>by cases h
 | o :: r,u,h=>by
  simp only[Y3,bC] at h
  rcases h with rfl|rfl|h
  ·rfl
  ·rfl
  ·exact Jf r u h
theorem Qr{w:World}{b off n:Nat}{l:List (Int×Int)}(hz:l.length=n)(hc:∀ i,i<n->w.cell? ⟨b,off+i*2,none⟩=some (E J (l.getD i (0,0)).1)/\w.cell? ⟨b,off+i*2+1,none⟩=some (E J (l.getD i (0,0)).2))(j:Nat)(u:Value)(z:(Y3 l)[j]? = some u):w.cell? ⟨b,off+j,none⟩=some u:=by
 have ac:j<l.length*2:=by rw[<-Y6];exact (cO.1 z).1
 obtain⟨Q,f1⟩:=Ry l (j / 2) (by omega);obtain⟨c0,c1⟩:=hc (j / 2) (by omega)
 rcases (show j % 2=0\/j % 2=1 by omega) with q|q
 ·have e:j=j / 2*2:=by omega
  rw[<-e] at Q c0;rw[Q] at z;rw[c0,<-z]
 ·have e:j=j / 2*2+1:=by omega
  rw[<-e] at f1;rw[show off+j / 2*2+1=off+j by omega] at c1;rw[f1] at z;rw[c1,<-z]
theorem Ja{w:World}{base:Nat}{v:Value}{n:Nat}{l:List (Int×Int)}(h:w.ownsRow base 164 2 v n (Y3 l)):∃ a c,v = F a n c/\OpsAt w a n l/\SlOk a n c/\(∀ z,a=some z->base<=z.block):=by
 have Q:l.length=n:=by have:=h.1;rw[Y6] at this;omega
 rcases h.2 with ⟨rfl,rfl⟩|⟨g,cap,ad,rfl,hg,hh,h1,h2,h3,h4⟩
 ·exact⟨none,0,rfl,⟨Q,λh=>absurd h (by omega)⟩,⟨aH _,aQ _,λ_=>⟨rfl,rfl⟩⟩,λz e=>by cases e⟩
 ·refine⟨_,cap,rfl,⟨Q,λ_=>⟨g,0,rfl,λi hi=>?_⟩⟩,⟨h1,h2,λe=>by cases e⟩,λz e=>by cases e;exact hg⟩;obtain⟨f0,f1⟩:=Ry l i (by omega);rw[Nat.zero_add,bK h _ (by omega),bK h _ (by omega)];exact⟨f0,f1⟩
theorem Tryz.infoOpC:(Tryz.prog.info? 164).map (λi=>(i.zero,i.size,i.bytes))=some (some (.agg #[E J 0,E J 0]),2,16):=by kernel_rfl
theorem Qt(w:World):Calls aB 150 #[F none 0 0] w λe w'=>e = cY (F none 0 0)/\w=w':=by
 have z:=λw=>Lib.run_eql_slice_nil (P:=aB) w 48 164 none 0 0 0 0 cS;go_enter func150,ntmps150;go_wp2;go_ret;exact⟨rfl,rfl⟩
theorem U6(z:Addr)(n c:Nat)(l:List (Int×Int))(w:World)(hn:n<=4096)(hz:l.length=n)(hc:∀ j u,(Y3 l)[j]? = some u->w.cell? (z.add j)=some u) :
  Calls aB 150 #[F (some z) n c] w λe w'=>∃ v,e = cY v/\w'.ownsRow w.heap.size 164 2 v n (Y3 l)/\aD w.heap.size w w':=by
 obtain⟨i0,hi,am,an,ap⟩:=info_parts Tryz.infoOpC;have hb:=Zh w (cW #[] 164);have HC:Hid (∀ j u,(Y3 l)[j]? = some u->(w.alloc (cW #[] 164)).cell? (z.add j)=some u):=λj u hj=>Ze hb (hc j u hj);have Q:=Zd hb;have HZ:=Zd hz;have HO:=Zd (Xj w 164 2);have he:=λw=>Lib.run_eql_slice_nil (P:=aB) w 48 164 (some z) n c 0 0 cS;clear hc hb hz;go_enter func150,ntmps150
 go_wp2_with (at_builtin;refine wpList_append_own _ rfl _ _ 48 rfl w.heap.size 164 i0 (.agg #[E J 0,E J 0]) 2 16 cS hi am an ap rfl (by decide) _ _ _ rfl HO z n c (Y3 l) rfl (by rw[Y6,Za HZ]) HC (Jf l) (by unfold maxLen;omega) (by omega) Q.size ?_;intro v2 w3 ae ad _)
 have HW:Hid (w3.ownsRow w.heap.size 164 2 v2 n (Y3 l)):=by show World.ownsRow _ _ _ _ _ _ _;simpa using ae
 have ag:=Zd (Q.grown ad Q.size (Y9 HO));clear ae ad;go_wp2;go_ret;exact⟨v2,rfl,Za HW,Za ag⟩
theorem V7(a:Option Addr)(n c:Nat)(l:List (Int×Int))(w:World)(hn:n<=4096)(h:OpsAt w a n l)(hs:SlOk a n c) :
  Calls aB 150 #[F a n c] w λe w'=>∃ z c',e = cY (F z n c')/\OpsAt w' z n l/\SlOk z n c'/\(∀ Q,z=some Q->w.heap.size<=Q.block)/\aD w.heap.size w w':=by
 obtain⟨hl,hc⟩:=h;cases a with
 | none=>
  obtain⟨rfl,rfl⟩:=hs.2.2 rfl;exact (Qt w).mono λe w' ⟨x,y⟩=>⟨none,0,x,⟨hl,λh=>absurd h (by omega)⟩,hs,λQ e=>(by cases e),y ▸ Below.refl _ _⟩
 | some Q=>
  have af:∀ j u,(Y3 l)[j]? = some u->w.cell? (Q.add j)=some u:=λj u hj=>by
   have aj:j<l.length*2:=(by rw[<-Y6];exact (cO.1 hj).1);obtain⟨b,off,e,ag⟩:=hc (by omega);cases e;rw[Addr.add_lit];exact Qr hl ag j u hj
  refine (U6 Q n c l w hn hl af).mono ?_;rintro e w' ⟨v,rfl,x,y⟩;obtain⟨z,c',rfl,h1,h2,h3⟩:=Ja x;exact⟨z,c',rfl,h1,h2,h3,y⟩
theorem Jj{fn:Func}{p:Tmp}{ty:TypeId}(h:fn.results=#[.cell p ty])(tmps:Array Value)(P:Program)(w:World) :
  (results fn tmps).run P w=((asAddr (tmps.getD p undef)).run P w).andThen λa z=>(loadVar ty a).run P z:=by
 simp only[results,h];simp[Sem.run_bind,Result.andThen]
theorem OpsAt.gr{w w':World}{S:Nat->Prop}{a:Option Addr}{n:Nat}{l:List (Int×Int)}(h:OpsAt w a n l)(g:Gr w w' S)(hn:∀ z,a=some z->¬S z.block):OpsAt w' a n l:=by
 refine⟨h.1,λh0=>?_⟩;obtain⟨b,off,rfl,hc⟩:=h.2 h0;refine⟨b,off,rfl,λi hi=>?_⟩;obtain⟨c0,c1⟩:=hc i hi;have Q:=g.block b (aF _ _ c0) (hn _ rfl);exact⟨(bV (a:=⟨b,off+i*2,none⟩) Q).trans c0,(bV (a:=⟨b,off+i*2+1,none⟩) Q).trans c1⟩
theorem J2(x:Int)(a:Option Addr)(n c:Nat)(l:List (Int×Int))(w:World)(hn:n<=4096)(h:OpsAt w a n l)(hs:SlOk a n c) :
  Calls aB 161 #[.agg #[E J x,F a n c]] w λe w'=>∃ z c',e = cY (.agg #[E J x,F z n c'])/\OpsAt w' z n l/\SlOk z n c'/\(∀ Q,z=some Q->w.heap.size<=Q.block)/\aD w.heap.size w w':=by
 obtain⟨X,hX⟩:=ZG ((w.alloc (cW #[E J x,F a n c] 122)).alloc (cW #[E J 0,F none 0 0] 122));have ah:aD w.heap.size w X:=by rw[hX];exact Zf (Zh _ _) (Zh _ _)
 have x0:X.cell? ⟨w.heap.size,0,none⟩=some (E J x):=by rw[hX];exact Ze (Zh _ _) (Z6 w _ _ _).1
 have x1:X.cell? ⟨w.heap.size,1,none⟩=some (F a n c):=by rw[hX];exact Ze (Zh _ _) (Z6 w _ _ _).2
 have al:X.heap[w.heap.size+1]? = some (cW [E J 0,F none 0 0].toArray 122 (0,0)):=by
  rw[hX];have:=aR (w.alloc (cW #[E J x,F a n c] 122)) (cW #[E J 0,F none 0 0] 122);rw[show (w.alloc (cW #[E J x,F a n c] 122)).heap.size=w.heap.size+1 by simp] at this;exact this
 have C:=Zd (V7 a n c l X.drew hn (h.later (Zf ah (Zi X))) hs);have aj:=Zd al;have ap:=Zd ah;clear h hs ah al;go_enter func161,ntmps161;go_wp2_with fail;rw[<-hX];clear hX
 go_region_with (go_at_call 150;refine C.mono ?_;rintro e w3 ⟨z,c',rfl,af,ag,ad,ab⟩;have o2:w3.cell? ⟨w.heap.size,0,none⟩=some (E J x):=Ze ab (Ze (Zi _) x0);have ae:=ZE ab aj;have c0:=Zb ae 0 _ rfl;have c1:=Zb ae 1 _ rfl;have f0:=Zg ae 0;have f1:=Zg ae 1;have H3:Hid (OpsAt w3 z n l/\SlOk z n c'/\(∀ Q,z=some Q->X.heap.size<=Q.block)/\aD X.drew.heap.size X.drew w3):=⟨af,ag,ad,ab⟩;clear af ag ad ab ae)
 all_goals
  go_wp2;(try simp only[Exit.inBlock,Exit.then]);obtain⟨af,ag,ad,ab⟩:=Za H3;have hG:=((Gr.refl w3 (λq=>q=w.heap.size+1)).one (w.heap.size+1) 0 (.inl rfl) (E J x)).one (w.heap.size+1) 1 (.inl rfl) (F z n c');have ax:=aA aj;refine bA (v:=.agg #[E J x,F z n c']) ?_ rfl ⟨z,c',rfl,af.gr hG (λQ e q=>?_),ag,λQ e=>?_,?_⟩
  ·rw[Jj rfl];go_simp
  ·have:=ad Q e;omega
  ·have:=ad Q e;omega
  ·have ay:X.heap.size<=w3.heap.size:=ab.size;exact hG.below (Zf (Zf ap (Zi _)) ab) (by omega) (λk hk=>by omega)
theorem Fl(x:Zj)(a:Option Addr)(n c:Nat)(w:World)(hn:n<=4096)(h:OpsAt w a n (ck x))(hs:SlOk a n c) :
  Calls aB 139 #[cnV x a n c] w λe w'=>∃ z c',e = cY (cnV x z n c')/\OpsAt w' z n (ck x)/\SlOk z n c'/\(∀ Q,z=some Q->w.heap.size<=Q.block)/\aD w.heap.size w w':=by
 unfold cnV;obtain⟨X,hX⟩:=ZG ((w.alloc (cW #[E J x.1,E J x.2.1,E J (cv x),F a n c,E J (ch x),dB (cr x)] 124)).alloc (cW #[E J 0,E J 0,E J 0,F none 0 0,E J 0,dB false] 124));have ah:aD w.heap.size w X:=by rw[hX];exact Zf (Zh _ _) (Zh _ _)
 have ae:X.heap[w.heap.size]? = some (cW [E J x.1,E J x.2.1,E J (cv x),F a n c,E J (ch x),dB (cr x)].toArray 124 (0,0)):=by
  rw[hX,Below.heap_alloc _ _ _ (by simp)];exact Vm _ _ _ _ _ _ _ _
 have al:X.heap[w.heap.size+1]? = some (cW zeroCs.toArray 124 (0,0)):=by
  rw[hX];have:=aR (w.alloc (cW #[E J x.1,E J x.2.1,E J (cv x),F a n c,E J (ch x),dB (cr x)] 124)) (cW zeroCs.toArray 124);rw[show (w.alloc (cW #[E J x.1,E J x.2.1,E J (cv x),F a n c,E J (ch x),dB (cr x)] 124)).heap.size=w.heap.size+1 by simp] at this;exact this
 have C:=Zd (J2 (cv x) a n c (ck x) X hn (h.later ah) hs);have aq:=Zd ae;have aj:=Zd al;have ap:=Zd ah;have x2:=Zb ae 2 _ rfl;have x3:=Zb ae 3 _ rfl;clear h hs ah al ae;go_enter func139,ntmps139;go_wp2_with fail;rw[<-hX];clear hX x2 x3;refine C.mono ?_;rintro e w3 ⟨z,c',rfl,af,ag,ad,ab⟩;have h0:=ZE ab aq;have h1:=ZE ab aj;have c0:=Zb h0 0 _ rfl;have c1:=Zb h0 1 _ rfl;have c2:=Zb h0 2 _ rfl;have c3:=Zb h0 3 _ rfl;have c4:=Zb h0 4 _ rfl;have c5:=Zb h0 5 _ rfl;have f2:=Zg h0 2;have f3:=Zg h0 3;have z0:=Zb h1 0 _ rfl;have z1:=Zb h1 1 _ rfl;have z2:=Zb h1 2 _ rfl;have z3:=Zb h1 3 _ rfl;have z4:=Zb h1 4 _ rfl;have z5:=Zb h1 5 _ rfl;have y0:=Zg h1 0;have y1:=Zg h1 1;have y2:=Zg h1 2;have y3:=Zg h1 3;have y4:=Zg h1 4;have y5:=Zg h1 5;have ar:Hid (w.heap.size+1<X.heap.size):=aA aj;have H3:Hid (OpsAt w3 z n (ck x)/\SlOk z n c'/\(∀ Q,z=some Q->X.heap.size<=Q.block)/\aD X.heap.size X w3):=⟨af,ag,ad,ab⟩;clear af ag ad ab h0 h1;go_wp2;(try simp only[Exit.inBlock,Exit.then]);obtain⟨af,ag,ad,ab⟩:=Za H3;have bg:=Za ar;have hG:=(((Gr.refl w3 (λq=>q=w.heap.size\/q=w.heap.size+1)).one w.heap.size 2 (.inl (.inl rfl)) (E J (cv x))).one w.heap.size 3 (.inl (.inl rfl)) (F z n c')).six (w.heap.size+1) (.inl (.inr rfl)) (E J x.1) (E J x.2.1) (E J (cv x)) (F z n c') (E J (ch x)) (dB (cr x))
 refine bA (v:=.agg #[E J x.1,E J x.2.1,E J (cv x),F z n c',E J (ch x),dB (cr x)]) ?_ rfl ⟨z,c',rfl,af.gr hG (λQ e q=>?_),ag,λQ e=>?_,?_⟩
 ·rw[Jj rfl];go_simp
 ·have:=ad Q e;rcases q with q|q <;> omega
 ·have:=ad Q e;omega
 ·exact hG.below (Zf ap ab) (Nat.le_of_lt (Nat.lt_of_lt_of_le (by omega) ab.size)) (λk hk=>by rcases hk with q|q <;> omega)
def LkIn(w:World)(s:Nat)(x:CV):Prop:=LkAt w x/\∀ z,x.2.1=some z->s<=z.block
theorem LkIn.later{w w':World}{s:Nat}{x:CV}(h:LkIn w s x)(z:aD w.heap.size w w'):LkIn w' s x:=⟨h.1.later z,h.2⟩
def Fresh(B:Nat)(w:World)(Q:World->Prop):Prop:=∀ w2,Gr w w2 (λk=>k<B)->Q w2
theorem Zdh{w:World}{base:Nat}{e:TypeId}{size:Nat}{v:Value}{n:Nat}{xs:List Value}(h:w.ownsRow base e size v n xs):∃ a c,v = F a n c/\SlOk a n c/\(0<n->∃ g,a=some ⟨g,0,none⟩/\base<=g/\g<w.heap.size):=by
 rcases h.2 with ⟨rfl,rfl⟩|⟨g,cap,aa,rfl,z,Q,h1,h2,h3,h4⟩
 ·exact⟨none,0,rfl,⟨aH _,aQ _,λ_=>⟨rfl,rfl⟩⟩,λh=>absurd h (by omega)⟩
 ·exact⟨_,cap,rfl,⟨h1,h2,λe=>by cases e⟩,λ_=>⟨g,rfl,z,aA Q⟩⟩
theorem U5(a:Option Addr)(n c:Nat)(L:List Zj)(w:World)(hn:n<=4096)(h:CoinsAt w a n L)(cw:SlOk a n c)(hk:∀ x∈L,(ck x).length<=4096) :
  Calls aB 66 #[F a n c] w λe w'=>∃ a' c',e = cY (F a' n c')/\Fresh w.heap.size w' (λw2=>CoinsAt w2 a' n L)/\SlOk a' n c'/\aD w.heap.size w w':=by
 have C1:=Zd (Ju a n c L w hn h cw);have HZ:=Zd h.1;have HK:=Zd hk;clear h hk cw;go_enter func66,ntmps66;go_wp2_with fail;refine C1.mono ?_;rintro e w2 ⟨v,K,rfl,hK,an,ax,bj⟩;have bg:K.length=n:=by rw[<-Za HZ,<-hK,List.length_map]
 rw[bg] at ax;obtain⟨a1,c1,rfl,ct,bo⟩:=Zdh ax;obtain⟨G,hG⟩:=ZF (w2.heap.size);rw[hG] at bo;have bz:=Zd bo;have dc:=Zd ct;have cz:=Zd hK;have cb:=Zd bg;have da:=Zd an;have ST:Hid (w2.ownsRow w.heap.size 124 6 (F a1 n c1) n (Zn ([]++K.drop 0))):=ax;have bu:=Zd bj;have ca:Hid (G<=w2.heap.size):=Nat.le_of_eq hG.symm;have ce:Hid (w.heap.size<=G):=by rw[<-hG];exact bj.size
 clear ax bj hK an ct bo C1 hG bg;go_wp2_with fail
 go_loopw [9] (λi wr=>∃ (k:Nat) (T:List CV),k<=n/\i = E J k/\Hid (T.map (·.1)=L.take k)/\Hid (T.length=k)/\Hid (wr.ownsRow w.heap.size 124 6 (F a1 n c1) n (Zn (T++K.drop k)))/\Hid (∀ en∈T,LkIn wr G en)/\Hid (aD w.heap.size w wr)/\Hid (G<=wr.heap.size)) (λi _=>n - (cE i).toNat)
 case atStart=>exact⟨0,[],aQ _,rfl,rfl,rfl,ST,(λen z=>(by cases z):∀ en∈([]:List CV),LkIn w2 G en),bu,ca⟩
 case round=>
  obtain⟨k,T,hk,rfl,HT,ap,HO,ak,HB,cx⟩:=hrel;clear ST bu ca;by_cases cp:k<n
  ·have an:k<L.length:=(by rw[Za HZ];exact cp);have cn:k<K.length:=(by rw[Za cb];exact cp);obtain⟨g,rfl,dv,du⟩:=bz (by omega)
   have bh:(K[k]).1=L[k]:=by
    have:=Za cz;subst this;rw[List.getElem_map]
   have aw:=HK _ (bB an);have cg:=(da _ (bB cn)).later HB;have bd:Hid (L.take (k+1)=L.take k++[L[k]]):=aW an
   have cd:Hid (T++K.drop k=T++K[k] :: K.drop (k+1)):=by
    show _=_;rw[List.drop_eq_getElem_cons cn]
   obtain⟨en,z⟩:=ZF (K[k]);rw[z] at bh cd cg;rw[<-bh] at bd aw;obtain⟨x,la,ln,lc⟩:=en;simp only at bd aw;obtain⟨ar,bs⟩:=cg;simp only at ar bs;have dp:ln<=4096:=(by rw[<-ar.1];exact aw);have av:=Za ap;have au:=Za HO;rw[Za cd] at au
   have af:∀ j,j<6->wr.cell? ⟨g,k*6+j,none⟩=(Np (x,la,ln,lc))[j]?:=λj hj=>by
    rw[bK au _ (by omega),<-av,U4 _ _ _ j hj]
   have g0:wr.cell? ⟨g,k*6,none⟩=some (E J x.1):=(af 0 (by decide)).trans rfl;have g1:wr.cell? ⟨g,k*6+1,none⟩=some (E J x.2.1):=(af 1 (by decide)).trans rfl;have g2:wr.cell? ⟨g,k*6+2,none⟩=some (E J (cv x)):=(af 2 (by decide)).trans rfl;have g3:wr.cell? ⟨g,k*6+3,none⟩=some (F la ln lc):=(af 3 (by decide)).trans rfl;have g4:wr.cell? ⟨g,k*6+4,none⟩=some (E J (ch x)):=(af 4 (by decide)).trans rfl;have g5:wr.cell? ⟨g,k*6+5,none⟩=some (dB (cr x)):=(af 5 (by decide)).trans rfl;obtain⟨X,hX⟩:=ZG (wr.alloc (cW #[E J x.1,E J x.2.1,E J (cv x),F la ln lc,E J (ch x),dB (cr x)] 124));have bk:aD wr.heap.size wr X:=(by rw[hX];exact Zh _ _);have C:=Fl x la ln lc X dp (ar.later bk) bs;unfold cnV at C;have HC:=Zd C;have bv:=Zd bk;have dw:(k:Int)<(n:Int):=(by omega);have cc:=Zd au;clear C bk ar bs aw au af bh z;go_wp2_with fail;rw[<-hX];clear hX g0 g1 g2 g3 g4 g5;refine HC.mono ?_;rintro e w5 ⟨a5,c5,rfl,cq,cu,cm,cl⟩;have am:=Zf bv cl;have ac:=(Gr.of (S:=λ_=>False) am).own cc (λ_ _ q=>q)
   have ag:∀ j,j<6->w5.cell? ⟨g,k*6+j,none⟩=(Np (x,la,ln,lc))[j]?:=λj hj=>by
    rw[bK ac _ (by omega),<-av,U4 _ _ _ j hj]
   have t0:w5.cell? ⟨g,k*6,none⟩=some (E J x.1):=(ag 0 (by decide)).trans rfl;have t1:w5.cell? ⟨g,k*6+1,none⟩=some (E J x.2.1):=(ag 1 (by decide)).trans rfl;have t2:w5.cell? ⟨g,k*6+2,none⟩=some (E J (cv x)):=(ag 2 (by decide)).trans rfl;have t3:w5.cell? ⟨g,k*6+3,none⟩=some (F la ln lc):=(ag 3 (by decide)).trans rfl;have t4:w5.cell? ⟨g,k*6+4,none⟩=some (E J (ch x)):=(ag 4 (by decide)).trans rfl;have t5:w5.cell? ⟨g,k*6+5,none⟩=some (dB (cr x)):=(ag 5 (by decide)).trans rfl;have z0:=ac.frozenAt (k*6);have z1:=ac.frozenAt (k*6+1);have z2:=ac.frozenAt (k*6+2);have z3:=ac.frozenAt (k*6+3);have z4:=ac.frozenAt (k*6+4);have z5:=ac.frozenAt (k*6+5);have dz:g<w5.heap.size:=(ac.lt _ rfl).2
   have dd:Hid (∃ T':List CV,Hid (T'.map (·.1)=L.take (k+1))/\Hid (T'.length=k+1)/\Hid (((((((w5.setCell ⟨g,k*6,none⟩ (E J x.1)).setCell ⟨g,k*6+1,none⟩ (E J x.2.1)).setCell ⟨g,k*6+2,none⟩ (E J (cv x))).setCell ⟨g,k*6+3,none⟩ (F a5 ln c5)).setCell ⟨g,k*6+4,none⟩ (E J (ch x))).setCell ⟨g,k*6+5,none⟩ (dB (cr x))).ownsRow w.heap.size 124 6 (F (some ⟨g,0,none⟩) n c1) n (Zn (T'++K.drop (k+1)))) /\
     Hid (∀ en∈T',LkIn ((((((w5.setCell ⟨g,k*6,none⟩ (E J x.1)).setCell ⟨g,k*6+1,none⟩ (E J x.2.1)).setCell ⟨g,k*6+2,none⟩ (E J (cv x))).setCell ⟨g,k*6+3,none⟩ (F a5 ln c5)).setCell ⟨g,k*6+4,none⟩ (E J (ch x))).setCell ⟨g,k*6+5,none⟩ (dB (cr x))) G en) /\
     Hid (aD w.heap.size w ((((((w5.setCell ⟨g,k*6,none⟩ (E J x.1)).setCell ⟨g,k*6+1,none⟩ (E J x.2.1)).setCell ⟨g,k*6+2,none⟩ (E J (cv x))).setCell ⟨g,k*6+3,none⟩ (F a5 ln c5)).setCell ⟨g,k*6+4,none⟩ (E J (ch x))).setCell ⟨g,k*6+5,none⟩ (dB (cr x)))) /\
     Hid (G<=((((((w5.setCell ⟨g,k*6,none⟩ (E J x.1)).setCell ⟨g,k*6+1,none⟩ (E J x.2.1)).setCell ⟨g,k*6+2,none⟩ (E J (cv x))).setCell ⟨g,k*6+3,none⟩ (F a5 ln c5)).setCell ⟨g,k*6+4,none⟩ (E J (ch x))).setCell ⟨g,k*6+5,none⟩ (dB (cr x))).heap.size)):=by
    have hG:=(Gr.refl w5 (λq=>q=g)).sixAt g (k*6) (.inl rfl) (E J x.1) (E J x.2.1) (E J (cv x)) (F a5 ln c5) (E J (ch x)) (dB (cr x));have cj:=Cp ac (k*6) (E J x.1) (E J x.2.1) (E J (cv x)) (F a5 ln c5) (E J (ch x)) (dB (cr x));have bt:=Jq T (K.drop (k+1)) (x,la,ln,lc) (x,a5,ln,c5);rw[av] at bt;simp only at bt;rw[bt] at cj;have dt:wr.heap.size<=X.heap.size:=bv.size;have dr:=Za cx;have dx:=am.size;have dy:=hG.size;refine⟨T++[(x,a5,ln,c5)],?_,?_,?_,?_,?_,?_⟩
    ·show _=_;rw[List.map_append,Za HT,Za bd];rfl
    ·show _=_;rw[List.length_append,av];rfl
    ·show World.ownsRow _ _ _ _ _ _ _;rw[List.append_assoc];exact cj
    ·intro en z
     rcases List.mem_append.1 z with z|z
     ·have h1:=(ak en z).later am;exact⟨⟨h1.1.1.gr hG (λad e q=>by have:=h1.2 ad e;omega),h1.1.2⟩,h1.2⟩
     ·rw[List.mem_singleton.1 z];have h3:∀ ad,a5=some ad->G<=ad.block:=λad e=>by have:=cm ad e;omega
      exact⟨⟨cq.gr hG (λad e q=>by have:=h3 ad e;omega),cu⟩,h3⟩
    ·exact hG.below (Zf HB am) (by have:=Za ce;omega) (λq hq=>by omega)
    ·show _<=_;omega
   clear cq cu cm cl am ac ag HC cc;go_wp2;go_roundw
   case rel=>
    obtain⟨T',f1,f2,f3,f4,f5,f6⟩:=Za dd;exact⟨k+1,T',by omega,by go_num,f1,f2,f3,f4,f5,f6⟩
   case measure=>simp[cE];omega
  ·have e:k=n:=(by omega);subst e
   have HR:Hid (Fresh w.heap.size wr (λw2=>CoinsAt w2 a1 k L)/\SlOk a1 k c1):=by
    have h1:=Za HO;have ds:=Za cb;rw[List.drop_of_length_le (by omega),List.append_nil,<-Za ap] at h1
    have hF:Fresh w.heap.size wr (λw2=>CoinsAt w2 a1 k L):=λw2 hG=>by
     have h2:=hG.own h1 (λq hq=>by have:=(h1.lt q hq).1;omega);obtain⟨a',c',e,h3,_⟩:=Wa h2 (λen z=>⟨(ak en z).1.1.gr hG (λad e q=>by have:=(ak en z).2 ad e;have:=Za ce;omega),(ak en z).1.2⟩);cases e;rw[Za HT,aL (by rw[Za HZ];exact aH _)] at h3;rw[Za ap] at h3;exact h3
    exact⟨hF,Za dc⟩
   clear HO HT ap ak bz;go_wp2;go_ret;obtain⟨h1,h2⟩:=Za HR;exact⟨_,_,rfl,h1,h2,Za HB⟩
theorem Sz:∀ (L:List Zj) (k:Nat),(∀ c∈L,0<=cv c/\cv c<=1000000000)->0<=Zp (L.take k)/\Zp (L.take k)<=1000000000*(k:Int)
 | [],k,_=>by simp[Zp];omega
 | c :: r,0,_=>by simp[Zp]
 | c :: r,k+1,h=>by
  have h1:=h c (cP ..);have h2:=Sz r k (λx hx=>h x (List.mem_cons_of_mem _ hx));rw[List.take_succ_cons,Xb];omega
theorem Lt:∀ (L:List Z5) (k:Nat),(∀ c∈L,0<=c.1/\c.1<=1000000000)->0<=Ys (L.take k)/\Ys (L.take k)<=1000000000*(k:Int)
 | [],k,_=>by simp[Ys];omega
 | c :: r,0,_=>by simp[Ys]
 | c :: r,k+1,h=>by
  have h1:=h c (cP ..);have h2:=Lt r k (λx hx=>h x (List.mem_cons_of_mem _ hx));rw[List.take_succ_cons];have e:Ys (c :: r.take k)=c.1+Ys (r.take k):=by simp[Ys]
  rw[e];omega
theorem Zbk(sa:Option Addr)(ns cs:Nat)(S:List Zj)(ht:Int)(ai ao:Option Addr)(ni ci no co:Nat)(O:List Z5)(x:Int)(w:World)(dc:ns<=6)(db:no<=6)(hS:CoinsAt w sa ns S)(hO:OutsAt w ao no O)
  (hs:∀ c∈S,0<=cv c/\cv c<=1000000000) (ho:∀ c∈O,0<=c.1/\c.1<=1000000000) (hx:(if Zp S - Ys O<0/\decide (ni=0)=false then 9 else 0)=x) :
  ZH 147 #[F sa ns cs,.agg #[E J ht,F ai ni ci,F ao no co]] w (E J x):=by
 obtain⟨X0,al⟩:=ZG (w.alloc (cW #[E J ht,F ai ni ci,F ao no co] 59));have am:aD w.heap.size w X0:=by rw[al];exact Zh _ _
 have bq:X0.heap[w.heap.size]? = some (cW [E J ht,F ai ni ci,F ao no co].toArray 59 (0,0)):=by rw[al];exact Zw _ _ _ _ _
 have ax:=Zd (λk=>Sz S k hs);have bh:=Zd (λk=>Lt O k ho);have HS:=Zd (hS.later am);have HO:=Zd (hO.later am);have bk:=Zd hS.1;have bj:=Zd hO.1;have HX:=Zd hx;have bi:=Zd bq;have bx:=Zd am;clear hS hO hs ho hx bq am;go_enter func147,ntmps147;go_wp2;rw[<-al];clear al
 go_loopw [5,12] (λsv i wr=>∃ (k:Nat) (s:Int),k<=ns/\sv = E J s/\i = E J k/\Hid (s=Zp (S.take k))/\Hid (aD X0.heap.size X0 wr)) (λ_ i _=>ns - (cE i).toNat)
 case atStart=>exact⟨0,0,aQ _,rfl,rfl,rfl,Below.refl _ _⟩
 case round=>
  obtain⟨k,s,hk,rfl,rfl,A,HB⟩:=hrel;by_cases bd:k<ns
  ·have ah:k<S.length:=(by rw[Za bk];exact bd);obtain⟨b,off,rfl,cf,bb⟩:=HS.2 (by omega);have ad:=CoinAt.kept _ _ _ _ _ HB (bb k ah);have b1:=ax k;have b2:=ax (k+1);have z:=Tf S k ah;obtain⟨c,hc⟩:=ZF (S[k]);rw[hc] at ad z;obtain⟨la,ln,lc,g0,g1,g2,g3,g4,g5,_,_⟩:=ad.val;obtain⟨v,hv⟩:=ZF (cv c);rw[hv] at g2 z;rw[<-Za A] at b1 z;rw[z] at b2;have A2:Hid (s+v=Zp (S.take (k+1))):=z.symm;have ar:=Zd (Zf HB (Zh wr (cW #[E J c.1,E J c.2.1,E J v,F la ln lc,E J (ch c),dB (cr c)] 124)));have cj:IntKind.i64.wrap (s+v)=s+v:=(by rw[bN];omega);clear ad hc z A HB;go_wp2;go_roundw
   case rel=>exact⟨k+1,s+v,by omega,rfl,by go_num,A2,ar⟩
   case measure=>simp[cE];omega
  ·have e:k=ns:=(by omega);subst e
   have A2:Hid (s=Zp S):=by
    show _=_;rw[Za A,aL (by rw[Za bk];exact aH _)]
   have b1:=ax k;rw[<-Za A] at b1;have Q:=ZE HB bi;have c2:=Zb Q 2 _ rfl;have hl:=aA Q;clear A Q;go_wp2
   go_loopw [5,25] (λsv i cl=>∃ (j:Nat) (d:Int),j<=no/\sv = E J d/\i = E J j/\Hid (d=s - Ys (O.take j))/\Hid (aD X0.heap.size X0 cl)) (λ_ i _=>no - (cE i).toNat)
   case atStart=>exact⟨0,s,aQ _,rfl,rfl,(by simp[Ys]:s=s - Ys (O.take 0)),HB⟩
   case round=>
    obtain⟨j,d,hj,rfl,rfl,D,HD⟩:=hrel;clear HB;have af:=Za HD;by_cases bd:j<no
    ·have ah:j<O.length:=(by rw[Za bj];exact bd);obtain⟨b,off,rfl,cf,bb⟩:=HO.2 (by omega);have ad:=OutAt.kept _ _ _ _ _ af (bb j ah);have d1:=bh j;have d2:=bh (j+1);have z:=Kp O j ah;obtain⟨o,hc⟩:=ZF (O[j]);rw[hc] at ad z;obtain⟨q1,q2⟩:=o;obtain⟨g0,la,ln,lc,g1,_,_⟩:=ad;simp only at g0 g1 z;have hd:d=s - Ys (O.take j):=Za D;have A3:Hid (d - q1=s - Ys (O.take (j+1))):=(by show _=_;rw[z];omega);have ar:=Zd (Zf HD (Zh wr (cW #[E J q1,F la ln lc] 122)));have cj:IntKind.i64.wrap (d - q1)=d - q1:=(by rw[bN];omega);clear hc z D HD hd d1 d2 af;go_wp2;go_roundw
     case rel=>exact⟨j+1,d - q1,by omega,rfl,by go_num,A3,ar⟩
     case measure=>simp[cE];omega
    ·have e:j=no:=(by omega);subst e
     have hd:d=Zp S - Ys O:=by
      have:=Za D;rw[aL (by rw[Za bj];exact aH _),Za A2] at this;exact this
     have hx:=Za HX;rw[<-hd] at hx;have Q:=ZE af bi;have e0:=Zb Q 0 _ rfl;have e1:=Zb Q 1 _ rfl;have e2:=Zb Q 2 _ rfl;have da:=aA Q;have av:=Zd (Zf bx af);have IR:=Zd (λw=>Qo ht ai ao ni ci j co (decide (ni=0)) w rfl);clear Q af D hd;by_cases br:d<0
     ·cases hr:decide (ni=0) with
      | true=>
       have R:Hid (x=0):=(by show _=_;rw[<-hx,if_neg (by rw[hr];simp)]);rw[hr] at IR;clear hx hr;go_wp2_with fail;refine (IR _).mono ?_;rintro e w3 ⟨rfl,ae⟩;have au:=Zd (Zf av ae);clear ae;go_wp2;go_ret;exact⟨by rw[Za R];rfl,Za au⟩
      | false=>
       have R:Hid (x=9):=(by show _=_;rw[<-hx,if_pos ⟨br,hr⟩]);rw[hr] at IR;clear hx hr;go_wp2_with fail;refine (IR _).mono ?_;rintro e w3 ⟨rfl,ae⟩;have au:=Zd (Zf av ae);clear ae;go_wp2;go_ret;exact⟨by rw[Za R];rfl,Za au⟩
     ·have R:Hid (x=0):=(by show _=_;rw[<-hx,if_neg (λq=>br q.1)]);clear hx;go_wp2;go_ret;exact⟨by rw[Za R];rfl,Za av⟩
def UndoAt(w:World)(b o:Nat)(s:List Zj):Prop:=∃ a n c,w.cell? ⟨b,o,none⟩=some (F a n c)/\CoinsAt w a n s/\SlOk a n c
theorem UndoAt.kept{w w':World}{b o:Nat}{s:List Zj}(z:aD w.heap.size w w')(h:UndoAt w b o s):UndoAt w' b o s:=by
 obtain⟨a,n,c,h1,h2,h3⟩:=h;exact⟨a,n,c,Ze z h1,h2.later z,h3⟩
def Ul(r:Int)(T:List TxD)(S:List (List Zj))(k:Nat):Int:=r+Zp (S.take k).flatten - Ys ((T.take k).map (·.2.2)).flatten
theorem Ni(L M:List Z5):Ys (L++M)=Ys L+Ys M:=by simp[Ys]
theorem A8(r:Int)(T:List TxD)(S:List (List Zj)):Ul r T S 0=r:=by simp[Ul,Zp,Ys]
theorem A9(r:Int)(T:List TxD)(S:List (List Zj))(k:Nat)(hT:k<T.length)(z:k<S.length):Ul r T S (k+1)=Ul r T S k+Zp S[k] - Ys T[k].2.2:=by
 unfold Ul;rw[aW hT,aW z,List.map_append,List.flatten_append,List.flatten_append,Vy,Ni];simp;omega
theorem Bv(p h k n:Int)(b off m c:Nat)(T:List TxD)(ub uo um uc:Nat)(S:List (List Zj))(r:Int)(o:Bool)(w:World)(hz:T.length=m)(hm:m<=4)(ct:∀ i (h:i<T.length),TxAt w b (off+i*3) T[i])(dc:S.length=m)(ec:um=m)
  (cq:∀ i (h:i<S.length),UndoAt w ub (uo+i) S[i]) (hT:∀ t∈T,t.2.2.length<=6/\∀ x∈t.2.2,0<=x.1/\x.1<=1000000000) (hS:∀ s∈S,s.length<=6/\∀ x∈s,0<=cv x/\cv x<=1000000000) (hr:rwD h=(r,0)) (ho:decide (0<=Ul r T S m)=o) :
  ZH 75 #[.agg #[E J p,E J h,E J k,E J n,F (some ⟨b,off,none⟩) m c],F (some ⟨ub,uo,none⟩) um uc] w (dB o):=by
 subst ec
 have ev:0<=r/\r<=64:=by
  unfold rwD at hr;split at hr
  ·injection hr with e _;have:=Pq ((h - 1).toNat / 8);omega
  ·injection hr with _ e;cases e
 obtain⟨X,hX⟩:=ZG (w.alloc (cW #[E J p,E J h,E J k,E J n,F (some ⟨b,off,none⟩) um c] 39));have bb:aD w.heap.size w X:=by rw[hX];exact Zh _ _
 have cn:X.heap[w.heap.size]? = some (cW [E J p,E J h,E J k,E J n,F (some ⟨b,off,none⟩) um c].toArray 39 (0,0)):=by rw[hX];exact Zu _ _ _ _ _ _ _
 have RW:=Zd (λW=>Kv h r 0 W hr);have dn:=Zd cn;have dg:=Zd bb;have dj:Hid (∀ i (h:i<T.length),TxAt X b (off+i*3) T[i]):=λi hi=>TxAt.kept _ _ _ _ _ bb (ct i hi);have di:Hid (∀ i (h:i<S.length),UndoAt X ub (uo+i) S[i]):=λi hi=>(cq i hi).kept bb;have HT:=Zd hT;have HS:=Zd hS;have HZ:=Zd hz;have dr:=Zd dc;have HO:=Zd ho;clear cn bb ct cq hT hS hz dc ho hr;go_enter func75,ntmps75;go_wp2_with fail;rw[<-hX];clear hX;refine (RW _).mono ?_;rintro e w1 ⟨rfl,br⟩;have bt:=ZE br dn;have c4:=Zb bt 4 _ rfl;have cl:=aA bt;have cc:=Zd br;clear br bt;go_wp2
 go_loopw [5,22] (λsv i wr=>∃ (j:Nat) (d:Int),j<=um/\sv = E J d/\i = E J j/\Hid (d=Ul r T S j)/\-(6000000000*(j:Int))<=d/\d<=64+6000000000*(j:Int)/\Hid (aD X.heap.size X wr)) (λ_ i _=>um - (cE i).toNat)
 case atStart=>exact⟨0,r,aQ _,rfl,rfl,(A8 r T S).symm,by omega,by omega,cc⟩
 case round=>
  obtain⟨j,d,hj,rfl,rfl,A,d1,d2,au⟩:=hrel;clear c4 cl cc;by_cases cx:j<um
  ·have cw:j<T.length:=(by rw[Za HZ];exact cx);have cu:j<S.length:=(by rw[Za dr];exact cx);have z:=TxAt.kept _ _ _ _ _ au (dj j cw);have da:=(di j cu).kept au;have bT:=HT T[j] (bB _);have bS:=HS S[j] (bB _);have ST:=Zd (A9 r T S j cw cu);obtain⟨t,ht⟩:=ZF (T[j]);obtain⟨s,hs⟩:=ZF (S[j]);rw[ht] at z bT ST;rw[hs] at da bS ST;obtain⟨t1,I,O⟩:=t;obtain⟨g0,⟨ai,ni,ci,g1,hI,_⟩,ao,no,co,g2,hO,_⟩:=z;obtain⟨sa,sn,sc,gs,hC,_⟩:=da;simp only at g0 g1 g2 hI hO bT ST;obtain⟨Y,hY⟩:=ZG (wr.alloc (cW #[E J t1,F ai ni ci,F ao no co] 59));have aj:aD wr.heap.size wr Y:=(by rw[hY];exact Zh _ _);have cp:Y.heap[wr.heap.size]? = some (cW [E J t1,F ai ni ci,F ao no co].toArray 59 (0,0)):=(by rw[hY];exact Zw _ _ _ _ _);have dp:=Zd cp;have dh:=Zd (Zf au aj);have bf:=Zd (hC.later aj);have av:=Zd (hO.later aj);have cj:=Ze aj gs;have gl:=aF _ _ gs;have dy:=aF _ _ cj;have bh:=Zd (λk=>Sz s k bS.2);have bg:=Zd (λk=>Lt O k bT.2);have ew:sn<=6:=(by rw[<-hC.1];exact bS.1);have eu:no<=6:=(by rw[<-hO.1];exact bT.1);have es:(j:Int)<(um:Int):=(by omega);clear aj cp hI hO hC ht hs bT bS;go_wp2_with fail;rw[<-hY];clear hY;go_wp2
   go_loopw [5,33] (λsv i w2=>∃ (k2:Nat) (d2:Int),k2<=sn/\sv = E J d2/\i = E J k2/\Hid (d2=d+Zp (s.take k2))/\Hid (aD Y.heap.size Y w2)) (λ_ i _=>sn - (cE i).toNat)
   case atStart=>exact⟨0,d,aQ _,rfl,rfl,(by simp[Zp]:d=d+Zp (s.take 0)),(Below.refl _ _:aD Y.heap.size Y Y)⟩
   case round=>
    obtain⟨q,e,hq,rfl,rfl,D,HD⟩:=hrel;clear g0 g1 g2 gs cj gl dy;by_cases ea:q<sn
    ·have al:q<s.length:=(by rw[(Za bf).1];exact ea);obtain⟨b2,o2,rfl,_,ak⟩:=bf.2 (by omega);have z:=CoinAt.kept _ _ _ _ _ HD (ak q al);have b1:=bh q;have dt:=bh (q+1);have Q:=Tf s q al;obtain⟨y,hy⟩:=ZF (s[q]);rw[hy] at z Q;obtain⟨la,ln,lc,f0,f1,f2,f3,f4,f5,_,_⟩:=z.val;obtain⟨v,hv⟩:=ZF (cv y);rw[hv] at f2 Q;have hd:e=d+Zp (s.take q):=Za D;have A2:Hid (e+v=d+Zp (s.take (q+1))):=(by show _=_;rw[Q];omega);have be:=Zd (Zf HD (Zh wr (cW #[E J y.1,E J y.2.1,E J v,F la ln lc,E J (ch y),dB (cr y)] 124)));have ee:IntKind.i64.wrap (e+v)=e+v:=(by rw[bN];omega);clear z hy Q D HD hd b1 dt ak;go_wp2;go_roundw
     case rel=>exact⟨q+1,e+v,by omega,rfl,by go_num,A2,be⟩
     case measure=>simp[cE];omega
    ·have e0:q=sn:=(by omega);subst e0
     have A2:Hid (e=d+Zp s):=by
      show _=_;rw[Za D,aL (by rw[(Za bf).1];exact aH _)]
     have b1:=bh q
     have ff:0<=e - d/\e - d<=6000000000:=by
      have:=Za D;omega
     have hh:=ZE HD dp;have f2:=Zb hh 2 _ rfl;have hl:=aA hh;clear D hh b1;go_wp2
     go_loopw [5,46] (λsv i w3=>∃ (k3:Nat) (d3:Int),k3<=no/\sv = E J d3/\i = E J k3/\Hid (d3=e - Ys (O.take k3))/\Hid (aD Y.heap.size Y w3)) (λ_ i _=>no - (cE i).toNat)
     case atStart=>exact⟨0,e,aQ _,rfl,rfl,(by simp[Ys]:e=e - Ys (O.take 0)),HD⟩
     case round=>
      obtain⟨u,g,hu,rfl,rfl,G,HG⟩:=hrel;clear f2 hl HD;by_cases eb:u<no
      ·have al:u<O.length:=(by rw[(Za av).1];exact eb);obtain⟨b3,o3,rfl,_,ak⟩:=av.2 (by omega);have z:=OutAt.kept _ _ _ _ _ HG (ak u al);have x1:=bg u;have x2:=bg (u+1);have Q:=Kp O u al;obtain⟨y,hy⟩:=ZF (O[u]);rw[hy] at z Q;obtain⟨q1,q2⟩:=y;obtain⟨f0,la,ln,lc,f1,_,_⟩:=z;simp only at f0 f1 Q;have hd:g=e - Ys (O.take u):=Za G;have A3:Hid (g - q1=e - Ys (O.take (u+1))):=(by show _=_;rw[Q];omega);have be:=Zd (Zf HG (Zh wr (cW #[E J q1,F la ln lc] 122)));have ee:IntKind.i64.wrap (g - q1)=g - q1:=(by rw[bN];omega);clear hy Q G HG hd x1 x2 ak;go_wp2;go_roundw
       case rel=>exact⟨u+1,g - q1,by omega,rfl,by go_num,A3,be⟩
       case measure=>simp[cE];omega
      ·have e1:u=no:=(by omega);subst e1
       have hd:g=e - Ys O:=by
        have:=Za G;rw[aL (by rw[(Za av).1];exact aH _)] at this;exact this
       have x1:=bg u;rw[aL (by rw[(Za av).1];exact aH _)] at x1
       have A4:Hid (g=Ul r T S (j+1)):=by
        show _=_;rw[Za ST,<-Za A,hd,Za A2]
       have ar:=Zd (Zf dh HG);have y1 : -(6000000000*((j+1:Nat):Int))<=g:=(by omega);have y2:g<=64+6000000000*((j+1:Nat):Int):=(by omega);clear hd x1 G HG A A2 ST;go_wp2;go_roundw
       case rel=>exact⟨j+1,g,by omega,rfl,by go_num,A4,y1,y2,ar⟩
       case measure=>simp[cE];omega
  ·have e0:j=um:=(by omega);subst e0;have ar:=Zd (Zf dg au);have ho:=Za HO;rw[<-Za A] at ho;clear A;by_cases hp:0<=d
   ·obtain rfl:true=o:=(by rw[<-ho,decide_eq_true hp]);clear ho;go_wp2;go_ret;exact⟨rfl,Za ar⟩
   ·obtain rfl:false=o:=(by rw[<-ho,decide_eq_false hp]);clear ho;go_wp2;go_ret;exact⟨rfl,Za ar⟩
theorem Mv(a:Option Addr)(n c:Nat)(L:List Zj)(h:Int)(ai ao:Option Addr)(ni ci no co:Nat)(I:List InD)(O:List Z5)(x:Int)(w:World)(hL:CoinsAt w a n L)(hI:InsAt w ai ni I)(hO:OutsAt w ao no O)(sI:SlOk ai ni ci)(hx:J8 L (h,I,O)=x) :
  ZH 202 #[F a n c,.agg #[E J h,F ai ni ci,F ao no co]] w (E J x):=by
 obtain⟨X0,Q⟩:=ZG (w.alloc (cW #[E J h,F ai ni ci,F ao no co] 59));have ab:aD w.heap.size w X0:=by rw[Q];exact Zh _ _
 have al:X0.heap[w.heap.size]? = some (cW [E J h,F ai ni ci,F ao no co].toArray 59 (0,0)):=by rw[Q];exact Zw _ _ _ _ _
 obtain⟨y,hy⟩:=ZF (Yj L);have C1:=Zd (Vj a n c L y X0 (hL.later ab) hy);have TX:=Zd (λw' (hb:aD X0.heap.size X0 w')=>Ws h ai ao ni ci no co I O w' ((hI.later ab).later hb) ((hO.later ab).later hb) sI);have au:=Zd al;have af:=Zd ab;unfold J8 at hx;rw[hy] at hx;clear hL hI hO sI al ab hy;by_cases h0:y=0
 ·subst h0;rw[if_neg (by decide)] at hx;rw[hx] at TX;clear hx;go_enter func202,ntmps202;go_wp2_with fail;rw[<-Q];clear Q;refine C1.mono ?_;rintro e w2 ⟨rfl,z⟩;have hh:=ZE z au;have c0:=Zb hh 0 _ rfl;have c1:=Zb hh 1 _ rfl;have c2:=Zb hh 2 _ rfl;have hl:=aA hh;have C2:=Zd (TX w2 z);have ad:=Zd (Zf af z);clear hh z;go_wp2_with fail;refine C2.mono ?_;rintro e w3 ⟨rfl,an⟩;have ar:=Zd (Zf ad an);clear an;go_wp2;go_ret;exact⟨rfl,Za ar⟩
 ·rw[if_pos h0] at hx;subst hx;have g:(y != 0)=true:=by simp[h0]
  clear h0;go_enter func202,ntmps202;go_wp2_with fail;rw[<-Q];clear Q;refine C1.mono ?_;rintro e w2 ⟨rfl,z⟩;have ad:=Zd (Zf af z);clear z;go_wp2;go_ret;exact⟨rfl,Za ad⟩
theorem Kd(a:Option Addr)(n c:Nat)(L:List Zj)(h:Int)(ai ao:Option Addr)(ni ci no co:Nat)(I:List InD)(O:List Z5)(name ht:Int)(x:Int)(w:World)(hL:CoinsAt w a n L)(hI:InsAt w ai ni I)(hO:OutsAt w ao no O)(sI:SlOk ai ni ci)(hx:Wn L (h,I,O) name ht=x) :
  ZH 144 #[F a n c,.agg #[E J h,F ai ni ci,F ao no co],E J name,E J ht] w (E J x):=by
 obtain⟨X0,aa⟩:=ZG (w.alloc (cW #[E J h,F ai ni ci,F ao no co] 59));have ak:aD w.heap.size w X0:=by rw[aa];exact Zh _ _
 have aj:X0.heap[w.heap.size]? = some (cW [E J h,F ai ni ci,F ao no co].toArray 59 (0,0)):=by rw[aa];exact Zw _ _ _ _ _
 obtain⟨y,hy⟩:=ZF (J8 L (h,I,O));have C1:=Zd (Mv a n c L h ai ao ni ci no co I O y X0 (hL.later ak) (hI.later ak) (hO.later ak) sI hy);have ax:=hI.1;have x0:=Zb aj 0 _ rfl;have x1:=Zb aj 1 _ rfl;have x2:=Zb aj 2 _ rfl;have ap:=Zd aj;have af:=Zd ak;unfold Wn at hx;rw[hy] at hx;have hR:isR (h,I,O)=decide (ni=0):=by unfold isR;rw[<-ax]
 rw[hR] at hx;clear hL hI hO sI aj ak hy hR ax;by_cases h0:y=0
 ·subst h0;rw[if_neg (by decide)] at hx;cases hN:okN name with
  | false=>
   rw[hN,Bool.false_and,if_pos rfl] at hx;subst hx;have W1:=Zd (λw=>Ym name 1 120 false w (by rw[<-hN];rfl));clear hN;go_enter func144,ntmps144;go_wp2_with fail;rw[<-aa];clear aa;refine C1.mono ?_;rintro e w2 ⟨rfl,z⟩;have ab:=Zd (Zf af z);clear z;go_wp2_with fail;refine (W1 _).mono ?_;rintro e w3 ⟨rfl,rfl⟩;go_wp2;go_ret;exact⟨rfl,Za ab⟩
  | true=>
   rw[hN,Bool.true_and] at hx;have W1:=Zd (λw=>Ym name 1 120 true w (by rw[<-hN];rfl));cases hH:okH ht with
   | false=>
    rw[hH,if_pos rfl] at hx;subst hx;have W2:=Zd (λw=>Va ht false w hH);clear hN hH;go_enter func144,ntmps144;go_wp2_with fail;rw[<-aa];clear aa;refine C1.mono ?_;rintro e w2 ⟨rfl,z⟩;have ab:=Zd (Zf af z);clear z;go_wp2_with fail;refine (W1 _).mono ?_;rintro e w3 ⟨rfl,rfl⟩;go_wp2_with fail;refine (W2 _).mono ?_;rintro e w3 ⟨rfl,rfl⟩;go_wp2;go_ret;exact⟨rfl,Za ab⟩
   | true=>
    rw[hH,if_neg (by decide)] at hx;have W2:=Zd (λw=>Va ht true w hH);clear hN hH
    have bi:∀ (r:Bool) (q:Bool) (hr:decide (ni=0)=r) (hq:(h != ht)=q) (hz:(if r=true/\q=true then (4:Int) else 0)=x),ZH 144 #[F a n c,.agg #[E J h,F ai ni ci,F ao no co],E J name,E J ht] w (E J x):=by
     intro r q hr hq hz;have IR:=Zd (λw=>Qo h ai ao ni ci no co r w hr);cases r with
     | false=>
      rw[if_neg (by simp)] at hz;subst hz;clear hx hr;go_enter func144,ntmps144;go_wp2_with fail;rw[<-aa];clear aa;refine C1.mono ?_;rintro e w2 ⟨rfl,z⟩;have Q:=ZE z ap;have c0:=Zb Q 0 _ rfl;have c1:=Zb Q 1 _ rfl;have c2:=Zb Q 2 _ rfl;have hl:=aA Q;have ab:=Zd (Zf af z);clear z Q;go_wp2_with fail;refine (W1 _).mono ?_;rintro e w3 ⟨rfl,rfl⟩;go_wp2_with fail;refine (W2 _).mono ?_;rintro e w3 ⟨rfl,rfl⟩;go_wp2_with fail;refine (IR _).mono ?_;rintro e w3 ⟨rfl,bd⟩;have bg:=Zd (Zf ab bd);clear bd;go_wp2;go_ret;exact⟨rfl,Za bg⟩
     | true=>
      cases q with
      | false=>
       rw[if_neg (by simp)] at hz;subst hz;clear hx hr;go_enter func144,ntmps144;go_wp2_with fail;rw[<-aa];clear aa;refine C1.mono ?_;rintro e w2 ⟨rfl,z⟩;have Q:=ZE z ap;have c0:=Zb Q 0 _ rfl;have c1:=Zb Q 1 _ rfl;have c2:=Zb Q 2 _ rfl;have hl:=aA Q;have HH:=Zd Q;have ab:=Zd (Zf af z);clear z Q;go_wp2_with fail;refine (W1 _).mono ?_;rintro e w3 ⟨rfl,rfl⟩;go_wp2_with fail;refine (W2 _).mono ?_;rintro e w3 ⟨rfl,rfl⟩;go_wp2_with fail;refine (IR _).mono ?_;rintro e w4 ⟨rfl,ad⟩;have d0:=Ze ad c0;have bo:=aF _ _ d0;have an:=Zd (Zf ab ad);clear ad c0 c1 c2;go_wp2;go_ret;exact⟨rfl,Za an⟩
      | true=>
       rw[if_pos ⟨rfl,rfl⟩] at hz;subst hz;clear hx hr;go_enter func144,ntmps144;go_wp2_with fail;rw[<-aa];clear aa;refine C1.mono ?_;rintro e w2 ⟨rfl,z⟩;have Q:=ZE z ap;have c0:=Zb Q 0 _ rfl;have c1:=Zb Q 1 _ rfl;have c2:=Zb Q 2 _ rfl;have hl:=aA Q;have HH:=Zd Q;have ab:=Zd (Zf af z);clear z Q;go_wp2_with fail;refine (W1 _).mono ?_;rintro e w3 ⟨rfl,rfl⟩;go_wp2_with fail;refine (W2 _).mono ?_;rintro e w3 ⟨rfl,rfl⟩;go_wp2_with fail;refine (IR _).mono ?_;rintro e w4 ⟨rfl,ad⟩;have d0:=Ze ad c0;have bo:=aF _ _ d0;have an:=Zd (Zf ab ad);clear ad c0 c1 c2;go_wp2;go_ret;exact⟨rfl,Za an⟩
    refine bi (decide (ni=0)) (h != ht) rfl rfl ?_;rw[<-hx];by_cases e1:ni=0 <;> by_cases e2:h=ht <;> simp[e1,e2]
 ·rw[if_pos h0] at hx;subst hx;have g:(y != 0)=true:=by simp[h0]
  clear h0;go_enter func144,ntmps144;go_wp2_with fail;rw[<-aa];clear aa;refine C1.mono ?_;rintro e w2 ⟨rfl,z⟩;have ab:=Zd (Zf af z);clear z;go_wp2;go_ret;exact⟨rfl,Za ab⟩
theorem Cq:∀ (l:List Int) (s:Int),(sm s l).2=0->∀ x∈l,0<=x/\x<=1000000000
 | [],_,_=>by simp
 | y :: r,s,h=>by
  intro x hx;unfold sm at h;split at h
  ·rename_i z;split at h
   ·rcases bC.1 hx with rfl|hx
    ·exact z
    ·exact Cq r _ h x hx
   ·cases h
  ·cases h
theorem Vs{t:TxD}(h:Zv t=0):t.2.1.length<=6/\t.2.2.length<=6/\0<t.2.2.length/\Mc t=true/\Yd [] t.2.1=0/\Yf t.2.2=0/\(sm 0 (t.2.2.map (·.1))).2=0:=by
 unfold Zv at h;split at h
 ·cases h
 rename_i h1;split at h
 ·cases h
 rename_i h2;split at h
 ·cases h
 rename_i h3;split at h
 ·rename_i h4;exact absurd h h4
 rename_i h4;unfold Yi at h;split at h
 ·rename_i h5;exact⟨by omega,by omega,by omega,by simpa using h3,by simpa using h4,h5,h⟩
 ·rename_i h5;exact absurd h h5
theorem Cv{t:TxD}(h:Zv t=0):∀ o∈t.2.2,0<=o.1/\o.1<=1000000000:=λo z=>
 Cq _ 0 (Vs h).2.2.2.2.2.2 o.1 (List.mem_map_of_mem z)
theorem Ft{L:List Zj}{t:TxD}(h:J8 L t=0):Y2 L/\Zv t=0:=by
 unfold J8 at h;split at h
 ·rename_i h1;exact absurd h h1
 ·rename_i h1;exact⟨(Yr L).1 (by simpa using h1),h⟩
theorem Ve{L:List Zj}{t:TxD}{name h:Int}(q:Wn L t name h=0):Y2 L/\Zv t=0/\okN name=true/\okH h=true/\(t.2.1.length=0->t.1=h):=by
 unfold Wn at q;split at q
 ·rename_i h1;exact absurd q h1
 rename_i h1;split at q
 ·cases q
 rename_i h2;split at q
 ·cases q
 rename_i h3;obtain⟨z,Q⟩:=Ft (by simpa using h1);rw[Bool.not_eq_false,Bool.and_eq_true] at h2;refine⟨z,Q,h2.1,h2.2,λe=>?_⟩;refine Decidable.byContradiction λn=>h3 ⟨by unfold isR;exact decide_eq_true e,n⟩
theorem Zfm{L:List Zj}{t:TxD}{name h x1 x2 x3 x4 x5:Int}{Q M2 z:List Zj}(h1:Wn L t name h=x1)(h2:Zq h t.2.1 [] L=(x2,Q,M2))(h3:Fk Q t=x3)(h4:Yh name h (isR t) 0 t.2.2 M2=(x4,z))(h5:Yj z=x5) :
  apD L t name h=if x1≠0 then (x1,[],[]) else if x2≠0 then (x2,[],[]) else if x3≠0 then (x3,[],[]) else if x4≠0 then (x4,[],[]) else if x5≠0 then (x5,[],[]) else (0,z,Q):=by
 unfold apD;simp only[h1,h2,h3,h4,h5]
theorem R9{l:List (Int×Int)}(h:chk l=0):l.length<=16:=by
 unfold chk at h;split at h
 ·cases h
 ·omega
