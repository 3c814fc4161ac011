import Derived.Test.YtmomfkikogbdeaaGreatDoorH
import Derived.Test.YtmomfkikogbdeaaGreatDoorG17
import Derived.Test.YtmomfkikogbdeaaGreatDoorG16
open Go.Proofs.Tryz
open Go renaming heap_alloc_new->aH,lt_of_block->aA,bodyPost_ret->aW
open Go.Ending renaming returned->dA
open Go.IntKind renaming wrap_i64->bH,i64->J
open Go.Obj renaming cells->cZ
open Go.Proofs.Tryz renaming prog->aB
open Go.RowKit renaming intOf->cK
open Go.Value renaming int->E,slice->F,bool->dD
open Go.World renaming block_lt_of_cell?->aE,cell?_of_block->bU
open Go.World.ownsRow renaming cellAt->aZ
open List renaming mem_cons->aU,getElem?_eq_some_iff->cT,getElem_mem->aQ,take_succ_eq_append_getElem->aS,take_of_length_le->aV,mem_cons_self->cV
open Nat renaming le_refl->aF,zero_le->aL
set_option maxHeartbeats 12800000
set_option maxRecDepth 10000
namespace Go.Proofs.YtmomfkikogbdeaaGreatDoor
open Go.RowKit
def Xm:List (Int×Int)->List Value
 | []=>[]
 | o :: r=>E J o.1 :: E J o.2 :: Xm r
theorem Xr:∀ l:List (Int×Int),(Xm l).length=l.length*2
 | []=>rfl
 | _ :: r=>by simp only[Xm,List.length_cons,Xr r];omega
theorem Su:∀ (l:List (Int×Int)) (i:Nat),i<l.length->(Xm l)[i*2]? = some (E J (l.getD i (0,0)).1)/\(Xm l)[i*2+1]? = some (E J (l.getD i (0,0)).2)
 | [],_,h=>absurd h (by simp)
 | o :: r,0,_=>⟨rfl,rfl⟩
 | o :: r,i+1,h=>by
  have:=Su r i (by simpa using h);rw[show (i+1)*2=i*2+2 by omega];simpa[Xm] using this
theorem Rt:∀ (l:List (Int×Int)) (u:Value),u∈Xm l->u.oneCell'=true
 | [],u,h=>by cases h
 | o :: r,u,h=>by
  simp only[Xm,aU] at h
  rcases h with rfl|rfl|h
  ·rfl
  ·rfl
  ·exact Rt r u h
theorem Rb{w:World}{b off n:Nat}{l:List (Int×Int)}(hz:l.length=n)(hc:∀ i,i<n->w.cell? ⟨b,off+i*2,none⟩=some (E J (l.getD i (0,0)).1)/\w.cell? ⟨b,off+i*2+1,none⟩=some (E J (l.getD i (0,0)).2))(j:Nat)(u)(z:(Xm l)[j]? = some u):w.cell? ⟨b,off+j,none⟩=some u:=by
 have ac:j<l.length*2:=by rw[<-Xr];exact (cT.1 z).1
 obtain⟨Q,f1⟩:=Su l (j / 2) (by omega);obtain⟨c0,c1⟩:=hc (j / 2) (by omega)
 rcases (show j % 2=0\/j % 2=1 by omega) with q|q
 ·have e:j=j / 2*2:=by omega
  rw[<-e] at Q c0;rw[Q] at z;rw[c0,<-z]
 ·have e:j=j / 2*2+1:=by omega
  rw[<-e] at f1;rw[show off+j / 2*2+1=off+j by omega] at c1;rw[f1] at z;rw[c1,<-z]
theorem Ro{w:World}{base:Nat}{v}{n:Nat}{l}(h:w.ownsRow base 164 2 v n (Xm l)):∃ a c,v = F a n c/\OpsAt w a n l/\SlOk a n c/\(∀ z,a=some z->base<=z.block):=by
 have Q:l.length=n:=by have:=h.1;rw[Xr] at this;omega
 rcases h.2 with ⟨rfl,rfl⟩|⟨g,cap,ad,rfl,hg,hh,h1,h2,h3,h4⟩
 ·exact⟨none,0,rfl,⟨Q,λh=>absurd h (by omega)⟩,⟨aF _,aL _,λ_=>⟨rfl,rfl⟩⟩,λz e=>by cases e⟩
 ·refine⟨_,cap,rfl,⟨Q,λ_=>⟨g,0,rfl,λi hi=>?_⟩⟩,⟨h1,h2,λe=>by cases e⟩,λz e=>by cases e;exact hg⟩;obtain⟨f0,f1⟩:=Su l i (by omega);rw[Nat.zero_add,aZ h _ (by omega),aZ h _ (by omega)];exact⟨f0,f1⟩
theorem Tryz.infoOpC:(Tryz.prog.info? 164).map (λi=>(i.zero,i.size,i.bytes))=some (some (.agg #[E J 0,E J 0]),2,16):=by kernel_rfl
theorem Rd(w):Calls aB 150 #[F none 0 0] w λe w'=>e = dA (F none 0 0)/\w=w':=by
 have z:=λw=>Lib.run_eql_slice_nil (P:=aB) w 48 164 none 0 0 0 0 underlying48;go_enter func150,ntmps150;go_wp2;go_ret;exact⟨rfl,rfl⟩
theorem Jm(z:Addr)(n c:Nat)(l:List (Int×Int))(w:World)(hn:n<=4096)(hz:l.length=n)(hc:∀ j u,(Xm l)[j]? = some u->w.cell? (z.add j)=some u) :
  Calls aB 150 #[F (some z) n c] w λe w'=>∃ v,e = dA v/\w'.ownsRow w.heap.size 164 2 v n (Xm l)/\ZD w w':=by
 obtain⟨i0,hi,am,an,ap⟩:=info_parts Tryz.infoOpC;have hb:=Zh w (cZ #[] 164);have HC:Hid (∀ j u,(Xm l)[j]? = some u->(w.alloc (cZ #[] 164)).cell? (z.add j)=some u):=λj u hj=>Ze hb (hc j u hj);obtain⟨Q,HZ,HO⟩:=kh3 hb hz (Wn w 164 2);have he:=λw=>Lib.run_eql_slice_nil (P:=aB) w 48 164 (some z) n c 0 0 underlying48;clear hc hb hz;go_enter func150,ntmps150
 go_wp2_with (at_builtin;refine wpList_append_own _ rfl _ _ 48 rfl w.heap.size 164 i0 (.agg #[E J 0,E J 0]) 2 16 underlying48 hi am an ap rfl (by decide) _ _ _ rfl HO z n c (Xm l) rfl (by rw[Xr,Za HZ]) HC (Rt l) (by unfold maxLen;omega) (by omega) Q.size ?_;intro v2 w3 ae ad _)
 have HW:Hid (w3.ownsRow w.heap.size 164 2 v2 n (Xm l)):=by show World.ownsRow _ _ _ _ _ _ _;simpa using ae
 have ag:=Zd (Q.grown ad Q.size (Wb HO));clear ae ad;go_wp2;go_ret;exact⟨v2,rfl,Za HW,Za ag⟩
theorem Qf(a)(n c:Nat)(l)(w:World)(hn:n<=4096)(h:OpsAt w a n l)(hs:SlOk a n c) :
  Calls aB 150 #[F a n c] w λe w'=>∃ z c',e = dA (F z n c')/\OpsAt w' z n l/\SlOk z n c'/\(∀ Q,z=some Q->w.heap.size<=Q.block)/\ZD w w':=by
 obtain⟨hl,hc⟩:=h;cases a with
 | none=>
  obtain⟨rfl,rfl⟩:=hs.2.2 rfl;exact (Rd w).mono λe w' ⟨x,y⟩=>⟨none,0,x,⟨hl,λh=>absurd h (by omega)⟩,hs,λQ e=>(by cases e),y ▸ Below.refl _ _⟩
 | some Q=>
  have af:∀ j u,(Xm l)[j]? = some u->w.cell? (Q.add j)=some u:=λj u hj=>by
   have aj:j<l.length*2:=(by rw[<-Xr];exact (cT.1 hj).1);obtain⟨b,off,e,ag⟩:=hc (by omega);cases e;rw[Addr.add_lit];exact Rb hl ag j u hj
  refine (Jm Q n c l w hn hl af).mono ?_;rintro e w' ⟨v,rfl,x,y⟩;obtain⟨z,c',rfl,h1,h2,h3⟩:=Ro x;exact⟨z,c',rfl,h1,h2,h3,y⟩
theorem R5{fn:Func}{p:Tmp}{ty:TypeId}(h:fn.results=#[.cell p ty])(tmps:Array Value)(P:Program)(w) :
  (results fn tmps).run P w=((asAddr (tmps.getD p undef)).run P w).andThen λa z=>(loadVar ty a).run P z:=by
 simp only[results,h];simp[Sem.run_bind,Result.andThen]
theorem OpsAt.gr{w w'}{S:Nat->Prop}{a n l}(h:OpsAt w a n l)(g:Gr w w' S)(hn:∀ z,a=some z->¬S z.block):OpsAt w' a n l:=by
 refine⟨h.1,λh0=>?_⟩;obtain⟨b,off,rfl,hc⟩:=h.2 h0;refine⟨b,off,rfl,λi hi=>?_⟩;obtain⟨c0,c1⟩:=hc i hi;have Q:=g.block b (aE _ _ c0) (hn _ rfl);exact⟨(bU (a:=⟨b,off+i*2,none⟩) Q).trans c0,(bU (a:=⟨b,off+i*2+1,none⟩) Q).trans c1⟩
theorem Ts(x:Int)(a)(n c:Nat)(l)(w:World)(hn:n<=4096)(h:OpsAt w a n l)(hs:SlOk a n c) :
  Calls aB 161 #[.agg #[E J x,F a n c]] w λe w'=>∃ z c',e = dA (.agg #[E J x,F z n c'])/\OpsAt w' z n l/\SlOk z n c'/\(∀ Q,z=some Q->w.heap.size<=Q.block)/\ZD w w':=by
 obtain⟨X,hX⟩:=ZG ((w.alloc (cZ #[E J x,F a n c] 122)).alloc (cZ #[E J 0,F none 0 0] 122));have ah:ZD w X:=by rw[hX];exact Zf (Zh _ _) (Zh _ _)
 have x0:X.cell? ⟨w.heap.size,0,none⟩=some (E J x):=by rw[hX];exact Ze (Zh _ _) (Yc w _ _ _).1
 have x1:X.cell? ⟨w.heap.size,1,none⟩=some (F a n c):=by rw[hX];exact Ze (Zh _ _) (Yc w _ _ _).2
 have al:X.heap[w.heap.size+1]? = some (cZ [E J 0,F none 0 0].toArray 122 (0,0)):=by
  rw[hX];have:=aH (w.alloc (cZ #[E J x,F a n c] 122)) (cZ #[E J 0,F none 0 0] 122);rw[show (w.alloc (cZ #[E J x,F a n c] 122)).heap.size=w.heap.size+1 by simp] at this;exact this
 obtain⟨C,aj,ap⟩:=kh3 (Qf a n c l X.drew hn (h.later (Zf ah (Zi X))) hs) al ah;clear h hs ah al;go_enter func161,ntmps161;go_wp2_with fail;rw[<-hX];clear hX
 go_region_with (go_at_call 150;refine C.mono ?_;rintro e w3 ⟨z,c',rfl,af,ag,ad,ab⟩;have o2:w3.cell? ⟨w.heap.size,0,none⟩=some (E J x):=Ze ab (Ze (Zi _) x0);have ae:=ZE ab aj;have c0:=Zb ae 0 _ rfl;have c1:=Zb ae 1 _ rfl;have f0:=Zg ae 0;have f1:=Zg ae 1;have H3:Hid (OpsAt w3 z n l/\SlOk z n c'/\(∀ Q,z=some Q->X.heap.size<=Q.block)/\Below X.drew.heap.size X.drew w3):=⟨af,ag,ad,ab⟩;clear af ag ad ab ae)
 all_goals
  go_wp2;(try simp only[Exit.inBlock,Exit.then]);obtain⟨af,ag,ad,ab⟩:=Za H3;have hG:=((Gr.refl w3 (λq=>q=w.heap.size+1)).one (w.heap.size+1) 0 (.inl rfl) (E J x)).one (w.heap.size+1) 1 (.inl rfl) (F z n c');have ax:=aA aj;refine aW (v:=.agg #[E J x,F z n c']) ?_ rfl ⟨z,c',rfl,af.gr hG (λQ e q=>?_),ag,λQ e=>?_,?_⟩
  ·rw[R5 rfl];go_simp
  ·have:=ad Q e;omega
  ·have:=ad Q e;omega
  ·have ay:X.heap.size<=w3.heap.size:=ab.size;exact hG.below (Zf (Zf ap (Zi _)) ab) (by omega) (λk hk=>by omega)
theorem Ed(x:Zj)(a)(n c:Nat)(w:World)(hn:n<=4096)(h:OpsAt w a n (ck x))(hs:SlOk a n c) :
  Calls aB 139 #[cnV x a n c] w λe w'=>∃ z c',e = dA (cnV x z n c')/\OpsAt w' z n (ck x)/\SlOk z n c'/\(∀ Q,z=some Q->w.heap.size<=Q.block)/\ZD w w':=by
 unfold cnV;obtain⟨X,hX⟩:=ZG ((w.alloc (cZ #[E J x.1,E J x.2.1,E J (cv x),F a n c,E J (ch x),dD (cr x)] 124)).alloc (cZ #[E J 0,E J 0,E J 0,F none 0 0,E J 0,dD false] 124));have ah:ZD w X:=by rw[hX];exact Zf (Zh _ _) (Zh _ _)
 have ag:X.heap[w.heap.size]? = some (cZ [E J x.1,E J x.2.1,E J (cv x),F a n c,E J (ch x),dD (cr x)].toArray 124 (0,0)):=by
  rw[hX,Below.heap_alloc _ _ _ (by simp)];exact W7 _ _ _ _ _ _ _ _
 have al:X.heap[w.heap.size+1]? = some (cZ zeroCs.toArray 124 (0,0)):=by
  rw[hX];have:=aH (w.alloc (cZ #[E J x.1,E J x.2.1,E J (cv x),F a n c,E J (ch x),dD (cr x)] 124)) (cZ zeroCs.toArray 124);rw[show (w.alloc (cZ #[E J x.1,E J x.2.1,E J (cv x),F a n c,E J (ch x),dD (cr x)] 124)).heap.size=w.heap.size+1 by simp] at this;exact this
 obtain⟨C,aq,aj,ap⟩:=kh4 (Ts (cv x) a n c (ck x) X hn (h.later ah) hs) ag al ah;obtain⟨-,-,x2,x3,-⟩:=kc4 ag;clear h hs ah al ag;go_enter func139,ntmps139;go_wp2_with fail;rw[<-hX];clear hX x2 x3;refine C.mono ?_;rintro e w3 ⟨z,c',rfl,ae,af,ad,ab⟩;have h0:=ZE ab aq;have h1:=ZE ab aj;obtain⟨c0,c1,c2,c3,c4,c5,-,-,f2,f3,-,-,-⟩:=kf6 h0;obtain⟨z0,z1,z2,z3,z4,z5,y0,y1,y2,y3,y4,y5,-⟩:=kf6 h1;have ar:Hid (w.heap.size+1<X.heap.size):=aA aj;have H3:Hid (OpsAt w3 z n (ck x)/\SlOk z n c'/\(∀ Q,z=some Q->X.heap.size<=Q.block)/\ZD X w3):=⟨ae,af,ad,ab⟩;clear ae af ad ab h0 h1;go_wp2;(try simp only[Exit.inBlock,Exit.then]);obtain⟨ae,af,ad,ab⟩:=Za H3;have bg:=Za ar;have hG:=(((Gr.refl w3 (λq=>q=w.heap.size\/q=w.heap.size+1)).one w.heap.size 2 (.inl (.inl rfl)) (E J (cv x))).one w.heap.size 3 (.inl (.inl rfl)) (F z n c')).six (w.heap.size+1) (.inl (.inr rfl)) (E J x.1) (E J x.2.1) (E J (cv x)) (F z n c') (E J (ch x)) (dD (cr x));refine aW (v:=.agg #[E J x.1,E J x.2.1,E J (cv x),F z n c',E J (ch x),dD (cr x)]) ?_ rfl ⟨z,c',rfl,ae.gr hG (λQ e q=>?_),af,λQ e=>?_,?_⟩
 ·rw[R5 rfl];go_simp
 ·have:=ad Q e;rcases q with q|q <;> omega
 ·have:=ad Q e;omega
 ·exact hG.below (Zf ap ab) (Nat.le_of_lt (Nat.lt_of_lt_of_le (by omega) ab.size)) (λk hk=>by rcases hk with q|q <;> omega)
def LkIn(w:World)(s:Nat)(x:CV):Prop:=LkAt w x/\∀ z,x.2.1=some z->s<=z.block
theorem LkIn.later{w w':World}{s:Nat}{x:CV}(h:LkIn w s x)(z:ZD w w'):LkIn w' s x:=⟨h.1.later z,h.2⟩
def Fresh(B:Nat)(w:World)(Q:World->Prop):Prop:=∀ w2,Gr w w2 (λk=>k<B)->Q w2
theorem Zjy{w:World}{base:Nat}{e:TypeId}{size:Nat}{v}{n:Nat}{xs}(h:w.ownsRow base e size v n xs):∃ a c,v = F a n c/\SlOk a n c/\(0<n->∃ g,a=some ⟨g,0,none⟩/\base<=g/\g<w.heap.size):=by
 rcases h.2 with ⟨rfl,rfl⟩|⟨g,cap,aa,rfl,z,Q,h1,h2,h3,h4⟩
 ·exact⟨none,0,rfl,⟨aF _,aL _,λ_=>⟨rfl,rfl⟩⟩,λh=>absurd h (by omega)⟩
 ·exact⟨_,cap,rfl,⟨h1,h2,λe=>by cases e⟩,λ_=>⟨g,rfl,z,aA Q⟩⟩
theorem Jl(a)(n c:Nat)(L)(w:World)(hn:n<=4096)(h:CoinsAt w a n L)(cw:SlOk a n c)(hk:∀ x∈L,(ck x).length<=4096) :
  Calls aB 66 #[F a n c] w λe w'=>∃ a' c',e = dA (F a' n c')/\Fresh w.heap.size w' (λw2=>CoinsAt w2 a' n L)/\SlOk a' n c'/\ZD w w':=by
 obtain⟨C1,HZ,HK⟩:=kh3 (Th a n c L w hn h cw) h.1 hk;clear h hk cw;go_enter func66,ntmps66;go_wp2_with fail;refine C1.mono ?_;rintro e w2 ⟨v,K,rfl,hK,an,ax,bj⟩;have bg:K.length=n:=by rw[<-Za HZ,<-hK,List.length_map]
 rw[bg] at ax;obtain⟨a1,c1,rfl,ct,bo⟩:=Zjy ax;obtain⟨G,hG⟩:=ZF (w2.heap.size);rw[hG] at bo;obtain⟨bz,dc,cz,cb,da⟩:=kh5 bo ct hK bg an;have ST:Hid (w2.ownsRow w.heap.size 124 6 (F a1 n c1) n (Zm ([]++K.drop 0))):=ax;have bu:=Zd bj;have ca:Hid (G<=w2.heap.size):=Nat.le_of_eq hG.symm;have ce:Hid (w.heap.size<=G):=by rw[<-hG];exact bj.size
 clear ax bj hK an ct bo C1 hG bg;go_wp2_with fail
 go_loopw [9] (λi wr=>∃ (k:Nat) (T:List CV),k<=n/\i = E J k/\Hid (T.map (·.1)=L.take k)/\Hid (T.length=k)/\Hid (wr.ownsRow w.heap.size 124 6 (F a1 n c1) n (Zm (T++K.drop k)))/\Hid (∀ en∈T,LkIn wr G en)/\Hid (ZD w wr)/\Hid (G<=wr.heap.size)) (λi _=>n - (cK i).toNat)
 case atStart=>exact⟨0,[],aL _,rfl,rfl,rfl,ST,(λen z=>(by cases z):∀ en∈([]:List CV),LkIn w2 G en),bu,ca⟩
 case round=>
  obtain⟨k,T,hk,rfl,HT,ap,HO,ak,HB,cx⟩:=hrel;clear ST bu ca;by_cases cp:k<n
  ·have an:k<L.length:=(by rw[Za HZ];exact cp);have cn:k<K.length:=(by rw[Za cb];exact cp);obtain⟨g,rfl,dv,du⟩:=bz (by omega)
   have bh:(K[k]).1=L[k]:=by
    have:=Za cz;subst this;rw[List.getElem_map]
   have aw:=HK _ (aQ an);have cg:=(da _ (aQ cn)).later HB;have bd:Hid (L.take (k+1)=L.take k++[L[k]]):=aS an
   have cd:Hid (T++K.drop k=T++K[k] :: K.drop (k+1)):=by
    show _=_;rw[List.drop_eq_getElem_cons cn]
   obtain⟨en,z⟩:=ZF (K[k]);rw[z] at bh cd cg;rw[<-bh] at bd aw;obtain⟨x,la,ln,lc⟩:=en;simp only at bd aw;obtain⟨ar,bs⟩:=cg;simp only at ar bs;have dp:ln<=4096:=(by rw[<-ar.1];exact aw);have av:=Za ap;have au:=Za HO;rw[Za cd] at au
   have af:∀ j,j<6->wr.cell? ⟨g,k*6+j,none⟩=(A0 (x,la,ln,lc))[j]?:=λj hj=>by
    rw[aZ au _ (by omega),<-av,Jj _ _ _ j hj]
   have g0:wr.cell? ⟨g,k*6,none⟩=some (E J x.1):=(af 0 (by decide)).trans rfl;have g1:wr.cell? ⟨g,k*6+1,none⟩=some (E J x.2.1):=(af 1 (by decide)).trans rfl;have g2:wr.cell? ⟨g,k*6+2,none⟩=some (E J (cv x)):=(af 2 (by decide)).trans rfl;have g3:wr.cell? ⟨g,k*6+3,none⟩=some (F la ln lc):=(af 3 (by decide)).trans rfl;have g4:wr.cell? ⟨g,k*6+4,none⟩=some (E J (ch x)):=(af 4 (by decide)).trans rfl;have g5:wr.cell? ⟨g,k*6+5,none⟩=some (dD (cr x)):=(af 5 (by decide)).trans rfl;obtain⟨X,hX⟩:=ZG (wr.alloc (cZ #[E J x.1,E J x.2.1,E J (cv x),F la ln lc,E J (ch x),dD (cr x)] 124));have bk:ZD wr X:=(by rw[hX];exact Zh _ _);have C:=Ed x la ln lc X dp (ar.later bk) bs;unfold cnV at C;obtain⟨HC,bv⟩:=kh2 C bk;have dw:(k:Int)<(n:Int):=(by omega);have cc:=Zd au;clear C bk ar bs aw au af bh z;go_wp2_with fail;rw[<-hX];clear hX g0 g1 g2 g3 g4 g5;refine HC.mono ?_;rintro e w5 ⟨a5,c5,rfl,cq,cu,cm,cl⟩;have am:=Zf bv cl;have ac:=(Gr.of (S:=λ_=>False) am).own cc (λ_ _ q=>q)
   have ag:∀ j,j<6->w5.cell? ⟨g,k*6+j,none⟩=(A0 (x,la,ln,lc))[j]?:=λj hj=>by
    rw[aZ ac _ (by omega),<-av,Jj _ _ _ j hj]
   have t0:w5.cell? ⟨g,k*6,none⟩=some (E J x.1):=(ag 0 (by decide)).trans rfl;have t1:w5.cell? ⟨g,k*6+1,none⟩=some (E J x.2.1):=(ag 1 (by decide)).trans rfl;have t2:w5.cell? ⟨g,k*6+2,none⟩=some (E J (cv x)):=(ag 2 (by decide)).trans rfl;have t3:w5.cell? ⟨g,k*6+3,none⟩=some (F la ln lc):=(ag 3 (by decide)).trans rfl;have t4:w5.cell? ⟨g,k*6+4,none⟩=some (E J (ch x)):=(ag 4 (by decide)).trans rfl;have t5:w5.cell? ⟨g,k*6+5,none⟩=some (dD (cr x)):=(ag 5 (by decide)).trans rfl;have z0:=ac.frozenAt (k*6);have z1:=ac.frozenAt (k*6+1);have z2:=ac.frozenAt (k*6+2);have z3:=ac.frozenAt (k*6+3);have z4:=ac.frozenAt (k*6+4);have z5:=ac.frozenAt (k*6+5);have dz:g<w5.heap.size:=(ac.lt _ rfl).2
   have dd:Hid (∃ T':List CV,Hid (T'.map (·.1)=L.take (k+1))/\Hid (T'.length=k+1)/\Hid (((((((w5.setCell ⟨g,k*6,none⟩ (E J x.1)).setCell ⟨g,k*6+1,none⟩ (E J x.2.1)).setCell ⟨g,k*6+2,none⟩ (E J (cv x))).setCell ⟨g,k*6+3,none⟩ (F a5 ln c5)).setCell ⟨g,k*6+4,none⟩ (E J (ch x))).setCell ⟨g,k*6+5,none⟩ (dD (cr x))).ownsRow w.heap.size 124 6 (F (some ⟨g,0,none⟩) n c1) n (Zm (T'++K.drop (k+1)))) /\
     Hid (∀ en∈T',LkIn ((((((w5.setCell ⟨g,k*6,none⟩ (E J x.1)).setCell ⟨g,k*6+1,none⟩ (E J x.2.1)).setCell ⟨g,k*6+2,none⟩ (E J (cv x))).setCell ⟨g,k*6+3,none⟩ (F a5 ln c5)).setCell ⟨g,k*6+4,none⟩ (E J (ch x))).setCell ⟨g,k*6+5,none⟩ (dD (cr x))) G en) /\
     Hid (ZD w ((((((w5.setCell ⟨g,k*6,none⟩ (E J x.1)).setCell ⟨g,k*6+1,none⟩ (E J x.2.1)).setCell ⟨g,k*6+2,none⟩ (E J (cv x))).setCell ⟨g,k*6+3,none⟩ (F a5 ln c5)).setCell ⟨g,k*6+4,none⟩ (E J (ch x))).setCell ⟨g,k*6+5,none⟩ (dD (cr x)))) /\
     Hid (G<=((((((w5.setCell ⟨g,k*6,none⟩ (E J x.1)).setCell ⟨g,k*6+1,none⟩ (E J x.2.1)).setCell ⟨g,k*6+2,none⟩ (E J (cv x))).setCell ⟨g,k*6+3,none⟩ (F a5 ln c5)).setCell ⟨g,k*6+4,none⟩ (E J (ch x))).setCell ⟨g,k*6+5,none⟩ (dD (cr x))).heap.size)):=by
    have hG:=(Gr.refl w5 (λq=>q=g)).sixAt g (k*6) (.inl rfl) (E J x.1) (E J x.2.1) (E J (cv x)) (F a5 ln c5) (E J (ch x)) (dD (cr x));have cj:=Zdl ac (k*6) (E J x.1) (E J x.2.1) (E J (cv x)) (F a5 ln c5) (E J (ch x)) (dD (cr x));have bt:=Tc T (K.drop (k+1)) (x,la,ln,lc) (x,a5,ln,c5);rw[av] at bt;simp only at bt;rw[bt] at cj;have dt:wr.heap.size<=X.heap.size:=bv.size;have dr:=Za cx;have dx:=am.size;have dy:=hG.size;refine⟨T++[(x,a5,ln,c5)],?_,?_,?_,?_,?_,?_⟩
    ·show _=_;rw[List.map_append,Za HT,Za bd];rfl
    ·show _=_;rw[List.length_append,av];rfl
    ·show World.ownsRow _ _ _ _ _ _ _;rw[List.append_assoc];exact cj
    ·intro en z
     rcases List.mem_append.1 z with z|z
     ·have h1:=(ak en z).later am;exact⟨⟨h1.1.1.gr hG (λad e q=>by have:=h1.2 ad e;omega),h1.1.2⟩,h1.2⟩
     ·rw[List.mem_singleton.1 z];have h3:∀ ad,a5=some ad->G<=ad.block:=λad e=>by have:=cm ad e;omega
      exact⟨⟨cq.gr hG (λad e q=>by have:=h3 ad e;omega),cu⟩,h3⟩
    ·exact hG.below (Zf HB am) (by have:=Za ce;omega) (λq hq=>by omega)
    ·show _<=_;omega
   clear cq cu cm cl am ac ag HC cc;go_wp2;go_roundw
   case rel=>
    obtain⟨T',f1,f2,f3,f4,f5,f6⟩:=Za dd;exact⟨k+1,T',by omega,by go_num,f1,f2,f3,f4,f5,f6⟩
   case measure=>simp[cK];omega
  ·have e:k=n:=(by omega);subst e
   have HR:Hid (Fresh w.heap.size wr (λw2=>CoinsAt w2 a1 k L)/\SlOk a1 k c1):=by
    have h1:=Za HO;have ds:=Za cb;rw[List.drop_of_length_le (by omega),List.append_nil,<-Za ap] at h1
    have hF:Fresh w.heap.size wr (λw2=>CoinsAt w2 a1 k L):=λw2 hG=>by
     have h2:=hG.own h1 (λq hq=>by have:=(h1.lt q hq).1;omega);obtain⟨a',c',e,h3,_⟩:=Va h2 (λen z=>⟨(ak en z).1.1.gr hG (λad e q=>by have:=(ak en z).2 ad e;have:=Za ce;omega),(ak en z).1.2⟩);cases e;rw[Za HT,aV (by rw[Za HZ];exact aF _)] at h3;rw[Za ap] at h3;exact h3
    exact⟨hF,Za dc⟩
   clear HO HT ap ak bz;go_wp2;go_ret;obtain⟨h1,h2⟩:=Za HR;exact⟨_,_,rfl,h1,h2,Za HB⟩
theorem Sb:∀ (L:List Zj) (k:Nat),(∀ c∈L,0<=cv c/\cv c<=1000000000)->0<=Zp (L.take k)/\Zp (L.take k)<=1000000000*(k:Int)
 | [],k,_=>by simp[Zp];omega
 | c :: r,0,_=>by simp[Zp]
 | c :: r,k+1,h=>by
  have h1:=h c (cV ..);have h2:=Sb r k (λx hx=>h x (List.mem_cons_of_mem _ hx));rw[List.take_succ_cons,Xc];omega
theorem Du:∀ (L:List Zy) (k:Nat),(∀ c∈L,0<=c.1/\c.1<=1000000000)->0<=Y6 (L.take k)/\Y6 (L.take k)<=1000000000*(k:Int)
 | [],k,_=>by simp[Y6];omega
 | c :: r,0,_=>by simp[Y6]
 | c :: r,k+1,h=>by
  have h1:=h c (cV ..);have h2:=Du r k (λx hx=>h x (List.mem_cons_of_mem _ hx));rw[List.take_succ_cons];have e:Y6 (c :: r.take k)=c.1+Y6 (r.take k):=by simp[Y6]
  rw[e];omega
theorem Zhv(sa)(Q cs:Nat)(S)(ht:Int)(ai ao)(ni ci no co:Nat)(O)(x:Int)(w:World)(dc:Q<=6)(db:no<=6)(hS:CoinsAt w sa Q S)(hO:OutsAt w ao no O)
  (hs:∀ c∈S,0<=cv c/\cv c<=1000000000) (ho:∀ c∈O,0<=c.1/\c.1<=1000000000) (hx:(if Zp S - Y6 O<0/\decide (ni=0)=false then 9 else 0)=x) :
  ZH 147 #[F sa Q cs,.agg #[E J ht,F ai ni ci,F ao no co]] w (E J x):=by
 obtain⟨X0,bo,ak,bq⟩:=ka00 w [E J ht,F ai ni ci,F ao no co] 59;have au:=Zd (λk=>Sb S k hs);have bf:=Zd (λk=>Du O k ho);obtain⟨HS,HO,bi,bh,HX,bg,bx⟩:=kh7 (hS.later ak) (hO.later ak) hS.1 hO.1 hx bq ak;clear hS hO hs ho hx bq ak;go_enter func147,ntmps147;go_wp2;rw[<-bo];clear bo
 go_loopw [5,12] (λsv i wr=>∃ (k:Nat) (s:Int),k<=Q/\sv = E J s/\i = E J k/\Hid (s=Zp (S.take k))/\Hid (ZD X0 wr)) (λ_ i _=>Q - (cK i).toNat)
 case atStart=>exact⟨0,0,aL _,rfl,rfl,rfl,Below.refl _ _⟩
 case round=>
  obtain⟨k,s,hk,rfl,rfl,A,HB⟩:=hrel;by_cases ay:k<Q
  ·have ag:k<S.length:=(by rw[Za bi];exact ay);obtain⟨b,off,rfl,cf,ax⟩:=HS.2 (by omega);have ab:=CoinAt.kept _ _ _ _ _ HB (ax k ag);have b1:=au k;have b2:=au (k+1);have z:=Pk S k ag;obtain⟨c,hc⟩:=ZF (S[k]);rw[hc] at ab z;obtain⟨la,ln,lc,g0,g1,g2,g3,g4,g5,_,_⟩:=ab.val;obtain⟨v,hv⟩:=ZF (cv c);rw[hv] at g2 z;rw[<-Za A] at b1 z;rw[z] at b2;have A2:Hid (s+v=Zp (S.take (k+1))):=z.symm;have an:=Zd (Zf HB (Zh wr (cZ #[E J c.1,E J c.2.1,E J v,F la ln lc,E J (ch c),dD (cr c)] 124)));have cj:IntKind.i64.wrap (s+v)=s+v:=(by rw[bH];omega);clear ab hc z A HB;go_wp2;go_roundw
   case rel=>exact⟨k+1,s+v,by omega,rfl,by go_num,A2,an⟩
   case measure=>simp[cK];omega
  ·have e:k=Q:=(by omega);subst e
   have A2:Hid (s=Zp S):=by
    show _=_;rw[Za A,aV (by rw[Za bi];exact aF _)]
   have b1:=au k;rw[<-Za A] at b1;have hh:=ZE HB bg;obtain⟨-,-,c2,hl⟩:=kc3 hh;clear A hh;go_wp2
   go_loopw [5,25] (λsv i cl=>∃ (j:Nat) (d:Int),j<=no/\sv = E J d/\i = E J j/\Hid (d=s - Y6 (O.take j))/\Hid (ZD X0 cl)) (λ_ i _=>no - (cK i).toNat)
   case atStart=>exact⟨0,s,aL _,rfl,rfl,(by simp[Y6]:s=s - Y6 (O.take 0)),HB⟩
   case round=>
    obtain⟨j,d,hj,rfl,rfl,D,HD⟩:=hrel;clear HB;have ad:=Za HD;by_cases ay:j<no
    ·have ag:j<O.length:=(by rw[Za bh];exact ay);obtain⟨b,off,rfl,cf,ax⟩:=HO.2 (by omega);have ab:=OutAt.kept _ _ _ _ _ ad (ax j ag);have d1:=bf j;have d2:=bf (j+1);have z:=Ni O j ag;obtain⟨o,hc⟩:=ZF (O[j]);rw[hc] at ab z;obtain⟨q1,q2⟩:=o;obtain⟨g0,la,ln,lc,g1,_,_⟩:=ab;simp only at g0 g1 z;have hd:d=s - Y6 (O.take j):=Za D;have A3:Hid (d - q1=s - Y6 (O.take (j+1))):=(by show _=_;rw[z];omega);have an:=Zd (Zf HD (Zh wr (cZ #[E J q1,F la ln lc] 122)));have cj:IntKind.i64.wrap (d - q1)=d - q1:=(by rw[bH];omega);clear hc z D HD hd d1 d2 ad;go_wp2;go_roundw
     case rel=>exact⟨j+1,d - q1,by omega,rfl,by go_num,A3,an⟩
     case measure=>simp[cK];omega
    ·have e:j=no:=(by omega);subst e
     have hd:d=Zp S - Y6 O:=by
      have:=Za D;rw[aV (by rw[Za bh];exact aF _),Za A2] at this;exact this
     have hx:=Za HX;rw[<-hd] at hx;have hh:=ZE ad bg;obtain⟨e0,e1,e2,da⟩:=kc3 hh;have aq:=Zd (Zf bx ad);have IR:=Zd (λw=>Ra ht ai ao ni ci j co (decide (ni=0)) w rfl);clear hh ad D hd;by_cases br:d<0
     ·cases hr:decide (ni=0) with
      | true=>
       have R:Hid (x=0):=(by show _=_;rw[<-hx,if_neg (by rw[hr];simp)]);rw[hr] at IR;clear hx hr;go_wp2_with fail;refine (IR _).mono ?_;rintro e w3 ⟨rfl,ac⟩;have ap:=Zd (Zf aq ac);clear ac;go_wp2;go_ret;exact⟨by rw[Za R];rfl,Za ap⟩
      | false=>
       have R:Hid (x=9):=(by show _=_;rw[<-hx,if_pos ⟨br,hr⟩]);rw[hr] at IR;clear hx hr;go_wp2_with fail;refine (IR _).mono ?_;rintro e w3 ⟨rfl,ac⟩;have ap:=Zd (Zf aq ac);clear ac;go_wp2;go_ret;exact⟨by rw[Za R];rfl,Za ap⟩
     ·have R:Hid (x=0):=(by show _=_;rw[<-hx,if_neg (λq=>br q.1)]);clear hx;go_wp2;go_ret;exact⟨by rw[Za R];rfl,Za aq⟩
def UndoAt(w:World)(b o:Nat)(s:List Zj):Prop:=∃ a n c,w.cell? ⟨b,o,none⟩=some (F a n c)/\CoinsAt w a n s/\SlOk a n c
theorem UndoAt.kept{w w':World}{b o s}(z:ZD w w')(h:UndoAt w b o s):UndoAt w' b o s:=by
 obtain⟨a,n,c,h1,h2,h3⟩:=h;exact⟨a,n,c,Ze z h1,h2.later z,h3⟩
def Wl(r:Int)(T:List TxD)(S:List (List Zj))(k:Nat):Int:=r+Zp (S.take k).flatten - Y6 ((T.take k).map (·.2.2)).flatten
theorem Qb(L M):Y6 (L++M)=Y6 L+Y6 M:=by simp[Y6]
theorem Zbk(r:Int)(T S):Wl r T S 0=r:=by simp[Wl,Zp,Y6]
theorem Zbl(r:Int)(T:List TxD)(S:List (List Zj))(k:Nat)(hT:k<T.length)(z:k<S.length):Wl r T S (k+1)=Wl r T S k+Zp S[k] - Y6 T[k].2.2:=by
 unfold Wl;rw[aS hT,aS z,List.map_append,List.flatten_append,List.flatten_append,Xz,Qb];simp;omega
theorem Zch(p h k n:Int)(b off m c:Nat)(T:List TxD)(ub uo um uc:Nat)(S:List (List Zj))(r:Int)(o:Bool)(w:World)(hz:T.length=m)(hm:m<=4)(cp:∀ i (h:i<T.length),TxAt w b (off+i*3) T[i])(dc:S.length=m)(eb:um=m)
  (cn:∀ i (h:i<S.length),UndoAt w ub (uo+i) S[i]) (hT:∀ t∈T,t.2.2.length<=6/\∀ x∈t.2.2,0<=x.1/\x.1<=1000000000) (hS:∀ s∈S,s.length<=6/\∀ x∈s,0<=cv x/\cv x<=1000000000) (hr:rwD h=(r,0)) (ho:decide (0<=Wl r T S m)=o) :
  ZH 75 #[.agg #[E J p,E J h,E J k,E J n,F (some ⟨b,off,none⟩) m c],F (some ⟨ub,uo,none⟩) um uc] w (dD o):=by
 subst eb
 have ev:0<=r/\r<=64:=by
  unfold rwD at hr;split at hr
  ·injection hr with e _;have:=Pn ((h - 1).toNat / 8);omega
  ·injection hr with _ e;cases e
 obtain⟨X,hX,ay,cj⟩:=ka00 w [E J p,E J h,E J k,E J n,F (some ⟨b,off,none⟩) um c] 39;have RW:=Zd (λW=>Pp h r 0 W hr);obtain⟨dm,df⟩:=kh2 cj ay;have di:Hid (∀ i (h:i<T.length),TxAt X b (off+i*3) T[i]):=λi hi=>TxAt.kept _ _ _ _ _ ay (cp i hi);have dh:Hid (∀ i (h:i<S.length),UndoAt X ub (uo+i) S[i]):=λi hi=>(cn i hi).kept ay;obtain⟨HT,HS,HZ,dq,HO⟩:=kh5 hT hS hz dc ho;clear cj ay cp cn hT hS hz dc ho hr;go_enter func75,ntmps75;go_wp2_with fail;rw[<-hX];clear hX;refine (RW _).mono ?_;rintro e w1 ⟨rfl,bo⟩;have da:=ZE bo dm;obtain⟨-,-,-,-,c4,cl⟩:=kc5 da;have bx:=Zd bo;clear bo da;go_wp2
 go_loopw [5,22] (λsv i wr=>∃ (j:Nat) (d:Int),j<=um/\sv = E J d/\i = E J j/\Hid (d=Wl r T S j)/\-(6000000000*(j:Int))<=d/\d<=64+6000000000*(j:Int)/\Hid (ZD X wr)) (λ_ i _=>um - (cK i).toNat)
 case atStart=>exact⟨0,r,aL _,rfl,rfl,(Zbk r T S).symm,by omega,by omega,bx⟩
 case round=>
  obtain⟨j,d,hj,rfl,rfl,A,d1,d2,au⟩:=hrel;clear c4 cl bx;by_cases cw:j<um
  ·have cu:j<T.length:=(by rw[Za HZ];exact cw);have ct:j<S.length:=(by rw[Za dq];exact cw);have z:=TxAt.kept _ _ _ _ _ au (di j cu);have cz:=(dh j ct).kept au;have bT:=HT T[j] (aQ _);have bS:=HS S[j] (aQ _);have ST:=Zd (Zbl r T S j cu ct);obtain⟨t,ht⟩:=ZF (T[j]);obtain⟨s,hs⟩:=ZF (S[j]);rw[ht] at z bT ST;rw[hs] at cz bS ST;obtain⟨t1,I,O⟩:=t;obtain⟨g0,⟨ai,ni,ci,g1,hI,_⟩,ao,no,co,g2,hO,_⟩:=z;obtain⟨sa,sn,sc,gs,hC,_⟩:=cz;simp only at g0 g1 g2 hI hO bT ST;obtain⟨Y,hY,aj,cm⟩:=ka00 wr [E J t1,F ai ni ci,F ao no co] 59;obtain⟨dn,dg,bd,av⟩:=kh4 cm (Zf au aj) (hC.later aj) (hO.later aj);have cd:=Ze aj gs;have gl:=aE _ _ gs;have dx:=aE _ _ cd;have bf:=Zd (λk=>Sb s k bS.2);have be:=Zd (λk=>Du O k bT.2);have ew:sn<=6:=(by rw[<-hC.1];exact bS.1);have eu:no<=6:=(by rw[<-hO.1];exact bT.1);have es:(j:Int)<(um:Int):=(by omega);clear aj cm hI hO hC ht hs bT bS;go_wp2_with fail;rw[<-hY];clear hY;go_wp2
   go_loopw [5,33] (λsv i w2=>∃ (k2:Nat) (d2:Int),k2<=sn/\sv = E J d2/\i = E J k2/\Hid (d2=d+Zp (s.take k2))/\Hid (ZD Y w2)) (λ_ i _=>sn - (cK i).toNat)
   case atStart=>exact⟨0,d,aL _,rfl,rfl,(by simp[Zp]:d=d+Zp (s.take 0)),(Below.refl _ _:ZD Y Y)⟩
   case round=>
    obtain⟨q,e,hq,rfl,rfl,D,HD⟩:=hrel;clear g0 g1 g2 gs cd gl dx;by_cases dz:q<sn
    ·have al:q<s.length:=(by rw[(Za bd).1];exact dz);obtain⟨b2,o2,rfl,_,ak⟩:=bd.2 (by omega);have z:=CoinAt.kept _ _ _ _ _ HD (ak q al);have b1:=bf q;have ds:=bf (q+1);have Q:=Pk s q al;obtain⟨y,hy⟩:=ZF (s[q]);rw[hy] at z Q;obtain⟨la,ln,lc,f0,f1,f2,f3,f4,f5,_,_⟩:=z.val;obtain⟨v,hv⟩:=ZF (cv y);rw[hv] at f2 Q;have hd:e=d+Zp (s.take q):=Za D;have A2:Hid (e+v=d+Zp (s.take (q+1))):=(by show _=_;rw[Q];omega);have bb:=Zd (Zf HD (Zh wr (cZ #[E J y.1,E J y.2.1,E J v,F la ln lc,E J (ch y),dD (cr y)] 124)));have ed:IntKind.i64.wrap (e+v)=e+v:=(by rw[bH];omega);clear z hy Q D HD hd b1 ds ak;go_wp2;go_roundw
     case rel=>exact⟨q+1,e+v,by omega,rfl,by go_num,A2,bb⟩
     case measure=>simp[cK];omega
    ·have e0:q=sn:=(by omega);subst e0
     have A2:Hid (e=d+Zp s):=by
      show _=_;rw[Za D,aV (by rw[(Za bd).1];exact aF _)]
     have b1:=bf q
     have ff:0<=e - d/\e - d<=6000000000:=by
      have:=Za D;omega
     have hh:=ZE HD dn;obtain⟨-,-,f2,hl⟩:=kc3 hh;clear D hh b1;go_wp2
     go_loopw [5,46] (λsv i w3=>∃ (k3:Nat) (d3:Int),k3<=no/\sv = E J d3/\i = E J k3/\Hid (d3=e - Y6 (O.take k3))/\Hid (ZD Y w3)) (λ_ i _=>no - (cK i).toNat)
     case atStart=>exact⟨0,e,aL _,rfl,rfl,(by simp[Y6]:e=e - Y6 (O.take 0)),HD⟩
     case round=>
      obtain⟨u,g,hu,rfl,rfl,G,HG⟩:=hrel;clear f2 hl HD;by_cases ea:u<no
      ·have al:u<O.length:=(by rw[(Za av).1];exact ea);obtain⟨b3,o3,rfl,_,ak⟩:=av.2 (by omega);have z:=OutAt.kept _ _ _ _ _ HG (ak u al);have x1:=be u;have x2:=be (u+1);have Q:=Ni O u al;obtain⟨y,hy⟩:=ZF (O[u]);rw[hy] at z Q;obtain⟨q1,q2⟩:=y;obtain⟨f0,la,ln,lc,f1,_,_⟩:=z;simp only at f0 f1 Q;have hd:g=e - Y6 (O.take u):=Za G;have A3:Hid (g - q1=e - Y6 (O.take (u+1))):=(by show _=_;rw[Q];omega);have bb:=Zd (Zf HG (Zh wr (cZ #[E J q1,F la ln lc] 122)));have ed:IntKind.i64.wrap (g - q1)=g - q1:=(by rw[bH];omega);clear hy Q G HG hd x1 x2 ak;go_wp2;go_roundw
       case rel=>exact⟨u+1,g - q1,by omega,rfl,by go_num,A3,bb⟩
       case measure=>simp[cK];omega
      ·have e1:u=no:=(by omega);subst e1
       have hd:g=e - Y6 O:=by
        have:=Za G;rw[aV (by rw[(Za av).1];exact aF _)] at this;exact this
       have x1:=be u;rw[aV (by rw[(Za av).1];exact aF _)] at x1
       have A4:Hid (g=Wl r T S (j+1)):=by
        show _=_;rw[Za ST,<-Za A,hd,Za A2]
       have ar:=Zd (Zf dg HG);have y1 : -(6000000000*((j+1:Nat):Int))<=g:=(by omega);have y2:g<=64+6000000000*((j+1:Nat):Int):=(by omega);clear hd x1 G HG A A2 ST;go_wp2;go_roundw
       case rel=>exact⟨j+1,g,by omega,rfl,by go_num,A4,y1,y2,ar⟩
       case measure=>simp[cK];omega
  ·have e0:j=um:=(by omega);subst e0;have ar:=Zd (Zf df au);have ho:=Za HO;rw[<-Za A] at ho;clear A;by_cases hp:0<=d
   ·obtain rfl:true=o:=(by rw[<-ho,decide_eq_true hp]);clear ho;go_wp2;go_ret;exact⟨rfl,Za ar⟩
   ·obtain rfl:false=o:=(by rw[<-ho,decide_eq_false hp]);clear ho;go_wp2;go_ret;exact⟨rfl,Za ar⟩
theorem F9(a n c L)(h:Int)(ai ao ni ci no co I O)(x:Int)(w:World)(hL:CoinsAt w a n L)(hI:InsAt w ai ni I)(hO:OutsAt w ao no O)(sI:SlOk ai ni ci)(hx:Vp L (h,I,O)=x) :
  ZH 202 #[F a n c,.agg #[E J h,F ai ni ci,F ao no co]] w (E J x):=by
 obtain⟨X0,aa,Q,ak⟩:=ka00 w [E J h,F ai ni ci,F ao no co] 59;obtain⟨y,hy⟩:=ZF (Z4 L);have C1:=Zd (Vi a n c L y X0 (hL.later Q) hy);have TX:=Zd (λw' (hb:ZD X0 w')=>Vw h ai ao ni ci no co I O w' ((hI.later Q).later hb) ((hO.later Q).later hb) sI);obtain⟨au,ad⟩:=kh2 ak Q;unfold Vp at hx;rw[hy] at hx;clear hL hI hO sI ak Q hy;by_cases h0:y=0
 ·subst h0;rw[if_neg (by decide)] at hx;rw[hx] at TX;clear hx;go_enter func202,ntmps202;go_wp2_with fail;rw[<-aa];clear aa;refine C1.mono ?_;rintro e w2 ⟨rfl,z⟩;have hh:=ZE z au;obtain⟨c0,c1,c2,hl⟩:=kc3 hh;obtain⟨C2,ab⟩:=kh2 (TX w2 z) (Zf ad z);clear hh z;go_wp2_with fail;refine C2.mono ?_;rintro e w3 ⟨rfl,am⟩;have ar:=Zd (Zf ab am);clear am;go_wp2;go_ret;exact⟨rfl,Za ar⟩
 ·rw[if_pos h0] at hx;subst hx;have g:(y != 0)=true:=by simp[h0]
  clear h0;go_enter func202,ntmps202;go_wp2_with fail;rw[<-aa];clear aa;refine C1.mono ?_;rintro e w2 ⟨rfl,z⟩;have ab:=Zd (Zf ad z);clear z;go_wp2;go_ret;exact⟨rfl,Za ab⟩
theorem Na(a n c L)(h:Int)(ai ao ni ci no co I O)(name ht:Int)(x:Int)(w:World)(hL:CoinsAt w a n L)(hI:InsAt w ai ni I)(hO:OutsAt w ao no O)(sI:SlOk ai ni ci)(hx:Wo L (h,I,O) name ht=x) :
  ZH 144 #[F a n c,.agg #[E J h,F ai ni ci,F ao no co],E J name,E J ht] w (E J x):=by
 obtain⟨X0,Q,aj,au⟩:=ka00 w [E J h,F ai ni ci,F ao no co] 59;obtain⟨y,hy⟩:=ZF (Vp L (h,I,O));have C1:=Zd (F9 a n c L h ai ao ni ci no co I O y X0 (hL.later aj) (hI.later aj) (hO.later aj) sI hy);have aw:=hI.1;obtain⟨x0,x1,x2,-⟩:=kc3 au;obtain⟨an,af⟩:=kh2 au aj;unfold Wo at hx;rw[hy] at hx;have hR:isR (h,I,O)=decide (ni=0):=by unfold isR;rw[<-aw]
 rw[hR] at hx;clear hL hI hO sI au aj hy hR aw;by_cases h0:y=0
 ·subst h0;rw[if_neg (by decide)] at hx;cases hN:okN name with
  | false=>
   rw[hN,Bool.false_and,if_pos rfl] at hx;subst hx;have W1:=Zd (λw=>Y1 name 1 120 false w (by rw[<-hN];rfl));clear hN;go_enter func144,ntmps144;go_wp2_with fail;rw[<-Q];clear Q;refine C1.mono ?_;rintro e w2 ⟨rfl,z⟩;have aa:=Zd (Zf af z);clear z;go_wp2_with fail;refine (W1 _).mono ?_;rintro e w3 ⟨rfl,rfl⟩;go_wp2;go_ret;exact⟨rfl,Za aa⟩
  | true=>
   rw[hN,Bool.true_and] at hx;have W1:=Zd (λw=>Y1 name 1 120 true w (by rw[<-hN];rfl));cases hH:okH ht with
   | false=>
    rw[hH,if_pos rfl] at hx;subst hx;have W2:=Zd (λw=>Ug ht false w hH);clear hN hH;go_enter func144,ntmps144;go_wp2_with fail;rw[<-Q];clear Q;refine C1.mono ?_;rintro e w2 ⟨rfl,z⟩;have aa:=Zd (Zf af z);clear z;go_wp2_with fail;refine (W1 _).mono ?_;rintro e w3 ⟨rfl,rfl⟩;go_wp2_with fail;refine (W2 _).mono ?_;rintro e w3 ⟨rfl,rfl⟩;go_wp2;go_ret;exact⟨rfl,Za aa⟩
   | true=>
    rw[hH,if_neg (by decide)] at hx;have W2:=Zd (λw=>Ug ht true w hH);clear hN hH
    have bi:∀ (r:Bool) (q:Bool) (hr:decide (ni=0)=r) (hq:(h != ht)=q) (hz:(if r=true/\q=true then (4:Int) else 0)=x),ZH 144 #[F a n c,.agg #[E J h,F ai ni ci,F ao no co],E J name,E J ht] w (E J x):=by
     intro r q hr hq hz;have IR:=Zd (λw=>Ra h ai ao ni ci no co r w hr);cases r with
     | false=>
      rw[if_neg (by simp)] at hz;subst hz;clear hx hr;go_enter func144,ntmps144;go_wp2_with fail;rw[<-Q];clear Q;refine C1.mono ?_;rintro e w2 ⟨rfl,z⟩;have hh:=ZE z an;obtain⟨c0,c1,c2,hl⟩:=kc3 hh;have aa:=Zd (Zf af z);clear z hh;go_wp2_with fail;refine (W1 _).mono ?_;rintro e w3 ⟨rfl,rfl⟩;go_wp2_with fail;refine (W2 _).mono ?_;rintro e w3 ⟨rfl,rfl⟩;go_wp2_with fail;refine (IR _).mono ?_;rintro e w3 ⟨rfl,bb⟩;have bf:=Zd (Zf aa bb);clear bb;go_wp2;go_ret;exact⟨rfl,Za bf⟩
     | true=>
      cases q with
      | false=>
       rw[if_neg (by simp)] at hz;subst hz;clear hx hr;go_enter func144,ntmps144;go_wp2_with fail;rw[<-Q];clear Q;refine C1.mono ?_;rintro e w2 ⟨rfl,z⟩;have hh:=ZE z an;obtain⟨c0,c1,c2,hl⟩:=kc3 hh;obtain⟨HH,aa⟩:=kh2 hh (Zf af z);clear z hh;go_wp2_with fail;refine (W1 _).mono ?_;rintro e w3 ⟨rfl,rfl⟩;go_wp2_with fail;refine (W2 _).mono ?_;rintro e w3 ⟨rfl,rfl⟩;go_wp2_with fail;refine (IR _).mono ?_;rintro e w4 ⟨rfl,ad⟩;have d0:=Ze ad c0;have bo:=aE _ _ d0;have am:=Zd (Zf aa ad);clear ad c0 c1 c2;go_wp2;go_ret;exact⟨rfl,Za am⟩
      | true=>
       rw[if_pos ⟨rfl,rfl⟩] at hz;subst hz;clear hx hr;go_enter func144,ntmps144;go_wp2_with fail;rw[<-Q];clear Q;refine C1.mono ?_;rintro e w2 ⟨rfl,z⟩;have hh:=ZE z an;obtain⟨c0,c1,c2,hl⟩:=kc3 hh;obtain⟨HH,aa⟩:=kh2 hh (Zf af z);clear z hh;go_wp2_with fail;refine (W1 _).mono ?_;rintro e w3 ⟨rfl,rfl⟩;go_wp2_with fail;refine (W2 _).mono ?_;rintro e w3 ⟨rfl,rfl⟩;go_wp2_with fail;refine (IR _).mono ?_;rintro e w4 ⟨rfl,ad⟩;have d0:=Ze ad c0;have bo:=aE _ _ d0;have am:=Zd (Zf aa ad);clear ad c0 c1 c2;go_wp2;go_ret;exact⟨rfl,Za am⟩
    refine bi (decide (ni=0)) (h != ht) rfl rfl ?_;rw[<-hx];by_cases e1:ni=0 <;> by_cases e2:h=ht <;> simp[e1,e2]
 ·rw[if_pos h0] at hx;subst hx;have g:(y != 0)=true:=by simp[h0]
  clear h0;go_enter func144,ntmps144;go_wp2_with fail;rw[<-Q];clear Q;refine C1.mono ?_;rintro e w2 ⟨rfl,z⟩;have aa:=Zd (Zf af z);clear z;go_wp2;go_ret;exact⟨rfl,Za aa⟩
theorem Zdo:∀ (l:List Int) (s:Int),(sm s l).2=0->∀ x∈l,0<=x/\x<=1000000000
 | [],_,_=>by simp
 | y :: r,s,h=>by
  intro x hx;unfold sm at h;split at h
  ·rename_i z;split at h
   ·rcases aU.1 hx with rfl|hx
    ·exact z
    ·exact Zdo r _ h x hx
   ·cases h
  ·cases h
theorem U7{t:TxD}(h:Zu t=0):t.2.1.length<=6/\t.2.2.length<=6/\0<t.2.2.length/\Fo t=true/\Ya [] t.2.1=0/\Yi t.2.2=0/\(sm 0 (t.2.2.map (·.1))).2=0:=by
 unfold Zu at h;split at h
 ·cases h
 rename_i h1;split at h
 ·cases h
 rename_i h2;split at h
 ·cases h
 rename_i h3;split at h
 ·rename_i h4;exact absurd h h4
 rename_i h4;unfold Yq at h;split at h
 ·rename_i h5;exact⟨by omega,by omega,by omega,by simpa using h3,by simpa using h4,h5,h⟩
 ·rename_i h5;exact absurd h h5
theorem Zdx{t:TxD}(h:Zu t=0):∀ o∈t.2.2,0<=o.1/\o.1<=1000000000:=λo z=>
 Zdo _ 0 (U7 h).2.2.2.2.2.2 o.1 (List.mem_map_of_mem z)
theorem En{L t}(h:Vp L t=0):Ys L/\Zu t=0:=by
 unfold Vp at h;split at h
 ·rename_i h1;exact absurd h h1
 ·rename_i h1;exact⟨(Z6 L).1 (by simpa using h1),h⟩
theorem Wk{L}{t:TxD}{name h:Int}(q:Wo L t name h=0):Ys L/\Zu t=0/\okN name=true/\okH h=true/\(t.2.1.length=0->t.1=h):=by
 unfold Wo at q;split at q
 ·rename_i h1;exact absurd q h1
 rename_i h1;split at q
 ·cases q
 rename_i h2;split at q
 ·cases q
 rename_i h3;obtain⟨z,Q⟩:=En (by simpa using h1);rw[Bool.not_eq_false,Bool.and_eq_true] at h2;refine⟨z,Q,h2.1,h2.2,λe=>?_⟩;refine Decidable.byContradiction λn=>h3 ⟨by unfold isR;exact decide_eq_true e,n⟩
theorem Zmo{L}{t:TxD}{name h x1 x2 x3 x4 x5:Int}{Q M2 z}(h1:Wo L t name h=x1)(h2:Zr h t.2.1 [] L=(x2,Q,M2))(h3:Mw Q t=x3)(h4:Z8 name h (isR t) 0 t.2.2 M2=(x4,z))(h5:Z4 z=x5) :
  apD L t name h=if x1≠0 then (x1,[],[]) else if x2≠0 then (x2,[],[]) else if x3≠0 then (x3,[],[]) else if x4≠0 then (x4,[],[]) else if x5≠0 then (x5,[],[]) else (0,z,Q):=by
 unfold apD;simp only[h1,h2,h3,h4,h5]
theorem Zqu{L S:List Zj}{t:TxD}{name Q x2 x3 x4:Int}{M2 z}(h1:Vp L t=Q)(h2:Vq name 0 t.2.2 L=(x2,M2))(h3:Uw t.2.1 S M2=(x3,z))(h4:Z4 z=x4) :
  rvD L t name S=if Q≠0 then (Q,[]) else if S.length≠t.2.1.length then (4,[]) else if x2≠0 then (x2,[]) else if x3≠0 then (x3,[]) else if x4≠0 then (x4,[]) else (0,z):=by
 unfold rvD;simp only[h1,h2,h3,h4]
theorem Pc{l:List (Int×Int)}(h:chk l=0):l.length<=16:=by
 unfold chk at h;split at h
 ·cases h
 ·omega
