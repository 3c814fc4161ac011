import Derived.Test.YtpikejjiignchaaGreatDoorH
import Derived.Test.YtpikejjiignchaaGreatDoorG22
import Derived.Test.YtpikejjiignchaaGreatDoorG23
open Go.Proofs.Tryz
open Go renaming lt_of_block->aA,bodyPost_ret->aR
open Go.Ending renaming returned->dX
open Go.Exit renaming inBlock->aO
open Go.IntKind renaming wrap_i64->bF,i64->J
open Go.Obj renaming cells->dW
open Go.Value renaming int->E,slice->F,tuple->dY,bool->eA
open Go.World renaming block_lt_of_cell?->aC,frozen?_of_block->bX
open List renaming mem_cons_self->dJ,take_succ_cons->dK,take_of_length_le->aY,take_succ_eq_append_getElem->aM,getElem_mem->bK
open Nat renaming zero_le->aP,le_refl->aE,le_succ->bZ
set_option maxHeartbeats 12800000
set_option maxRecDepth 10000
namespace Go.Proofs.YtpikejjiignchaaGreatDoor
open Go.RowKit
theorem L0:∀ (L:List Zf) (k:Nat),(∀ c∈L,0<=cv c/\cv c<=1000000000)->0<=Yg (L.take k)/\Yg (L.take k)<=1000000000*(k:Int)
 | [],k,_=>by simp[Yg];omega
 | c :: r,0,_=>by simp[Yg]
 | c :: r,k+1,h=>by
  have h1:=h c (dJ ..);have h2:=L0 r k (λx z=>h x (List.mem_cons_of_mem _ z));rw[dK,Vb];omega
theorem Lz:∀ (L:List Ya) (k:Nat),(∀ c∈L,0<=c.1/\c.1<=1000000000)->0<=Ys (L.take k)/\Ys (L.take k)<=1000000000*(k:Int)
 | [],k,_=>by simp[Ys];omega
 | c :: r,0,_=>by simp[Ys]
 | c :: r,k+1,h=>by
  have h1:=h c (dJ ..);have h2:=Lz r k (λx z=>h x (List.mem_cons_of_mem _ z));rw[dK];have e:Ys (c :: r.take k)=c.1+Ys (r.take k):=by simp[Ys]
  rw[e];omega
theorem Zit(sa)(ns cs:Nat)(S)(ht:Int)(ai ao)(ni ci no co:Nat)(cy)(x:Int)(w:World)(cw:ns<=6)(cu:no<=6)(hS:CoinsAt w sa ns S)(hO:OutsAt w ao no cy)
  (hs:∀ c∈S,0<=cv c/\cv c<=1000000000) (ho:∀ c∈cy,0<=c.1/\c.1<=1000000000) (hx:(if Yg S - Ys cy<0/\decide (ni=0)=false then 9 else 0)=x) :
  ZH 142 #[F sa ns cs,.agg #[E J ht,F ai ni ci,F ao no co]] w (E J x):=by
 obtain⟨X0,aq⟩:=ZG (w.alloc (dW #[E J ht,F ai ni ci,F ao no co] 52));have ar:ZD w X0:=by rw[aq];exact Zg _ _
 have bo:X0.heap[w.heap.size]? = some (dW [E J ht,F ai ni ci,F ao no co].toArray 52 (0,0)):=by rw[aq];exact Zs _ _ _ _ _
 have az:=Zb (λk=>L0 S k hs);have bi:=Zb (λk=>Lz cy k ho);have HS:=Zb (hS.later ar);have HO:=Zb (hO.later ar);have bn:=Zb hS.1;have bk:=Zb hO.1;have HX:=Zb hx;have bj:=Zb bo;have bv:=Zb ar;clear hS hO hs ho hx bo ar;go_enter func142,ntmps142;go_wp2;rw[<-aq];clear aq
 go_loopw [5,12] (λsv i wr=>∃ (k:Nat) (s:Int),k<=ns/\sv = E J s/\i = E J k/\Hid (s=Yg (S.take k))/\Hid (ZD X0 wr)) (λ_ i _=>ns - (intOf i).toNat)
 case atStart=>exact⟨0,0,aP _,rfl,rfl,rfl,Below.refl _ _⟩
 case round=>
  obtain⟨k,s,hk,rfl,rfl,A,HB⟩:=hrel;by_cases be:k<ns
  ·have aj:k<S.length:=(by rw[Za bn];exact be);obtain⟨b,off,rfl,cb,bd⟩:=HS.2 (by omega);have ae:=CoinAt.kept _ _ _ _ _ HB (bd k aj);have b1:=az k;have b2:=az (k+1);have O:=Hc S k aj;obtain⟨c,hc⟩:=ZF (S[k]);rw[hc] at ae O;obtain⟨la,ln,lc,g0,g1,g2,g3,g4,g5,_,_⟩:=ae.val;obtain⟨v,hv⟩:=ZF (cv c);rw[hv] at g2 O;rw[<-Za A] at b1 O;rw[O] at b2;have A2:Hid (s+v=Yg (S.take (k+1))):=O.symm;have aw:=Zb (Ze HB (Zg wr (dW #[E J c.1,E J c.2.1,E J v,F la ln lc,E J (ch c),eA (cr c)] 103)));have cd:IntKind.i64.wrap (s+v)=s+v:=(by rw[bF];omega);clear ae hc O A;go_wp2;go_roundw
   case rel=>exact⟨k+1,s+v,by omega,rfl,by go_num,A2,aw⟩
   case measure=>simp[intOf];omega
  ·have e:k=ns:=(by omega);subst e
   have A2:Hid (s=Yg S):=by
    show _=_;rw[Za A,aY (by rw[Za bn];exact aE _)]
   have b1:=az k;rw[<-Za A] at b1;have hh:=ZE HB bj;have c2:=Zd hh 2 _ rfl;have hl:=aA hh;clear A hh;go_wp2
   go_loopw [5,25] (λsv i ce=>∃ (j:Nat) (d:Int),j<=no/\sv = E J d/\i = E J j/\Hid (d=s - Ys (cy.take j))/\Hid (ZD X0 ce)) (λ_ i _=>no - (intOf i).toNat)
   case atStart=>exact⟨0,s,aP _,rfl,rfl,(by simp[Ys]:s=s - Ys (cy.take 0)),HB⟩
   case round=>
    obtain⟨j,d,hj,rfl,rfl,D,HD⟩:=hrel;have ah:=Za HD;by_cases be:j<no
    ·have aj:j<cy.length:=(by rw[Za bk];exact be);obtain⟨b,off,rfl,cb,bd⟩:=HO.2 (by omega);have ae:=OutAt.kept _ _ _ _ _ ah (bd j aj);have d1:=bi j;have d2:=bi (j+1);have O:=Tz cy j aj;obtain⟨o,hc⟩:=ZF (cy[j]);rw[hc] at ae O;obtain⟨q1,q2⟩:=o;obtain⟨g0,la,ln,lc,g1,_,_⟩:=ae;simp only at g0 g1 O;have hd:d=s - Ys (cy.take j):=Za D;have A3:Hid (d - q1=s - Ys (cy.take (j+1))):=(by show _=_;rw[O];omega);have aw:=Zb (Ze HD (Zg wr (dW #[E J q1,F la ln lc] 101)));have cd:IntKind.i64.wrap (d - q1)=d - q1:=(by rw[bF];omega);clear hc O D hd d1 d2 ah;go_wp2;go_roundw
     case rel=>exact⟨j+1,d - q1,by omega,rfl,by go_num,A3,aw⟩
     case measure=>simp[intOf];omega
    ·have e:j=no:=(by omega);subst e
     have hd:d=Yg S - Ys cy:=by
      have:=Za D;rw[aY (by rw[Za bk];exact aE _),Za A2] at this;exact this
     have hx:=Za HX;rw[<-hd] at hx;have hh:=ZE ah bj;have e0:=Zd hh 0 _ rfl;have e1:=Zd hh 1 _ rfl;have e2:=Zd hh 2 _ rfl;have ct:=aA hh;have ay:=Zb (Ze bv ah);have IR:=Zb (λw=>Tl ht ai ao ni ci j co (decide (ni=0)) w rfl);clear hh ah D hd;by_cases bq:d<0
     ·cases hr:decide (ni=0) with
      | true=>
       have R:Hid (x=0):=(by show _=_;rw[<-hx,if_neg (by rw[hr];simp)]);rw[hr] at IR;clear hx hr;go_wp2_with fail;refine (IR _).mono ?_;rintro e w3 ⟨rfl,ag⟩;have ax:=Zb (Ze ay ag);clear ag;go_wp2;go_ret;exact⟨by rw[Za R];rfl,Za ax⟩
      | false=>
       have R:Hid (x=9):=(by show _=_;rw[<-hx,if_pos ⟨bq,hr⟩]);rw[hr] at IR;clear hx hr;go_wp2_with fail;refine (IR _).mono ?_;rintro e w3 ⟨rfl,ag⟩;have ax:=Zb (Ze ay ag);clear ag;go_wp2;go_ret;exact⟨by rw[Za R];rfl,Za ax⟩
     ·have R:Hid (x=0):=(by show _=_;rw[<-hx,if_neg (λq=>bq q.1)]);clear hx;go_wp2;go_ret;exact⟨by rw[Za R];rfl,Za ay⟩
def UndoAt(w:World)(b o:Nat)(s:List Zf):Prop:=∃ a n c,w.cell? ⟨b,o,none⟩=some (F a n c)/\CoinsAt w a n s/\SlOk a n c
theorem UndoAt.kept{w w':World}{b o s}(z:ZD w w')(h:UndoAt w b o s):UndoAt w' b o s:=by
 obtain⟨a,n,c,h1,h2,h3⟩:=h;exact⟨a,n,c,Zc z h1,h2.later z,h3⟩
def Xk(r:Int)(T:List TxD)(S:List (List Zf))(k:Nat):Int:=r+Yg (S.take k).flatten - Ys ((T.take k).map (·.2.2)).flatten
theorem Jc(L M):Ys (L++M)=Ys L+Ys M:=by simp[Ys]
theorem Nx(r:Int)(T)(S):Xk r T S 0=r:=by simp[Xk,Yg,Ys]
theorem Pk(r:Int)(T:List TxD)(S:List (List Zf))(k:Nat)(O:k<T.length)(z:k<S.length):Xk r T S (k+1)=Xk r T S k+Yg S[k] - Ys T[k].2.2:=by
 unfold Xk;rw[aM O,aM z,List.map_append,List.flatten_append,List.flatten_append,Vq,Jc];simp;omega
theorem Zei(p h k n:Int)(b off m c:Nat)(T:List TxD)(ub uo um uc:Nat)(S:List (List Zf))(r:Int)(o:Bool)(w:World)(hz:T.length=m)(hm:m<=4)(cl:∀ i (h:i<T.length),TxAt w b (off+i*3) T[i])(cx:S.length=m)(ea:um=m)
  (cj:∀ i (h:i<S.length),UndoAt w ub (uo+i) S[i]) (hT:∀ t∈T,t.2.2.length<=6/\∀ x∈t.2.2,0<=x.1/\x.1<=1000000000) (hS:∀ s∈S,s.length<=6/\∀ x∈s,0<=cv x/\cv x<=1000000000) (hr:rwD h=(r,0)) (ho:decide (0<=Xk r T S m)=o) :
  ZH 122 #[.agg #[E J p,E J h,E J k,E J n,F (some ⟨b,off,none⟩) m c],F (some ⟨ub,uo,none⟩) um uc] w (eA o):=by
 subst ea
 have es:0<=r/\r<=64:=by
  unfold rwD at hr;split at hr
  ·injection hr with e _;have:=He ((h - 1).toNat / 8);omega
  ·injection hr with _ e;cases e
 obtain⟨X,hX⟩:=ZG (w.alloc (dW #[E J p,E J h,E J k,E J n,F (some ⟨b,off,none⟩) um c] 68));have ax:ZD w X:=by rw[hX];exact Zg _ _
 have cg:X.heap[w.heap.size]? = some (dW [E J p,E J h,E J k,E J n,F (some ⟨b,off,none⟩) um c].toArray 68 (0,0)):=by rw[hX];exact Z8 _ _ _ _ _ _ _
 have RW:=Zb (λW=>Zhh h r 0 W hr);have dl:=Zb cg;have dd:=Zb ax;have dg:Hid (∀ i (h:i<T.length),TxAt X b (off+i*3) T[i]):=λi hi=>TxAt.kept _ _ _ _ _ ax (cl i hi);have df:Hid (∀ i (h:i<S.length),UndoAt X ub (uo+i) S[i]):=λi hi=>(cj i hi).kept ax;have HT:=Zb hT;have HS:=Zb hS;have HZ:=Zb hz;have dp:=Zb cx;have HO:=Zb ho;clear cg ax cl cj hT hS hz cx ho hr;go_enter func122,ntmps122;go_wp2_with fail;rw[<-hX];clear hX;refine (RW _).mono ?_;rintro e w1 ⟨rfl,bj⟩;have bn:=ZE bj dl;have c4:=Zd bn 4 _ rfl;have fg:=aA bn;have dc:=Zb bj;clear bj bn;go_wp2
 go_loopw [5,22] (λsv i wr=>∃ (j:Nat) (d:Int),j<=um/\sv = E J d/\i = E J j/\Hid (d=Xk r T S j)/\-(6000000000*(j:Int))<=d/\d<=64+6000000000*(j:Int)/\Hid (ZD X wr)) (λ_ i _=>um - (intOf i).toNat)
 case atStart=>exact⟨0,r,aP _,rfl,rfl,(Nx r T S).symm,by omega,by omega,dc⟩
 case round=>
  obtain⟨j,d,hj,rfl,rfl,A,d1,d2,an⟩:=hrel;clear c4 fg;by_cases co:j<um
  ·have cn:j<T.length:=(by rw[Za HZ];exact co);have cm:j<S.length:=(by rw[Za dp];exact co);have O:=TxAt.kept _ _ _ _ _ an (dg j cn);have cu:=(df j cm).kept an;have bT:=HT T[j] (bK _);have bS:=HS S[j] (bK _);have ST:=Zb (Pk r T S j cn cm);obtain⟨t,ht⟩:=ZF (T[j]);obtain⟨s,hs⟩:=ZF (S[j]);rw[ht] at O bT ST;rw[hs] at cu bS ST;obtain⟨t1,I,fc⟩:=t;obtain⟨g0,⟨fd,ni,fe,g1,hI,_⟩,ao,no,ff,g2,hO,_⟩:=O;obtain⟨sa,sn,sc,gs,hC,_⟩:=cu;simp only at g0 g1 g2 hI hO bT ST;obtain⟨Y,hY⟩:=ZG (wr.alloc (dW #[E J t1,F fd ni fe,F ao no ff] 52));have ag:ZD wr Y:=(by rw[hY];exact Zg _ _);have ci:Y.heap[wr.heap.size]? = some (dW [E J t1,F fd ni fe,F ao no ff].toArray 52 (0,0)):=(by rw[hY];exact Zs _ _ _ _ _);have dm:=Zb ci;have de:=Zb (Ze an ag);have ba:=Zb (hC.later ag);have ap:=Zb (hO.later ag);have cc:=Zc ag gs;have gl:=aC _ _ gs;have dw:=aC _ _ cc;have bd:=Zb (λk=>L0 s k bS.2);have bc:=Zb (λk=>Lz fc k bT.2);have et:sn<=6:=(by rw[<-hC.1];exact bS.1);have eq:no<=6:=(by rw[<-hO.1];exact bT.1);have eo:(j:Int)<(um:Int):=(by omega);clear ag ci hI hO hC ht hs bT bS;go_wp2_with fail;rw[<-hY];clear hY;go_wp2
   go_loopw [5,33] (λsv i w2=>∃ (k2:Nat) (d2:Int),k2<=sn/\sv = E J d2/\i = E J k2/\Hid (d2=d+Yg (s.take k2))/\Hid (ZD Y w2)) (λ_ i _=>sn - (intOf i).toNat)
   case atStart=>exact⟨0,d,aP _,rfl,rfl,(by simp[Yg]:d=d+Yg (s.take 0)),(Below.refl _ _:ZD Y Y)⟩
   case round=>
    obtain⟨q,e,hq,rfl,rfl,D,HD⟩:=hrel;clear g0 g1 g2 gs cc gl dw;by_cases dy:q<sn
    ·have ai:q<s.length:=(by rw[(Za ba).1];exact dy);obtain⟨b2,o2,rfl,_,ah⟩:=ba.2 (by omega);have O:=CoinAt.kept _ _ _ _ _ HD (ah q ai);have b1:=bd q;have dr:=bd (q+1);have aa:=Hc s q ai;obtain⟨y,hy⟩:=ZF (s[q]);rw[hy] at O aa;obtain⟨la,ln,lc,f0,f1,f2,f3,f4,f5,_,_⟩:=O.val;obtain⟨v,hv⟩:=ZF (cv y);rw[hv] at f2 aa;have hd:e=d+Yg (s.take q):=Za D;have A2:Hid (e+v=d+Yg (s.take (q+1))):=(by show _=_;rw[aa];omega);have az:=Zb (Ze HD (Zg wr (dW #[E J y.1,E J y.2.1,E J v,F la ln lc,E J (ch y),eA (cr y)] 103)));have ec:IntKind.i64.wrap (e+v)=e+v:=(by rw[bF];omega);clear O hy aa D hd b1 dr ah;go_wp2;go_roundw
     case rel=>exact⟨q+1,e+v,by omega,rfl,by go_num,A2,az⟩
     case measure=>simp[intOf];omega
    ·have e0:q=sn:=(by omega);subst e0
     have A2:Hid (e=d+Yg s):=by
      show _=_;rw[Za D,aY (by rw[(Za ba).1];exact aE _)]
     have b1:=bd q
     have eb:0<=e - d/\e - d<=6000000000:=by
      have:=Za D;omega
     have hh:=ZE HD dm;have f2:=Zd hh 2 _ rfl;have hl:=aA hh;clear D hh b1;go_wp2
     go_loopw [5,46] (λsv i w3=>∃ (k3:Nat) (d3:Int),k3<=no/\sv = E J d3/\i = E J k3/\Hid (d3=e - Ys (fc.take k3))/\Hid (ZD Y w3)) (λ_ i _=>no - (intOf i).toNat)
     case atStart=>exact⟨0,e,aP _,rfl,rfl,(by simp[Ys]:e=e - Ys (fc.take 0)),HD⟩
     case round=>
      obtain⟨u,g,hu,rfl,rfl,G,HG⟩:=hrel;clear f2 hl;by_cases dz:u<no
      ·have ai:u<fc.length:=(by rw[(Za ap).1];exact dz);obtain⟨b3,o3,rfl,_,ah⟩:=ap.2 (by omega);have O:=OutAt.kept _ _ _ _ _ HG (ah u ai);have x1:=bc u;have x2:=bc (u+1);have aa:=Tz fc u ai;obtain⟨y,hy⟩:=ZF (fc[u]);rw[hy] at O aa;obtain⟨q1,q2⟩:=y;obtain⟨f0,la,ln,lc,f1,_,_⟩:=O;simp only at f0 f1 aa;have hd:g=e - Ys (fc.take u):=Za G;have A3:Hid (g - q1=e - Ys (fc.take (u+1))):=(by show _=_;rw[aa];omega);have az:=Zb (Ze HG (Zg wr (dW #[E J q1,F la ln lc] 101)));have ec:IntKind.i64.wrap (g - q1)=g - q1:=(by rw[bF];omega);clear hy aa G hd x1 x2 ah;go_wp2;go_roundw
       case rel=>exact⟨u+1,g - q1,by omega,rfl,by go_num,A3,az⟩
       case measure=>simp[intOf];omega
      ·have e1:u=no:=(by omega);subst e1
       have hd:g=e - Ys fc:=by
        have:=Za G;rw[aY (by rw[(Za ap).1];exact aE _)] at this;exact this
       have x1:=bc u;rw[aY (by rw[(Za ap).1];exact aE _)] at x1
       have A4:Hid (g=Xk r T S (j+1)):=by
        show _=_;rw[Za ST,<-Za A,hd,Za A2]
       have am:=Zb (Ze de HG);have y1 : -(6000000000*((j+1:Nat):Int))<=g:=(by omega);have y2:g<=64+6000000000*((j+1:Nat):Int):=(by omega);clear hd x1 G A;go_wp2;go_roundw
       case rel=>exact⟨j+1,g,by omega,rfl,by go_num,A4,y1,y2,am⟩
       case measure=>simp[intOf];omega
  ·have e0:j=um:=(by omega);subst e0;have am:=Zb (Ze dd an);have ho:=Za HO;rw[<-Za A] at ho;clear A;by_cases hp:0<=d
   ·obtain rfl:true=o:=(by rw[<-ho,decide_eq_true hp]);clear ho;go_wp2;go_ret;exact⟨rfl,Za am⟩
   ·obtain rfl:false=o:=(by rw[<-ho,decide_eq_false hp]);clear ho;go_wp2;go_ret;exact⟨rfl,Za am⟩
theorem G5(a n c L)(h:Int)(bc ao ni ci no co I bd)(x:Int)(w:World)(hL:CoinsAt w a n L)(hI:InsAt w bc ni I)(hO:OutsAt w ao no bd)(sI:SlOk bc ni ci)(O:Wm L (h,I,bd)=x) :
  ZH 161 #[F a n c,.agg #[E J h,F bc ni ci,F ao no co]] w (E J x):=by
 obtain⟨X0,ab⟩:=ZG (w.alloc (dW #[E J h,F bc ni ci,F ao no co] 52));have af:ZD w X0:=by rw[ab];exact Zg _ _
 have ar:X0.heap[w.heap.size]? = some (dW [E J h,F bc ni ci,F ao no co].toArray 52 (0,0)):=by rw[ab];exact Zs _ _ _ _ _
 obtain⟨y,hy⟩:=ZF (Zo L);have C1:=Zb (Rc a n c L y X0 (hL.later af) hy);have TX:=Zb (λw' (hb:ZD X0 w')=>R9 h bc ao ni ci no co I bd w' ((hI.later af).later hb) ((hO.later af).later hb) sI);have az:=Zb ar;have am:=Zb af;unfold Wm at O;rw[hy] at O;clear hL hI hO sI ar af hy;by_cases h0:y=0
 ·subst h0;rw[if_neg (by decide)] at O;rw[O] at TX;clear O;go_enter func161,ntmps161;go_wp2_with fail;rw[<-ab];clear ab;refine C1.mono ?_;rintro e w2 ⟨rfl,z⟩;have hh:=ZE z az;have c0:=Zd hh 0 _ rfl;have c1:=Zd hh 1 _ rfl;have c2:=Zd hh 2 _ rfl;have hl:=aA hh;have C2:=Zb (TX w2 z);have ai:=Zb (Ze am z);clear hh z;go_wp2_with fail;refine C2.mono ?_;rintro e w3 ⟨rfl,av⟩;have ay:=Zb (Ze ai av);clear av;go_wp2;go_ret;exact⟨rfl,Za ay⟩
 ·rw[if_pos h0] at O;subst O;have g:(y != 0)=true:=by simp[h0]
  clear h0;go_enter func161,ntmps161;go_wp2_with fail;rw[<-ab];clear ab;refine C1.mono ?_;rintro e w2 ⟨rfl,z⟩;have ai:=Zb (Ze am z);clear z;go_wp2;go_ret;exact⟨rfl,Za ai⟩
theorem Fr(a n c L)(h:Int)(bx ao ni ci no co I bz)(name ht:Int)(x:Int)(w:World)(hL:CoinsAt w a n L)(hI:InsAt w bx ni I)(hO:OutsAt w ao no bz)(sI:SlOk bx ni ci)(hx:Wb L (h,I,bz) name ht=x) :
  ZH 139 #[F a n c,.agg #[E J h,F bx ni ci,F ao no co],E J name,E J ht] w (E J x):=by
 obtain⟨X0,ab⟩:=ZG (w.alloc (dW #[E J h,F bx ni ci,F ao no co] 52));have ar:ZD w X0:=by rw[ab];exact Zg _ _
 have aq:X0.heap[w.heap.size]? = some (dW [E J h,F bx ni ci,F ao no co].toArray 52 (0,0)):=by rw[ab];exact Zs _ _ _ _ _
 obtain⟨y,hy⟩:=ZF (Wm L (h,I,bz));have C1:=Zb (G5 a n c L h bx ao ni ci no co I bz y X0 (hL.later ar) (hI.later ar) (hO.later ar) sI hy);have bc:=hI.1;have x0:=Zd aq 0 _ rfl;have x1:=Zd aq 1 _ rfl;have x2:=Zd aq 2 _ rfl;have ax:=Zb aq;have al:=Zb ar;unfold Wb at hx;rw[hy] at hx;have hR:isR (h,I,bz)=decide (ni=0):=by unfold isR;rw[<-bc]
 rw[hR] at hx;clear hL hI hO sI aq ar hy hR bc;by_cases h0:y=0
 ·subst h0;rw[if_neg (by decide)] at hx;cases hN:okN name with
  | false=>
   rw[hN,Bool.false_and,if_pos rfl] at hx;subst hx;have W1:=Zb (λw=>Xc name 1 120 false w (by rw[<-hN];rfl));clear hN;go_enter func139,ntmps139;go_wp2_with fail;rw[<-ab];clear ab;refine C1.mono ?_;rintro e w2 ⟨rfl,z⟩;have ad:=Zb (Ze al z);clear z;go_wp2_with fail;refine (W1 _).mono ?_;rintro e w3 ⟨rfl,rfl⟩;go_wp2;go_ret;exact⟨rfl,Za ad⟩
  | true=>
   rw[hN,Bool.true_and] at hx;have W1:=Zb (λw=>Xc name 1 120 true w (by rw[<-hN];rfl));cases hH:okH ht with
   | false=>
    rw[hH,if_pos rfl] at hx;subst hx;have W2:=Zb (λw=>Qa ht false w hH);clear hN hH;go_enter func139,ntmps139;go_wp2_with fail;rw[<-ab];clear ab;refine C1.mono ?_;rintro e w2 ⟨rfl,z⟩;have ad:=Zb (Ze al z);clear z;go_wp2_with fail;refine (W1 _).mono ?_;rintro e w3 ⟨rfl,rfl⟩;go_wp2_with fail;refine (W2 _).mono ?_;rintro e w3 ⟨rfl,rfl⟩;go_wp2;go_ret;exact⟨rfl,Za ad⟩
   | true=>
    rw[hH,if_neg (by decide)] at hx;have W2:=Zb (λw=>Qa ht true w hH);clear hN hH
    have bn:∀ (r:Bool) (q:Bool) (hr:decide (ni=0)=r) (hq:(h != ht)=q) (hz:(if r=true/\q=true then (4:Int) else 0)=x),ZH 139 #[F a n c,.agg #[E J h,F bx ni ci,F ao no co],E J name,E J ht] w (E J x):=by
     intro r q hr hq hz;have IR:=Zb (λw=>Tl h bx ao ni ci no co r w hr);cases r with
     | false=>
      rw[if_neg (by simp)] at hz;subst hz;clear hx hr;go_enter func139,ntmps139;go_wp2_with fail;rw[<-ab];clear ab;refine C1.mono ?_;rintro e w2 ⟨rfl,z⟩;have O:=ZE z ax;have c0:=Zd O 0 _ rfl;have c1:=Zd O 1 _ rfl;have c2:=Zd O 2 _ rfl;have hl:=aA O;have ad:=Zb (Ze al z);clear z O;go_wp2_with fail;refine (W1 _).mono ?_;rintro e w3 ⟨rfl,rfl⟩;go_wp2_with fail;refine (W2 _).mono ?_;rintro e w3 ⟨rfl,rfl⟩;go_wp2_with fail;refine (IR _).mono ?_;rintro e w3 ⟨rfl,bg⟩;have bj:=Zb (Ze ad bg);clear bg;go_wp2;go_ret;exact⟨rfl,Za bj⟩
     | true=>
      cases q with
      | false=>
       rw[if_neg (by simp)] at hz;subst hz;clear hx hr;go_enter func139,ntmps139;go_wp2_with fail;rw[<-ab];clear ab;refine C1.mono ?_;rintro e w2 ⟨rfl,z⟩;have O:=ZE z ax;have c0:=Zd O 0 _ rfl;have c1:=Zd O 1 _ rfl;have c2:=Zd O 2 _ rfl;have hl:=aA O;have HH:=Zb O;have ad:=Zb (Ze al z);clear z O;go_wp2_with fail;refine (W1 _).mono ?_;rintro e w3 ⟨rfl,rfl⟩;go_wp2_with fail;refine (W2 _).mono ?_;rintro e w3 ⟨rfl,rfl⟩;go_wp2_with fail;refine (IR _).mono ?_;rintro e w4 ⟨rfl,ai⟩;have d0:=Zc ai c0;have br:=aC _ _ d0;have aw:=Zb (Ze ad ai);clear ai c0 c1 c2;go_wp2;go_ret;exact⟨rfl,Za aw⟩
      | true=>
       rw[if_pos ⟨rfl,rfl⟩] at hz;subst hz;clear hx hr;go_enter func139,ntmps139;go_wp2_with fail;rw[<-ab];clear ab;refine C1.mono ?_;rintro e w2 ⟨rfl,z⟩;have O:=ZE z ax;have c0:=Zd O 0 _ rfl;have c1:=Zd O 1 _ rfl;have c2:=Zd O 2 _ rfl;have hl:=aA O;have HH:=Zb O;have ad:=Zb (Ze al z);clear z O;go_wp2_with fail;refine (W1 _).mono ?_;rintro e w3 ⟨rfl,rfl⟩;go_wp2_with fail;refine (W2 _).mono ?_;rintro e w3 ⟨rfl,rfl⟩;go_wp2_with fail;refine (IR _).mono ?_;rintro e w4 ⟨rfl,ai⟩;have d0:=Zc ai c0;have br:=aC _ _ d0;have aw:=Zb (Ze ad ai);clear ai c0 c1 c2;go_wp2;go_ret;exact⟨rfl,Za aw⟩
    refine bn (decide (ni=0)) (h != ht) rfl rfl ?_;rw[<-hx];by_cases e1:ni=0 <;> by_cases e2:h=ht <;> simp[e1,e2]
 ·rw[if_pos h0] at hx;subst hx;have g:(y != 0)=true:=by simp[h0]
  clear h0;go_enter func139,ntmps139;go_wp2_with fail;rw[<-ab];clear ab;refine C1.mono ?_;rintro e w2 ⟨rfl,z⟩;have ad:=Zb (Ze al z);clear z;go_wp2;go_ret;exact⟨rfl,Za ad⟩
theorem Zfd:∀ (l:List Int) (s:Int),(sm s l).2=0->∀ x∈l,0<=x/\x<=1000000000
 | [],_,_=>by simp
 | y :: r,s,h=>by
  intro x z;unfold sm at h;split at h
  ·rename_i O;split at h
   ·rcases List.mem_cons.1 z with rfl|z
    ·exact O
    ·exact Zfd r _ h x z
   ·cases h
  ·cases h
theorem Y9{t:TxD}(h:Zr t=0):t.2.1.length<=6/\t.2.2.length<=6/\0<t.2.2.length/\Da t=true/\Yd [] t.2.1=0/\Yc t.2.2=0/\(sm 0 (t.2.2.map (·.1))).2=0:=by
 unfold Zr at h;split at h
 ·cases h
 rename_i h1;split at h
 ·cases h
 rename_i h2;split at h
 ·cases h
 rename_i h3;split at h
 ·rename_i h4;exact absurd h h4
 rename_i h4;unfold Zw at h;split at h
 ·rename_i h5;exact⟨by omega,by omega,by omega,by simpa using h3,by simpa using h4,h5,h⟩
 ·rename_i h5;exact absurd h h5
theorem Rl{t:TxD}(h:Zr t=0):∀ o∈t.2.2,0<=o.1/\o.1<=1000000000:=λo z=>
 Zfd _ 0 (Y9 h).2.2.2.2.2.2 o.1 (List.mem_map_of_mem z)
theorem Le{L t}(h:Wm L t=0):Zy L/\Zr t=0:=by
 unfold Wm at h;split at h
 ·rename_i h1;exact absurd h h1
 ·rename_i h1;exact⟨(Z6 L).1 (by simpa using h1),h⟩
theorem Uf{L}{t:TxD}{name h:Int}(q:Wb L t name h=0):Zy L/\Zr t=0/\okN name=true/\okH h=true/\(t.2.1.length=0->t.1=h):=by
 unfold Wb at q;split at q
 ·rename_i h1;exact absurd q h1
 rename_i h1;split at q
 ·cases q
 rename_i h2;split at q
 ·cases q
 rename_i h3;obtain⟨z,O⟩:=Le (by simpa using h1);rw[Bool.not_eq_false,Bool.and_eq_true] at h2;refine⟨z,O,h2.1,h2.2,λe=>?_⟩;refine Decidable.byContradiction λn=>h3 ⟨by unfold isR;exact decide_eq_true e,n⟩
theorem Ec{L}{t:TxD}{name h x1 x2 x3 x4 x5:Int}{O M2 z}(h1:Wb L t name h=x1)(h2:Zp h t.2.1 [] L=(x2,O,M2))(h3:Di O t=x3)(h4:Yh name h (isR t) 0 t.2.2 M2=(x4,z))(h5:Zo z=x5) :
  apD L t name h=if x1≠0 then (x1,[],[]) else if x2≠0 then (x2,[],[]) else if x3≠0 then (x3,[],[]) else if x4≠0 then (x4,[],[]) else if x5≠0 then (x5,[],[]) else (0,z,O):=by
 unfold apD;simp only[h1,h2,h3,h4,h5]
theorem Zdb{L S:List Zf}{t:TxD}{name O x2 x3 x4:Int}{M2 z}(h1:Wm L t=O)(h2:Yq name 0 t.2.2 L=(x2,M2))(h3:Yy t.2.1 S M2=(x3,z))(h4:Zo z=x4) :
  rvD L t name S=if O≠0 then (O,[]) else if S.length≠t.2.1.length then (4,[]) else if x2≠0 then (x2,[]) else if x3≠0 then (x3,[]) else if x4≠0 then (x4,[]) else (0,z):=by
 unfold rvD;simp only[h1,h2,h3,h4]
theorem G3{l:List (Int×Int)}(h:chk l=0):l.length<=16:=by
 unfold chk at h;split at h
 ·cases h
 ·omega
theorem Zn{fn:Func}{p u v:Tmp}{ty:TypeId}(h:fn.results=#[.tmp u,.cell p ty,.tmp v])(tmps:Array Value)(P:Program)(w) :
  (results fn tmps).run P w =
   ((asAddr (tmps.getD p undef)).run P w).andThen λa z=>((loadVar ty a).run P z).andThen λx O=>.ok (dY #[tmps.getD u undef,x,tmps.getD v undef]) O:=by
 simp only[results,h];simp[Sem.run_bind,Result.andThen]
def ApR(w w':World)(x:Int)(M S:List Zf)(e:Ending):Prop:=
 ∃ z nm cm sa O cs,e = dX (dY #[F z nm cm,.agg #[F sa O cs],E J x])/\CoinsAt w' z nm M/\SlOk z nm cm/\CoinsAt w' sa O S/\SlOk sa O cs/\ZD w w'
def ApF(w w':World)(x:Int)(M S:List Zf)(e:Ending):Prop:=
 ∃ z nm cm sa O cs,e = dX (dY #[F z nm cm,.agg #[F sa O cs],E J x])/\Fresh w.heap.size w' (λw2=>CoinsAt w2 z nm M)/\SlOk z nm cm/\CoinsAt w' sa O S/\SlOk sa O cs/\ZD w w'
theorem ApF.plain{w w'}{x:Int}{M S e}(h:ApF w w' x M S e):ApR w w' x M S e:=by
 obtain⟨z,nm,O,sa,ns,cs,h1,h2,h3⟩:=h;exact⟨z,nm,O,sa,ns,cs,h1,h2 _ (Gr.refl _ _),h3⟩
theorem Wd:SlOk none 0 0:=⟨aE _,aP _,λ_=>⟨rfl,rfl⟩⟩
theorem Wn{w w':World}{x y:Int}{M S}{b:Nat}{v}(h:(x,M,S)=((y:Int),([]:List Zf),([]:List Zf))/\w.heap.size<=b)(z:ZD w w'):ApF w (w'.setCell ⟨b,0,none⟩ v) x M S (dX (dY #[F none 0 0,.agg #[F none 0 0],E J y])):=by
 obtain⟨h1,h2⟩:=h;injection h1 with h1 h3;injection h3 with h3 h4;subst h1 h3 h4;exact⟨none,0,0,none,0,0,rfl,λ_ _=>RowsAt.nil _ _,Wd,RowsAt.nil _ _,Wd,z.setCell (p:=⟨b,0,none⟩) h2 _⟩
theorem Zcp(a n c L)(h:Int)(ai kj ni ci no kk I O)(name ht:Int)(x:Int)(M S w)(hL:CoinsAt w a n L)(sL:SlOk a n c)(hI:InsAt w ai ni I)(hO:OutsAt w kj no O)(sI:SlOk ai ni ci)(z:apD L (h,I,O) name ht=(x,M,S)) :
  Calls Tryz.prog 98 #[F a n c,.agg #[E J h,F ai ni ci,F kj no kk],E J name,E J ht] w λe w'=>ApF w w' x M S e:=by
 obtain⟨X0,au⟩:=ZG ((w.alloc (dW #[E J h,F ai ni ci,F kj no kk] 52)).alloc (dW #[F none 0 0] 130));have ao:ZD w X0:=by rw[au];exact Ze (Zg _ _) (Zg _ _)
 have an:X0.heap[w.heap.size]? = some (dW [E J h,F ai ni ci,F kj no kk].toArray 52 (0,0)):=by
  rw[au,Below.heap_alloc _ _ _ (by simp)];exact Zs _ _ _ _ _
 have br:X0.heap[w.heap.size+1]? = some (dW [F none 0 0].toArray 130 (0,0)):=by
  rw[au];have:=heap_alloc_new (w.alloc (dW #[E J h,F ai ni ci,F kj no kk] 52)) (dW #[F none 0 0] 130);rw[show (w.alloc (dW #[E J h,F ai ni ci,F kj no kk] 52)).heap.size=w.heap.size+1 by simp] at this;exact this
 obtain⟨x1,h1⟩:=ZF (Wb L (h,I,O) name ht);obtain⟨⟨x2,S2,M2⟩,h2⟩:=ZF (Zp ht I [] L);obtain⟨x3,h3⟩:=ZF (Di S2 (h,I,O));obtain⟨⟨x4,M4⟩,h4⟩:=ZF (Yh name ht (isR (h,I,O)) 0 O M2);obtain⟨x5,h5⟩:=ZF (Zo M4);rw[Ec h1 h2 h3 h4 h5] at z;have hR:isR (h,I,O)=decide (ni=0):=by unfold isR;rw[<-hI.1]
 have C1:=Zb (Fr a n c L h ai kj ni ci no kk I O name ht x1 X0 (hL.later ao) (hI.later ao) (hO.later ao) sI h1);have iu:=Zb an;have et:=Zb br;have ej:=Zb ao;by_cases e1:x1=0
 ·subst e1;rw[if_neg (by decide)] at z;obtain⟨dh,di,jc,jb,_⟩:=Uf h1;obtain⟨t1,t2,t3,_⟩:=Y9 di;have fl:ni<=6:=by rw[<-hI.1];exact t1
  have fm:no<=6:=by rw[<-hO.1];exact t2
  have hn:n<=720:=by rw[<-hL.1];exact dh.len
  have fo:=Rl di;have ix:=Zb (λw' (hb:ZD X0 w')=>Eg a n c L w' (by omega) ((hL.later ao).later hb) sL);have HI:=Zb (λw' (hb:ZD X0 w')=>(hI.later ao).later hb);have HO:=Zb (λw' (hb:ZD X0 w')=>(hO.later ao).later hb);have er:=Zb dh;have ii:=Zb fo;have H2:=Zb h2;have H3:=Zb h3;have H4:=Zb h4;have H5:=Zb h5;have HR:=Zb hR;have HX:=Zb z;have iv:=Zb hL.1;have jp:w.heap.size+1<X0.heap.size:=aA br;have x0:=Zd an 0 _ rfl;have x1:=Zd an 1 _ rfl;have eg:=Zd an 2 _ rfl;clear hL sL hI hO sI h1 an br ao dh di jc jb t1 t2 t3 fo h2 h3 h4 h5 hR z;go_enter func98,ntmps98;go_wp2_with fail;rw[<-au];clear au;refine C1.mono ?_;rintro e w2 ⟨rfl,ag⟩;have iw:=Zb (ix w2 ag);have ig:=Zb (HI w2 ag);have en:=Zb (HO w2 ag);have fj:=ZE ag iu;have bf:=ZE ag et;have ca:=Zb fj;have cc:=Zb bf;have bk:=Zb (Ze ej ag);clear ag fj bf x0 x1 eg;go_wp2_with fail;refine iw.mono ?_;rintro e w3 ⟨p,v,K,rfl,hK,df⟩;have cm:K.length=n:=by rw[<-Za iv,<-hK,List.length_map]
  have fv:Srt (K.map (·.1)):=by rw[hK];exact er.srt
  have dr:∀ ki∈K,ck1 ki.1=0:=λki hz=>er.one ki.1 (by rw[<-hK];exact List.mem_map_of_mem hz);have SP:=Zb (Zkf w2 w3 p v K ai ni ci I ht x2 S2 M2 df fv (by omega) dr ig fl (by rw[hK];exact Za H2));have dq:=ZE df.bel ca;have c1:=Zd dq 1 _ rfl;have jf:=aA dq;have eo:=Zb dr;have el:=Zb cm;have kg:w.heap.size+1<w2.heap.size:=aA cc;clear hK df cm fv dr dq;go_wp2_with fail;refine SP.mono ?_;rintro e w4 ⟨sa,ns,cs,rfl,av,du⟩;have bu:=ZE av ca;have cu:=ZE av cc;have d0:=Zd bu 0 _ rfl;have d1:=Zd bu 1 _ rfl;have d2:=Zd bu 2 _ rfl;have u4:=Zd cu 0 _ rfl;have f4:=Zi cu 0;have jg:=aA bu;have jh:=aA cu;have gz:=Zb av;clear bu cu c1 jf;by_cases e2:x2=0
  ·subst e2;obtain⟨v4,K4,T4,q1,q2,q3,q4,q5,q6,q7,q8,q9,dy,fx,s4,fy,fz,ga⟩:=du rfl;have z:=Za HX;rw[if_neg (by decide)] at z;have eu:=Zb z;have fg:∀ ki∈T4,LkAt w4 ki:=λki hz=>(q8 ki hz).later av;have ds:w4.ownsRow w2.heap.size 103 6 (F sa ns cs) T4.length (Zk T4):=(by have h:=q7;rw[q5] at h ⊢;exact h);obtain⟨ed,de,e,dm,jo⟩:=Zx ds fg;have e2:sa=ed/\ns=T4.length/\cs=de:=(by injection e with e1 e2 e3;exact⟨e1,e2,e3⟩);obtain⟨rfl,-,rfl⟩:=e2;rw[q1,<-q5] at dm;have jn:ns<=6:=by rw[q5,q6];exact fl
   have ff:∀ ki∈S2,0<=cv ki/\cv ki<=1000000000:=λki hz=>by
    rw[<-q1] at hz;obtain⟨y,hy,rfl⟩:=List.mem_map.1 hz;have:=Wp (eo y (dy y hy));omega
   have gq:=Zb (Zit sa ns cs S2 h ai kj ni ci no kk O x3 w4 jn fm dm (en.later av) ff ii (by have:=Za H3;unfold Di at this;rw[Za HR] at this;exact this));have ij:=Zb fx;have ik:=Zb ds;have it:=Zb q8;have HQ:Hid (T4.map (·.1)=S2/\K4.map (·.1)=M2/\Srt M2/\K4.length<=K.length/\ns=T4.length/\(Value.slice sa ns cs).ownBlock=some s4/\v4.ownBlock≠some s4/\s4≠p):=⟨q1,q2,q3,q4,q5,fy,fz,ga⟩;have ir:=Zb dy;clear du q1 q2 q3 q4 q5 q6 q7 q8 q9 dy fx fy fz ga z fg ds dm jo ff e av;go_wp2_with fail;refine gq.mono ?_;rintro e w5 ⟨rfl,dl⟩;have cn:=ij.kept dl;have bv:=ZE cn.bel ca;have cw:=ZE cn.bel cc;have g0:=Zd bv 0 _ rfl;have g1:=Zd bv 1 _ rfl;have g2:=Zd bv 2 _ rfl;have u5:=Zd cw 0 _ rfl;have f5:=Zi cw 0;have ji:=aA bv;have jj:=aA cw;have ep:=Zb cn;have il:=Zb ((Gr.of (S:=λ_=>False) dl).own ik (λ_ _ q=>q));clear dl cn bv cw d0 d1 d2 u4 f4 jg jh;by_cases e3:x3=0
   ·subst e3;have z:=Za eu;rw[if_neg (by decide)] at z;have ev:=Zb z;have hq:=Za HQ;have cm:=Za el;have GV:=Zb (Zox w2 w5 p v4 K4 h ai kj ni ci no kk O name ht (decide (ni=0)) x4 M4 ep (by rw[hq.2.1];exact hq.2.2.1) (by omega) en fm rfl (by rw[hq.2.1,<-Za HR];exact Za H4));clear z hq cm;go_wp2_with fail;refine GV.mono ?_;rintro e w6 ⟨rfl,co,dp⟩;have je:=ZE co ca;have cx:=ZE co cc;have u6:=Zd cx 0 _ rfl;have f6:=Zi cx 0;have jk:=aA cx;have cz:=Zb co;clear je cx g0 g1 g2 u5 f5 ji jj;by_cases e4:x4=0
    ·subst e4;obtain⟨v6,K6,r1,r2,r3,r4,r5⟩:=dp rfl;have z:=Za ev;rw[if_neg (by decide)] at z;have ew:=Zb z;obtain⟨a6,c6,rfl,cq,fs⟩:=r4.coins;have fd:K6.length<=726:=(by have:=HQ.2.2.2.1;have:=Za el;omega);obtain⟨n6,bw⟩:=ZF (K6.length);rw[r1,bw] at cq;have cp:=r4.box;rw[bw] at cp;have p6:=Zd (X:=[F a6 n6 c6]) cp 0 _ rfl;have kd:=aA cp;have CK:=Zb (Rc a6 n6 c6 M4 x5 w6 cq H5);have hq:=Za HQ
     have fk:¬PuS p v4 s4:=by
      rintro (e|e)
      ·exact hq.2.2.2.2.2.2.2 e
      ·exact hq.2.2.2.2.2.2.1 e
     have fp:=r5.own il (λk hk=>by
      rw[show (Value.slice sa ns cs).ownBlock=some s4 from hq.2.2.2.2.2.1] at hk;cases hk;exact fk)
     have im:=Zb fp;have ia:=Zb cq;have ip:Hid (SlOk a6 n6 c6):=(by rw[<-bw];exact fs);have ka:n6<=726:=(by rw[<-bw];exact fd);clear dp z r1 r2 r3 r4 r5 cq fs fd bw cp hq fk fp co;go_wp2_with fail;refine CK.mono ?_;rintro e w7 ⟨rfl,aw⟩;have p7:=Zc aw p6;have ke:=aC _ _ p7;have dv:=Zc aw u6;have jl:=aC _ _ dv;have f7:w7.frozen? ⟨w.heap.size+1,0,none⟩=false:=(bX (w:=w6) (a:=⟨w.heap.size+1,0,none⟩) (aw.block _ jk)).trans f6;have da:Hid (ZD w2 w7):=cz.trans (aw.mono cz.size);have ib:=Zb (ia.later aw);have io:=Zb ((Gr.of (S:=λ_=>False) aw).own im (λ_ _ q=>q));clear aw p6 u6 f6;by_cases e5:x5=0
     ·subst e5;have z:=Za ew;rw[if_neg (by decide)] at z;have jq:x=0:=(by injection z with z _;exact z.symm);have jr:M=M4:=(by injection z with _ z;injection z with z _;exact z.symm);have js:S=S2:=(by injection z with _ z;injection z with _ z;exact z.symm);subst jq jr js;have fe:=(Z6 M).1 H5;have gs:=Zb (Rw a6 n6 c6 M w7 (by omega) ib ip (λki hz=>by have:=G3 (Wp (fe.one ki hz)).2.2.2.2.2.2.2.2;omega));clear z fe;go_wp2_with fail;refine gs.mono ?_;rintro e w8 ⟨a8,c8,rfl,fh,ft,be⟩;have fq:=(Gr.of (S:=λ_=>False) be).own io (λ_ _ q=>q);have dj:ZD w2 w8:=da.trans (be.mono da.size);have hq:=Za HQ;obtain⟨ed,de,e,dn,dt⟩:=Zx fq (λki hz=>(it ki hz).later dj);have e2:sa=ed/\cs=de:=(by injection e with e1 e2 e3;exact⟨e1,e3⟩);obtain⟨rfl,rfl⟩:=e2;rw[hq.1,<-hq.2.2.2.2.1] at dn;rw[<-hq.2.2.2.2.1] at dt
      have gu:=Zb (Rw sa ns cs S w8 (by omega) dn dt (λki hz=>by
       rw[<-hq.1] at hz;obtain⟨y,hy,rfl⟩:=List.mem_map.1 hz;have:=G3 (Wp (eo y (ir y hy))).2.2.2.2.2.2.2.2;omega))
      have u8:=Zc be dv;have jm:=aC _ _ u8;have f8:w8.frozen? ⟨w.heap.size+1,0,none⟩=false:=(bX (w:=w7) (a:=⟨w.heap.size+1,0,none⟩) (be.block _ jl)).trans f7;have id:=Zb fh;have iq:=Zb ft;have ek:=Zb dj;have kb:w7.heap.size<=w8.heap.size:=be.size;clear fh ft be fq dj hq dn dt e p7 dv f7;go_wp2_with fail;refine gu.mono ?_;rintro e w9 ⟨a9,c9,rfl,fi,fu,bt⟩;have u9:=Zc bt u8;have kc:=aC _ _ u9;have f9:w9.frozen? ⟨w.heap.size+1,0,none⟩=false:=(bX (w:=w8) (a:=⟨w.heap.size+1,0,none⟩) (bt.block _ jm)).trans f8
      have ic:Hid (ApF w (w9.setCell ⟨w.heap.size+1,0,none⟩ (F a9 ns c9)) 0 M S (dX (dY #[F a8 n6 c8,.agg #[F a9 ns c9],E J 0]))):=by
       refine⟨a8,n6,c8,a9,ns,c9,rfl,?_,Za iq,?_,fu,?_⟩
       ·exact λw2 g2=>id w2 (((Gr.of bt).one (w.heap.size+1) 0 (.inl (by show w.heap.size+1<w7.heap.size;omega)) _).trans (g2.mono (λ_ _ hk=>Nat.lt_of_lt_of_le hk (by omega))))
       ·exact fi _ ((Gr.refl w9 (λk=>k<w8.heap.size)).one (w.heap.size+1) 0 (.inl (by show w.heap.size+1<w8.heap.size;omega)) _)
       ·have jd:ZD w2 w9:=ek.trans (bt.mono ek.size);exact (Ze bk jd).setCell (p:=⟨w.heap.size+1,0,none⟩) (bZ _) _
      clear fi fu bt u8 f8;go_wp2;(try simp only[aO,Exit.then]);refine aR (v:=dY #[F a8 n6 c8,.agg #[F a9 ns c9],E J 0]) ?_ rfl ic;rw[Zn rfl];go_simp
     ·have g:(x5 != 0)=true:=(by simp[e5]);have HE:Hid ((x,M,S)=((x5:Int),([]:List Zf),([]:List Zf))/\w.heap.size<=w.heap.size+1):=⟨by have:=Za ew;rw[if_pos e5] at this;exact this.symm,bZ _⟩;have aj:=Zb (Ze bk da);clear e5 p7;go_wp2;(try simp only[aO,Exit.then]);refine aR (v:=dY #[F none 0 0,.agg #[F none 0 0],E J x5]) ?_ rfl ?_
      ·rw[Zn rfl];go_simp
      ·exact Wn HE aj
    ·have g:(x4 == 0)=false:=(by simp[e4]);have g':(x4 != 0)=true:=(by simp[e4]);have HE:Hid ((x,M,S)=((x4:Int),([]:List Zf),([]:List Zf))/\w.heap.size<=w.heap.size+1):=⟨by have:=Za ev;rw[if_pos e4] at this;exact this.symm,bZ _⟩;have aj:=Zb (Ze bk cz);clear e4 dp;go_wp2;(try simp only[aO,Exit.then]);refine aR (v:=dY #[F none 0 0,.agg #[F none 0 0],E J x4]) ?_ rfl ?_
     ·rw[Zn rfl];go_simp
     ·exact Wn HE aj
   ·have g:(x3 == 0)=false:=(by simp[e3]);have g':(x3 != 0)=true:=(by simp[e3]);have HE:Hid ((x,M,S)=((x3:Int),([]:List Zf),([]:List Zf))/\w.heap.size<=w.heap.size+1):=⟨by have:=Za eu;rw[if_pos e3] at this;exact this.symm,bZ _⟩;have aj:=Zb (Ze bk ep.bel);clear e3;go_wp2;(try simp only[aO,Exit.then]);refine aR (v:=dY #[F none 0 0,.agg #[F none 0 0],E J x3]) ?_ rfl ?_
    ·rw[Zn rfl];go_simp
    ·exact Wn HE aj
  ·have g:(x2 == 0)=false:=(by simp[e2]);have g':(x2 != 0)=true:=(by simp[e2]);have HE:Hid ((x,M,S)=((x2:Int),([]:List Zf),([]:List Zf))/\w.heap.size<=w.heap.size+1):=⟨by have:=Za HX;rw[if_pos e2] at this;exact this.symm,bZ _⟩;have aj:=Zb (Ze bk gz);clear e2 du av;go_wp2;(try simp only[aO,Exit.then]);refine aR (v:=dY #[F none 0 0,.agg #[F none 0 0],E J x2]) ?_ rfl ?_
   ·rw[Zn rfl];go_simp
   ·exact Wn HE aj
 ·have g:(x1 != 0)=true:=by simp[e1]
  have HE:Hid ((x,M,S)=((x1:Int),([]:List Zf),([]:List Zf))/\w.heap.size<=w.heap.size+1):=⟨by rw[if_pos e1] at z;exact z.symm,bZ _⟩;have x0:=Zd an 0 _ rfl;have jx:=Zd an 1 _ rfl;have eg:=Zd an 2 _ rfl;have jp:w.heap.size+1<X0.heap.size:=aA br;clear hL sL hI hO sI h1 an br ao h2 h3 h4 h5 hR z e1;go_enter func98,ntmps98;go_wp2_with fail;rw[<-au];clear au;refine C1.mono ?_;rintro e w2 ⟨rfl,ag⟩;have bf:=ZE ag et;have u2:=Zd bf 0 _ rfl;have f2:=Zi bf 0;have aj:=Zb (Ze ej ag);clear ag bf x0 jx eg;go_wp2;(try simp only[aO,Exit.then]);refine aR (v:=dY #[F none 0 0,.agg #[F none 0 0],E J x1]) ?_ rfl ?_
  ·rw[Zn rfl];go_simp
  ·exact Wn HE aj
theorem Zni(a n c L)(h:Int)(z ao O ci no co I al)(name ht:Int)(x:Int)(M S w)(hL:CoinsAt w a n L)(sL:SlOk a n c)(hI:InsAt w z O I)(hO:OutsAt w ao no al)(sI:SlOk z O ci)(hx:apD L (h,I,al) name ht=(x,M,S)) :
  Calls Tryz.prog 98 #[F a n c,.agg #[E J h,F z O ci,F ao no co],E J name,E J ht] w λe w'=>ApR w w' x M S e:=
 (Zcp a n c L h z ao O ci no co I al name ht x M S w hL sL hI hO sI hx).mono λ_ _ q=>q.plain
