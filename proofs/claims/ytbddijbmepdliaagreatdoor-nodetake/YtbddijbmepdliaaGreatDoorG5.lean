import Derived.Test.YtbddijbmepdliaaGreatDoorH
import Derived.Test.YtbddijbmepdliaaGreatDoorG4
import Derived.Lib.OwnKind
open Option renaming none->aD,some->dG
open Go.Proofs.Tryz
open Bool renaming and_eq_true->aX
open Decidable renaming not_not->bD
open Go renaming TypeId->aY,heap_alloc_new->aG,lt_of_block->aA,bodyPost_ret->aL,maxLen->aT,info_parts->bX
open Go.Addr renaming add_lit->cW
open Go.Ending renaming returned->dB
open Go.Exit renaming inBlock->bQ
open Go.IntKind renaming wrap_i64->aP,i64->J
open Go.Lib renaming run_eql_slice_nil->cG
open Go.Obj renaming cells->dA
open Go.Proofs.Tryz renaming prog->aB,underlying25->cR
open Go.Value renaming slice->bW,int->aU,int->E,slice->F,tuple->dC,bool->dF
open Go.World renaming block_lt_of_cell?->aC,frozen?_of_block->bY,cell?_of_block->bU,ownsRow->cP
open Go.World.ownsRow renaming cellAt->bH
open List renaming mem_cons_self->cN,take_of_length_le->aM,take_succ_eq_append_getElem->aH,getElem_mem->aQ,replicate->bP,mem_append->bM,mem_singleton->cT,getElem?_eq_getElem->bR,getElem_set_self->cY,length_cons->cK,mem_cons->aW,length_eq_zero_iff->aJ,drop_of_length_le->bA,drop_eq_getElem_cons->aK,flatten_cons->cZ,length_take->aV,getElem?_eq_some_iff->cD
open Nat renaming zero_le->aI,le_refl->aE,lt_of_lt_of_le->aF,zero_add->bO
set_option maxHeartbeats 12800000
set_option maxRecDepth 10000
namespace Go.Proofs.YtbddijbmepdliaaGreatDoor
open Go.RowKit
theorem Je:∀ (L:List Zi) (k:Nat),(∀ c∈L,0<=cv c/\cv c<=1000000000)->0<=Zm (L.take k)/\Zm (L.take k)<=1000000000*(k:Int)
 | [],k,_=>by simp[Zm];omega
 | c :: r,0,_=>by simp[Zm]
 | c :: r,k+1,h=>by
  have h1:=h c (cN ..);have h2:=Je r k (λx hx=>h x (List.mem_cons_of_mem _ hx));rw[List.take_succ_cons,Xx];omega
theorem Kd:∀ (L:List Yd) (k:Nat),(∀ c∈L,0<=c.1/\c.1<=1000000000)->0<=Yk (L.take k)/\Yk (L.take k)<=1000000000*(k:Int)
 | [],k,_=>by simp[Yk];omega
 | c :: r,0,_=>by simp[Yk]
 | c :: r,k+1,h=>by
  have h1:=h c (cN ..);have h2:=Kd r k (λx hx=>h x (List.mem_cons_of_mem _ hx));rw[List.take_succ_cons];have e:Yk (c :: r.take k)=c.1+Yk (r.take k):=by simp[Yk]
  rw[e];omega
theorem Zil(sa)(ns cs:Nat)(S)(ht:Int)(ai ao)(ni ci no co:Nat)(O)(x:Int)(w:World)(dc:ns<=6)(db:no<=6)(hS:CoinsAt w sa ns S)(hO:OutsAt w ao no O)
  (hs:∀ c∈S,0<=cv c/\cv c<=1000000000) (ho:∀ c∈O,0<=c.1/\c.1<=1000000000) (hx:(if Zm S - Yk O<0/\decide (ni=0)=false then 9 else 0)=x) :
  ZH 159 #[F sa ns cs,.agg #[E J ht,F ai ni ci,F ao no co]] w (E J x):=by
 have⟨X0,cb,ar,cc⟩:=ka00 w [E J ht,F ai ni ci,F ao no co] 50;have ap:=Zb (λk=>Je S k hs);have bg:=Zb (λk=>Kd O k ho);have⟨HS,HO,bj,bi,HX,bh,bv⟩:=kh7 (hS.later ar) (hO.later ar) hS.1 hO.1 hx cc ar;go_enter func159,ntmps159;go_wp2;rw[<-cb]
 go_loopw [5,12] (λsv i wr=>∃ (k:Nat) (s:Int),k<=ns/\sv = E J s/\i = E J k/\Hid (s=Zm (S.take k))/\Hid (ZD X0 wr)) (λ_ i _=>ns - (intOf i).toNat)
 case atStart=>exact⟨0,0,aI _,rfl,rfl,rfl,Below.refl _ _⟩
 case round=>
  obtain⟨k,s,hk,rfl,rfl,A,HB⟩:=hrel;by_cases ay:k<ns
  ·have ae:k<S.length:=(by rw[Za bj];exact ay);obtain⟨b,off,rfl,cd,av⟩:=HS.2 (by omega);have ad:=CoinAt.kept _ _ _ _ _ HB (av k ae);have b1:=ap k;have b2:=ap (k+1);have aa:=Rq S k ae;have⟨c,hc⟩:=ZF (S[k]);rw[hc] at ad aa;have⟨la,ln,lc,g0,g1,g2,g3,g4,g5,_,_⟩:=ad.val;have⟨v,hv⟩:=ZF (cv c);rw[hv] at g2 aa;rw[<-Za A] at b1 aa;rw[aa] at b2;have A2:Hid (s+v=Zm (S.take (k+1))):=aa.symm;have al:=Zb (Zf HB (Zh wr (dA #[E J c.1,E J c.2.1,E J v,F la ln lc,E J (ch c),dF (cr c)] 162)));have cj:IntKind.i64.wrap (s+v)=s+v:=(by rw[aP];omega);go_wp2;go_roundw
   case rel=>exact⟨k+1,s+v,by omega,rfl,by go_num,A2,al⟩
   case measure=>simp[intOf];omega
  ·have e:k=ns:=(by omega);subst e
   have A2:Hid (s=Zm S):=by
    show _=_;rw[Za A,aM (by rw[Za bj];exact aE _)]
   have b1:=ap k;rw[<-Za A] at b1;have hh:=ZE HB bh;obtain⟨-,-,c2,hl⟩:=kc3 hh;go_wp2
   go_loopw [5,25] (λsv i cl=>∃ (j:Nat) (d:Int),j<=no/\sv = E J d/\i = E J j/\Hid (d=s - Yk (O.take j))/\Hid (ZD X0 cl)) (λ_ i _=>no - (intOf i).toNat)
   case atStart=>exact⟨0,s,aI _,rfl,rfl,(by simp[Yk]:s=s - Yk (O.take 0)),HB⟩
   case round=>
    obtain⟨j,d,hj,rfl,rfl,D,HD⟩:=hrel;have aj:=Za HD;by_cases ay:j<no
    ·have ae:j<O.length:=(by rw[Za bi];exact ay);obtain⟨b,off,rfl,cd,av⟩:=HO.2 (by omega);have ad:=OutAt.kept _ _ _ _ _ aj (av j ae);have d1:=bg j;have d2:=bg (j+1);have aa:=Rp O j ae;have⟨o,hc⟩:=ZF (O[j]);rw[hc] at ad aa;have⟨q1,q2⟩:=o;have⟨g0,la,ln,lc,g1,_,_⟩:=ad;simp only at g0 g1 aa;have hd:d=s - Yk (O.take j):=Za D;have A3:Hid (d - q1=s - Yk (O.take (j+1))):=(by show _=_;rw[aa];omega);have al:=Zb (Zf HD (Zh wr (dA #[E J q1,F la ln lc] 92)));have cj:IntKind.i64.wrap (d - q1)=d - q1:=(by rw[aP];omega);clear hc aa D hd d1 d2 aj;go_wp2;go_roundw
     case rel=>exact⟨j+1,d - q1,by omega,rfl,by go_num,A3,al⟩
     case measure=>simp[intOf];omega
    ·have e:j=no:=(by omega);subst e
     have hd:d=Zm S - Yk O:=by
      have:=Za D;rw[aM (by rw[Za bi];exact aE _),Za A2] at this;exact this
     have hx:=Za HX;rw[<-hd] at hx;have hh:=ZE aj bh;have⟨e0,e1,e2,da⟩:=kc3 hh;have an:=Zb (Zf bv aj);have IR:=Zb (λw=>Rg ht ai ao ni ci j co (decide (ni=0)) w rfl);by_cases br:d<0
     ·cases hr:decide (ni=0) with
      | true=>
       have R:Hid (x=0):=(by show _=_;rw[<-hx,if_neg (by rw[hr];simp)]);rw[hr] at IR;go_wp2_with fail;refine (IR _).mono ?_;rintro e w3 ⟨rfl,au⟩;have am:=Zb (Zf an au);go_wp2;go_ret;exact⟨by rw[Za R];rfl,Za am⟩
      | false=>
       have R:Hid (x=9):=(by show _=_;rw[<-hx,if_pos ⟨br,hr⟩]);rw[hr] at IR;go_wp2_with fail;refine (IR _).mono ?_;rintro e w3 ⟨rfl,au⟩;have am:=Zb (Zf an au);go_wp2;go_ret;exact⟨by rw[Za R];rfl,Za am⟩
     ·have R:Hid (x=0):=(by show _=_;rw[<-hx,if_neg (λq=>br q.1)]);go_wp2;go_ret;exact⟨by rw[Za R];rfl,Za an⟩
def UndoAt(w:World)(b o:Nat)(s:List Zi):Prop:=∃ a n c,w.cell? ⟨b,o,aD⟩=dG (F a n c)/\CoinsAt w a n s/\SlOk a n c
theorem UndoAt.kept{w w':World}{b o s}(hb:ZD w w')(h:UndoAt w b o s):UndoAt w' b o s:=by
 have⟨a,n,c,h1,h2,h3⟩:=h;exact⟨a,n,c,Ze hb h1,h2.later hb,h3⟩
def Y8(r:Int)(T:List TxD)(S:List (List Zi))(k:Nat):Int:=r+Zm (S.take k).flatten - Yk ((T.take k).map (·.2.2)).flatten
theorem Qp(L M):Yk (L++M)=Yk L+Yk M:=by simp[Yk]
theorem Mj(r:Int)(T S):Y8 r T S 0=r:=by simp[Y8,Zm,Yk]
theorem Tx(r:Int)(T:List TxD)(S:List (List Zi))(k:Nat)(hT:k<T.length)(hS:k<S.length):Y8 r T S (k+1)=Y8 r T S k+Zm S[k] - Yk T[k].2.2:=by
 unfold Y8;rw[aH hT,aH hS,List.map_append,List.flatten_append,List.flatten_append,Wj,Qp];simp;omega
theorem Zdu(p h k n:Int)(b off m c:Nat)(T:List TxD)(ub uo um uc:Nat)(S:List (List Zi))(r:Int)(o:Bool)(w:World)(hz:T.length=m)(hm:m<=4)(dp:∀ i (h:i<T.length),TxAt w b (off+i*3) T[i])(eb:S.length=m)(dw:um=m)
  (dn:∀ i (h:i<S.length),UndoAt w ub (uo+i) S[i]) (hT:∀ t∈T,t.2.2.length<=6/\∀ x∈t.2.2,0<=x.1/\x.1<=1000000000) (hS:∀ s∈S,s.length<=6/\∀ x∈s,0<=cv x/\cv x<=1000000000) (hr:rwD h=(r,0)) (ho:decide (0<=Y8 r T S m)=o) :
  ZH 122 #[.agg #[E J p,E J h,E J k,E J n,F (dG ⟨b,off,aD⟩) m c],F (dG ⟨ub,uo,aD⟩) um uc] w (dF o):=by
 subst dw
 have et:0<=r/\r<=64:=by
  unfold rwD at hr;split at hr
  ·injection hr with e _;have:=Tp ((h - 1).toNat / 8);omega
  ·injection hr with _ e;cases e
 have⟨X,hX,bh,dj⟩:=ka00 w [E J p,E J h,E J k,E J n,F (dG ⟨b,off,aD⟩) um c] 33;have RW:=Zb (λW=>Dq h r 0 W hr);have⟨cx,cm⟩:=kh2 dj bh;have cq:Hid (∀ i (h:i<T.length),TxAt X b (off+i*3) T[i]):=λi hi=>TxAt.kept _ _ _ _ _ bh (dp i hi);have cp:Hid (∀ i (h:i<S.length),UndoAt X ub (uo+i) S[i]):=λi hi=>(dn i hi).kept bh;have⟨HT,HS,HZ,da,HO⟩:=kh5 hT hS hz eb ho;go_enter func122,ntmps122;go_wp2_with fail;rw[<-hX];refine (RW _).mono ?_;rintro e w1 ⟨rfl,ca⟩;have dz:=ZE ca cx;obtain⟨-,-,-,-,c4,fd⟩:=kc5 dz;have cl:=Zb ca;go_wp2
 go_loopw [5,22] (λsv i wr=>∃ (j:Nat) (d:Int),j<=um/\sv = E J d/\i = E J j/\Hid (d=Y8 r T S j)/\-(6000000000*(j:Int))<=d/\d<=64+6000000000*(j:Int)/\Hid (ZD X wr)) (λ_ i _=>um - (intOf i).toNat)
 case atStart=>exact⟨0,r,aI _,rfl,rfl,(Mj r T S).symm,by omega,by omega,cl⟩
 case round=>
  obtain⟨j,d,hj,rfl,rfl,A,d1,d2,al⟩:=hrel;by_cases cd:j<um
  ·have cc:j<T.length:=(by rw[Za HZ];exact cd);have cb:j<S.length:=(by rw[Za da];exact cd);have aa:=TxAt.kept _ _ _ _ _ al (cq j cc);have cf:=(cp j cb).kept al;have bT:=HT T[j] (aQ _);have bS:=HS S[j] (aQ _);have ST:=Zb (Tx r T S j cc cb);have⟨t,ht⟩:=ZF (T[j]);have⟨s,hs⟩:=ZF (S[j]);rw[ht] at aa bT ST;rw[hs] at cf bS ST;have⟨t1,I,O⟩:=t;have⟨g0,⟨ai,ni,ci,g1,hI,_⟩,ao,no,co,g2,hO,_⟩:=aa;have⟨sa,sn,sc,gs,hC,_⟩:=cf;simp only at g0 g1 g2 hI hO bT ST;have⟨Y,hY,ar,dm⟩:=ka00 wr [E J t1,F ai ni ci,F ao no co] 50;have⟨cy,cn,av,an⟩:=kh4 dm (Zf al ar) (hC.later ar) (hO.later ar);have bx:=Ze ar gs;have gl:=aC _ _ gs;have df:=aC _ _ bx;have ay:=Zb (λk=>Je s k bS.2);have ax:=Zb (λk=>Kd O k bT.2);have eu:sn<=6:=(by rw[<-hC.1];exact bS.1);have er:no<=6:=(by rw[<-hO.1];exact bT.1);have ep:(j:Int)<(um:Int):=(by omega);go_wp2_with fail;rw[<-hY];go_wp2
   go_loopw [5,33] (λsv i w2=>∃ (k2:Nat) (d2:Int),k2<=sn/\sv = E J d2/\i = E J k2/\Hid (d2=d+Zm (s.take k2))/\Hid (ZD Y w2)) (λ_ i _=>sn - (intOf i).toNat)
   case atStart=>exact⟨0,d,aI _,rfl,rfl,(by simp[Zm]:d=d+Zm (s.take 0)),(Below.refl _ _:ZD Y Y)⟩
   case round=>
    obtain⟨q,e,hq,rfl,rfl,D,HD⟩:=hrel;clear g0 g1 g2 gs bx gl df;by_cases ds:q<sn
    ·have af:q<s.length:=(by rw[(Za av).1];exact ds);obtain⟨b2,o2,rfl,_,ad⟩:=av.2 (by omega);have aa:=CoinAt.kept _ _ _ _ _ HD (ad q af);have b1:=ay q;have dc:=ay (q+1);have ab:=Rq s q af;have⟨y,hy⟩:=ZF (s[q]);rw[hy] at aa ab;have⟨la,ln,lc,f0,f1,f2,f3,f4,f5,_,_⟩:=aa.val;have⟨v,hv⟩:=ZF (cv y);rw[hv] at f2 ab;have hd:e=d+Zm (s.take q):=Za D;have A2:Hid (e+v=d+Zm (s.take (q+1))):=(by show _=_;rw[ab];omega);have au:=Zb (Zf HD (Zh wr (dA #[E J y.1,E J y.2.1,E J v,F la ln lc,E J (ch y),dF (cr y)] 162)));have dy:IntKind.i64.wrap (e+v)=e+v:=(by rw[aP];omega);clear aa hy ab D hd b1 dc ad;go_wp2;go_roundw
     case rel=>exact⟨q+1,e+v,by omega,rfl,by go_num,A2,au⟩
     case measure=>simp[intOf];omega
    ·have e0:q=sn:=(by omega);subst e0
     have A2:Hid (e=d+Zm s):=by
      show _=_;rw[Za D,aM (by rw[(Za av).1];exact aE _)]
     have b1:=ay q
     have fe:0<=e - d/\e - d<=6000000000:=by
      have:=Za D;omega
     have hh:=ZE HD cy;obtain⟨-,-,f2,hl⟩:=kc3 hh;go_wp2
     go_loopw [5,46] (λsv i w3=>∃ (k3:Nat) (d3:Int),k3<=no/\sv = E J d3/\i = E J k3/\Hid (d3=e - Yk (O.take k3))/\Hid (ZD Y w3)) (λ_ i _=>no - (intOf i).toNat)
     case atStart=>exact⟨0,e,aI _,rfl,rfl,(by simp[Yk]:e=e - Yk (O.take 0)),HD⟩
     case round=>
      obtain⟨u,g,hu,rfl,rfl,G,HG⟩:=hrel;clear f2 hl;by_cases dt:u<no
      ·have af:u<O.length:=(by rw[(Za an).1];exact dt);obtain⟨b3,o3,rfl,_,ad⟩:=an.2 (by omega);have aa:=OutAt.kept _ _ _ _ _ HG (ad u af);have x1:=ax u;have x2:=ax (u+1);have ab:=Rp O u af;have⟨y,hy⟩:=ZF (O[u]);rw[hy] at aa ab;have⟨q1,q2⟩:=y;have⟨f0,la,ln,lc,f1,_,_⟩:=aa;simp only at f0 f1 ab;have hd:g=e - Yk (O.take u):=Za G;have A3:Hid (g - q1=e - Yk (O.take (u+1))):=(by show _=_;rw[ab];omega);have au:=Zb (Zf HG (Zh wr (dA #[E J q1,F la ln lc] 92)));have dy:IntKind.i64.wrap (g - q1)=g - q1:=(by rw[aP];omega);clear hy ab G hd x1 x2 ad;go_wp2;go_roundw
       case rel=>exact⟨u+1,g - q1,by omega,rfl,by go_num,A3,au⟩
       case measure=>simp[intOf];omega
      ·have e1:u=no:=(by omega);subst e1
       have hd:g=e - Yk O:=by
        have:=Za G;rw[aM (by rw[(Za an).1];exact aE _)] at this;exact this
       have x1:=ax u;rw[aM (by rw[(Za an).1];exact aE _)] at x1
       have A4:Hid (g=Y8 r T S (j+1)):=by
        show _=_;rw[Za ST,<-Za A,hd,Za A2]
       have ak:=Zb (Zf cn HG);have y1 : -(6000000000*((j+1:Nat):Int))<=g:=(by omega);have y2:g<=64+6000000000*((j+1:Nat):Int):=(by omega);go_wp2;go_roundw
       case rel=>exact⟨j+1,g,by omega,rfl,by go_num,A4,y1,y2,ak⟩
       case measure=>simp[intOf];omega
  ·have e0:j=um:=(by omega);subst e0;have ak:=Zb (Zf cm al);have ho:=Za HO;rw[<-Za A] at ho;by_cases hp:0<=d
   ·obtain rfl:true=o:=(by rw[<-ho,decide_eq_true hp]);go_wp2;go_ret;exact⟨rfl,Za ak⟩
   ·obtain rfl:false=o:=(by rw[<-ho,decide_eq_false hp]);go_wp2;go_ret;exact⟨rfl,Za ak⟩
theorem Be(a n c L)(h:Int)(ai ao ni ci no co I O)(x:Int)(w:World)(hL:CoinsAt w a n L)(hI:InsAt w ai ni I)(hO:OutsAt w ao no O)(sI:SlOk ai ni ci)(hx:Vq L (h,I,O)=x) :
  ZH 199 #[F a n c,.agg #[E J h,F ai ni ci,F ao no co]] w (E J x):=by
 have⟨X0,ah,ac,ar⟩:=ka00 w [E J h,F ai ni ci,F ao no co] 50;have⟨y,hy⟩:=ZF (Zz L);have C1:=Zb (Vw a n c L y X0 (hL.later ac) hy);have TX:=Zb (λw' (hb:ZD X0 w')=>Qo h ai ao ni ci no co I O w' ((hI.later ac).later hb) ((hO.later ac).later hb) sI);have⟨am,af⟩:=kh2 ar ac;unfold Vq at hx;rw[hy] at hx;by_cases h0:y=0
 ·subst h0;rw[if_neg (by decide)] at hx;rw[hx] at TX;go_enter func199,ntmps199;go_wp2_with fail;rw[<-ah];refine C1.mono ?_;rintro e w2 ⟨rfl,ab⟩;have hh:=ZE ab am;have⟨c0,c1,c2,hl⟩:=kc3 hh;have⟨C2,ad⟩:=kh2 (TX w2 ab) (Zf af ab);go_wp2_with fail;refine C2.mono ?_;rintro e w3 ⟨rfl,au⟩;have al:=Zb (Zf ad au);go_wp2;go_ret;exact⟨rfl,Za al⟩
 ·rw[if_pos h0] at hx;subst hx;have g:(y != 0)=true:=by simp[h0]
  go_enter func199,ntmps199;go_wp2_with fail;rw[<-ah];refine C1.mono ?_;rintro e w2 ⟨rfl,ab⟩;have ad:=Zb (Zf af ab);go_wp2;go_ret;exact⟨rfl,Za ad⟩
theorem Df(a n c L)(h:Int)(ai ao ni ci no co I O)(name ht:Int)(x:Int)(w:World)(hL:CoinsAt w a n L)(hI:InsAt w ai ni I)(hO:OutsAt w ao no O)(sI:SlOk ai ni ci)(hx:Xu L (h,I,O) name ht=x) :
  ZH 156 #[F a n c,.agg #[E J h,F ai ni ci,F ao no co],E J name,E J ht] w (E J x):=by
 have⟨X0,ak,an,ax⟩:=ka00 w [E J h,F ai ni ci,F ao no co] 50;have⟨y,hy⟩:=ZF (Vq L (h,I,O));have C1:=Zb (Be a n c L h ai ao ni ci no co I O y X0 (hL.later an) (hI.later an) (hO.later an) sI hy);have bi:=hI.1;obtain⟨x0,x1,x2,-⟩:=kc3 ax;have⟨aq,ah⟩:=kh2 ax an;unfold Xu at hx;rw[hy] at hx;have hR:isR (h,I,O)=decide (ni=0):=by unfold isR;rw[<-bi]
 rw[hR] at hx;by_cases h0:y=0
 ·subst h0;rw[if_neg (by decide)] at hx;cases hN:okN name with
  | false=>
   rw[hN,Bool.false_and,if_pos rfl] at hx;subst hx;have W1:=Zb (λw=>Y3 name 1 120 false w (by rw[<-hN];rfl));go_enter func156,ntmps156;go_wp2_with fail;rw[<-ak];refine C1.mono ?_;rintro e w2 ⟨rfl,aa⟩;have ac:=Zb (Zf ah aa);go_wp2_with fail;refine (W1 _).mono ?_;rintro e w3 ⟨rfl,rfl⟩;go_wp2;go_ret;exact⟨rfl,Za ac⟩
  | true=>
   rw[hN,Bool.true_and] at hx;have W1:=Zb (λw=>Y3 name 1 120 true w (by rw[<-hN];rfl));cases hH:okH ht with
   | false=>
    rw[hH,if_pos rfl] at hx;subst hx;have W2:=Zb (λw=>Ux ht false w hH);go_enter func156,ntmps156;go_wp2_with fail;rw[<-ak];refine C1.mono ?_;rintro e w2 ⟨rfl,aa⟩;have ac:=Zb (Zf ah aa);go_wp2_with fail;refine (W1 _).mono ?_;rintro e w3 ⟨rfl,rfl⟩;go_wp2_with fail;refine (W2 _).mono ?_;rintro e w3 ⟨rfl,rfl⟩;go_wp2;go_ret;exact⟨rfl,Za ac⟩
   | true=>
    rw[hH,if_neg (by decide)] at hx;have W2:=Zb (λw=>Ux ht true w hH)
    have bf:∀ (r:Bool) (q:Bool) (hr:decide (ni=0)=r) (hq:(h != ht)=q) (hz:(if r=true/\q=true then (4:Int) else 0)=x),ZH 156 #[F a n c,.agg #[E J h,F ai ni ci,F ao no co],E J name,E J ht] w (E J x):=by
     intro r q hr hq hz;have IR:=Zb (λw=>Rg h ai ao ni ci no co r w hr);cases r with
     | false=>
      rw[if_neg (by simp)] at hz;subst hz;go_enter func156,ntmps156;go_wp2_with fail;rw[<-ak];refine C1.mono ?_;rintro e w2 ⟨rfl,aa⟩;have hh:=ZE aa aq;have⟨c0,c1,c2,hl⟩:=kc3 hh;have ac:=Zb (Zf ah aa);go_wp2_with fail;refine (W1 _).mono ?_;rintro e w3 ⟨rfl,rfl⟩;go_wp2_with fail;refine (W2 _).mono ?_;rintro e w3 ⟨rfl,rfl⟩;go_wp2_with fail;refine (IR _).mono ?_;rintro e w3 ⟨rfl,br⟩;have bd:=Zb (Zf ac br);go_wp2;go_ret;exact⟨rfl,Za bd⟩
     | true=>
      cases q with
      | false=>
       rw[if_neg (by simp)] at hz;subst hz;go_enter func156,ntmps156;go_wp2_with fail;rw[<-ak];refine C1.mono ?_;rintro e w2 ⟨rfl,aa⟩;have hh:=ZE aa aq;have⟨c0,c1,c2,hl⟩:=kc3 hh;have⟨HH,ac⟩:=kh2 hh (Zf ah aa);go_wp2_with fail;refine (W1 _).mono ?_;rintro e w3 ⟨rfl,rfl⟩;go_wp2_with fail;refine (W2 _).mono ?_;rintro e w3 ⟨rfl,rfl⟩;go_wp2_with fail;refine (IR _).mono ?_;rintro e w4 ⟨rfl,am⟩;have d0:=Ze am c0;have bs:=aC _ _ d0;have ap:=Zb (Zf ac am);go_wp2;go_ret;exact⟨rfl,Za ap⟩
      | true=>
       rw[if_pos ⟨rfl,rfl⟩] at hz;subst hz;go_enter func156,ntmps156;go_wp2_with fail;rw[<-ak];refine C1.mono ?_;rintro e w2 ⟨rfl,aa⟩;have hh:=ZE aa aq;have⟨c0,c1,c2,hl⟩:=kc3 hh;have⟨HH,ac⟩:=kh2 hh (Zf ah aa);go_wp2_with fail;refine (W1 _).mono ?_;rintro e w3 ⟨rfl,rfl⟩;go_wp2_with fail;refine (W2 _).mono ?_;rintro e w3 ⟨rfl,rfl⟩;go_wp2_with fail;refine (IR _).mono ?_;rintro e w4 ⟨rfl,am⟩;have d0:=Ze am c0;have bs:=aC _ _ d0;have ap:=Zb (Zf ac am);go_wp2;go_ret;exact⟨rfl,Za ap⟩
    refine bf (decide (ni=0)) (h != ht) rfl rfl ?_;rw[<-hx];by_cases e1:ni=0 <;> by_cases e2:h=ht <;> simp[e1,e2]
 ·rw[if_pos h0] at hx;subst hx;have g:(y != 0)=true:=by simp[h0]
  go_enter func156,ntmps156;go_wp2_with fail;rw[<-ak];refine C1.mono ?_;rintro e w2 ⟨rfl,aa⟩;have ac:=Zb (Zf ah aa);go_wp2;go_ret;exact⟨rfl,Za ac⟩
theorem Yc{fn:Func}{p u v:Tmp}{ty:aY}(h:fn.results=#[.tmp u,.cell p ty,.tmp v])(tmps:Array Value)(P:Program)(w) :
  (results fn tmps).run P w =
   ((asAddr (tmps.getD p undef)).run P w).andThen λa w₁=>((loadVar ty a).run P w₁).andThen λx w₂=>.ok (dC #[tmps.getD u undef,x,tmps.getD v undef]) w₂:=by
 simp only[results,h];simp[Sem.run_bind,Result.andThen]
def ApR(w w':World)(x:Int)(M S:List Zi)(e:Ending):Prop:=
 ∃ am nm cm sa ns cs,e = dB (dC #[F am nm cm,.agg #[F sa ns cs],E J x])/\CoinsAt w' am nm M/\SlOk am nm cm/\CoinsAt w' sa ns S/\SlOk sa ns cs/\ZD w w'
def ApF(w w':World)(x:Int)(M S:List Zi)(e:Ending):Prop:=
 ∃ am nm cm sa ns cs,e = dB (dC #[F am nm cm,.agg #[F sa ns cs],E J x])/\Fresh w.heap.size w' (λw2=>CoinsAt w2 am nm M)/\SlOk am nm cm/\CoinsAt w' sa ns S/\SlOk sa ns cs/\ZD w w'
theorem ApF.plain{w w'}{x:Int}{M S e}(h:ApF w w' x M S e):ApR w w' x M S e:=by
 have⟨am,nm,cm,sa,ns,cs,h1,h2,h3⟩:=h;exact⟨am,nm,cm,sa,ns,cs,h1,h2 _ (Gr.refl _ _),h3⟩
theorem Z5:SlOk aD 0 0:=⟨aE _,aI _,λ_=>⟨rfl,rfl⟩⟩
theorem Gn{w w':World}{x y:Int}{M S}{b:Nat}{v}(h:(x,M,S)=((y:Int),([]:List Zi),([]:List Zi))/\w.heap.size<=b)(hb:ZD w w'):ApF w (w'.setCell ⟨b,0,aD⟩ v) x M S (dB (dC #[F aD 0 0,.agg #[F aD 0 0],E J y])):=by
 have⟨h1,h2⟩:=h;injection h1 with h1 h3;injection h3 with h3 h4;subst h1 h3 h4;exact⟨aD,0,0,aD,0,0,rfl,λ_ _=>RowsAt.nil _ _,Z5,RowsAt.nil _ _,Z5,hb.setCell (p:=⟨b,0,aD⟩) h2 _⟩
theorem Ht(a n c L)(h:Int)(ai ao ni ci no co I O)(name ht:Int)(x:Int)(M S w)(hL:CoinsAt w a n L)(sL:SlOk a n c)(hI:InsAt w ai ni I)(hO:OutsAt w ao no O)(sI:SlOk ai ni ci)(hx:apD L (h,I,O) name ht=(x,M,S)) :
  Calls aB 123 #[F a n c,.agg #[E J h,F ai ni ci,F ao no co],E J name,E J ht] w λe w'=>ApF w w' x M S e:=by
 have⟨X0,ap⟩:=ZG ((w.alloc (dA #[E J h,F ai ni ci,F ao no co] 50)).alloc (dA #[F aD 0 0] 123));have ak:ZD w X0:=by rw[ap];exact Zf (Zh _ _) (Zh _ _)
 have am:X0.heap[w.heap.size]? = dG (dA [E J h,F ai ni ci,F ao no co].toArray 50 (0,0)):=by
  rw[ap,Below.heap_alloc _ _ _ (by simp)];exact Zu _ _ _ _ _
 have bo:X0.heap[w.heap.size+1]? = dG (dA [F aD 0 0].toArray 123 (0,0)):=by
  rw[ap];have:=aG (w.alloc (dA #[E J h,F ai ni ci,F ao no co] 50)) (dA #[F aD 0 0] 123);rw[show (w.alloc (dA #[E J h,F ai ni ci,F ao no co] 50)).heap.size=w.heap.size+1 by simp] at this;exact this
 have⟨x1,h1⟩:=ZF (Xu L (h,I,O) name ht);have⟨⟨x2,S2,M2⟩,h2⟩:=ZF (Zs ht I [] L);have⟨x3,h3⟩:=ZF (N7 S2 (h,I,O));have⟨⟨x4,M4⟩,h4⟩:=ZF (Yp name ht (isR (h,I,O)) 0 O M2);have⟨x5,h5⟩:=ZF (Zz M4);rw[Zeg h1 h2 h3 h4 h5] at hx;have hR:isR (h,I,O)=decide (ni=0):=by unfold isR;rw[<-hI.1]
 have⟨C1,iw,eu,ek⟩:=kh4 (Df a n c L h ai ao ni ci no co I O name ht x1 X0 (hL.later ak) (hI.later ak) (hO.later ak) sI h1) am bo ak;by_cases e1:x1=0
 ·subst e1;rw[if_neg (by decide)] at hx;have⟨df,dg,jd,jc,_⟩:=Wq h1;have⟨t1,t2,t3,_⟩:=Xc dg;have fq:ni<=6:=by rw[<-hI.1];exact t1
  have fs:no<=6:=by rw[<-hO.1];exact t2
  have hn:n<=720:=by rw[<-hL.1];exact df.len
  have ft:=Jn dg;have fb:=Zb (λw' (hb:ZD X0 w')=>Zjk a n c L w' (by omega) ((hL.later ak).later hb) sL);have HI:=Zb (λw' (hb:ZD X0 w')=>(hI.later ak).later hb);have HO:=Zb (λw' (hb:ZD X0 w')=>(hO.later ak).later hb);have⟨es,ik,H2,H3,H4,H5,HR,HX⟩:=kh8 df ft h2 h3 h4 h5 hR hx;have ix:=Zb hL.1;have jq:w.heap.size+1<X0.heap.size:=aA bo;obtain⟨x0,x1,-⟩:=kc2 am;have eh:=Zd am 2 _ rfl;clear hL sL hI hO sI h1 am bo ak df dg jd jc t1 t2 t3 ft h2 h3 h4 h5 hR hx;go_enter func123,ntmps123;go_wp2_with fail;rw[<-ap];clear ap;refine C1.mono ?_;rintro e w2 ⟨rfl,af⟩;have⟨fa,ii,eo⟩:=kh3 (fb w2 af) (HI w2 af) (HO w2 af);have fm:=ZE af iw;have bu:=ZE af eu;have⟨bx,ca,bg⟩:=kh3 fm bu (Zf ek af);clear af fm bu x0 x1 eh fb C1;go_wp2_with fail;refine fa.mono ?_;rintro e w3 ⟨p,v,K,rfl,hK,dd⟩;have cl:K.length=n:=by rw[<-Za ix,<-hK,List.length_map]
  have fz:Srt (K.map (·.1)):=by rw[hK];exact es.srt
  have dq:∀ z∈K,ck1 z.1=0:=λz hz=>es.one z.1 (by rw[<-hK];exact List.mem_map_of_mem hz);have SP:=Zb (Zki w2 w3 p v K ai ni ci I ht x2 S2 M2 dd fz (by omega) dq ii fq (by rw[hK];exact Za H2));have fo:=ZE dd.bel bx;obtain⟨-,c1,jg⟩:=kc2 fo;have⟨ep,en⟩:=kh2 dq cl;have ki:w.heap.size+1<w2.heap.size:=aA ca;clear hK dd cl fz dq fo fa;go_wp2_with fail;refine SP.mono ?_;rintro e w4 ⟨sa,ns,cs,rfl,aq,dt⟩;have dn:=ZE aq bx;have du:=ZE aq ca;obtain⟨d0,d1,d2,-⟩:=kc3 dn;obtain⟨u4,f4,-⟩:=kf1 du;have jh:=aA dn;have ji:=aA du;have ib:=Zb aq;clear dn du c1 jg;by_cases e2:x2=0
  ·subst e2;have⟨v4,K4,T4,q1,q2,q3,q4,q5,q6,q7,q8,q9,dz,gb,s4,gc,gd,gf⟩:=dt rfl;have hx:=Za HX;rw[if_neg (by decide)] at hx;have ev:=Zb hx;have fj:∀ z∈T4,LkAt w4 z:=λz hz=>(q8 z hz).later aq;have dr:w4.ownsRow w2.heap.size 162 6 (F sa ns cs) T4.length (Zl T4):=(by have h:=q7;rw[q5] at h ⊢;exact h);have⟨ee,dc,e,dj,jp⟩:=Yr dr fj;have e2:sa=ee/\ns=T4.length/\cs=dc:=(by injection e with e1 e2 e3;exact⟨e1,e2,e3⟩);obtain⟨rfl,-,rfl⟩:=e2;rw[q1,<-q5] at dj;have jo:ns<=6:=by rw[q5,q6];exact fq
   have fi:∀ z∈S2,0<=cv z/\cv z<=1000000000:=λz hz=>by
    rw[<-q1] at hz;obtain⟨y,hy,rfl⟩:=List.mem_map.1 hz;have:=Yt (ep y (dz y hy));omega
   have⟨ei,il,im,iv⟩:=kh4 (Zil sa ns cs S2 h ai ao ni ci no co O x3 w4 jo fs dj (eo.later aq) fi ik (by have:=Za H3;unfold N7 at this;rw[Za HR] at this;exact this)) gb dr q8;have HQ:Hid (T4.map (·.1)=S2/\K4.map (·.1)=M2/\Srt M2/\K4.length<=K.length/\ns=T4.length/\(bW sa ns cs).ownBlock=dG s4/\v4.ownBlock≠dG s4/\s4≠p):=⟨q1,q2,q3,q4,q5,gc,gd,gf⟩;have iu:=Zb dz;clear dt q1 q2 q3 q4 q5 q6 q7 q8 q9 dz gb gc gd gf hx fj dr dj jp fi e aq;go_wp2_with fail;refine ei.mono ?_;rintro e w5 ⟨rfl,di⟩;have cm:=il.kept di;have dp:=ZE cm.bel bx;have dv:=ZE cm.bel ca;obtain⟨g0,g1,g2,-⟩:=kc3 dp;obtain⟨u5,f5,-⟩:=kf1 dv;have jj:=aA dp;have jk:=aA dv;have⟨eq,io⟩:=kh2 cm ((Gr.of (S:=λ_=>False) di).own im (λ_ _ q=>q));clear di cm dp dv d0 d1 d2 u4 f4 jh ji ei;by_cases e3:x3=0
   ·subst e3;have hx:=Za ev;rw[if_neg (by decide)] at hx;have ew:=Zb hx;have hq:=Za HQ;have cl:=Za en;have GV:=Zb (Zqq w2 w5 p v4 K4 h ai ao ni ci no co O name ht (decide (ni=0)) x4 M4 eq (by rw[hq.2.1];exact hq.2.2.1) (by omega) eo fs rfl (by rw[hq.2.1,<-Za HR];exact Za H4));clear hx hq cl;go_wp2_with fail;refine GV.mono ?_;rintro e w6 ⟨rfl,cn,dm⟩;have jf:=ZE cn bx;have dw:=ZE cn ca;obtain⟨u6,f6,-⟩:=kf1 dw;have jl:=aA dw;have cx:=Zb cn;clear jf dw g0 g1 g2 u5 f5 jj jk;by_cases e4:x4=0
    ·subst e4;have⟨v6,K6,r1,r2,r3,r4,r5⟩:=dm rfl;have hx:=Za ew;rw[if_neg (by decide)] at hx;have ey:=Zb hx;obtain⟨a6,c6,rfl,cq,fw⟩:=r4.coins;have fg:K6.length<=726:=(by have:=HQ.2.2.2.1;have:=Za en;omega);have⟨n6,bs⟩:=ZF (K6.length);rw[r1,bs] at cq;have cp:=r4.box;rw[bs] at cp;have p6:=Zd (X:=[F a6 n6 c6]) cp 0 _ rfl;have kg:=aA cp;have CK:=Zb (Vw a6 n6 c6 M4 x5 w6 cq H5);have hq:=Za HQ
     have fp:¬PuS p v4 s4:=by
      rintro (e|e)
      ·exact hq.2.2.2.2.2.2.2 e
      ·exact hq.2.2.2.2.2.2.1 e
     have fu:=r5.own io (λk hk=>by
      rw[show (bW sa ns cs).ownBlock=dG s4 from hq.2.2.2.2.2.1] at hk;cases hk;exact fp)
     have⟨ip,ic⟩:=kh2 fu cq;have ir:Hid (SlOk a6 n6 c6):=(by rw[<-bs];exact fw);have kd:n6<=726:=(by rw[<-bs];exact fg);clear dm hx r1 r2 r3 r4 r5 cq fw fg bs cp hq fp fu cn;go_wp2_with fail;refine CK.mono ?_;rintro e w7 ⟨rfl,ar⟩;have p7:=Ze ar p6;have kh:=aC _ _ p7;have dx:=Ze ar u6;have jm:=aC _ _ dx;have f7:w7.frozen? ⟨w.heap.size+1,0,aD⟩=false:=(bY (w:=w6) (a:=⟨w.heap.size+1,0,aD⟩) (ar.block _ jl)).trans f6;have cy:Hid (ZD w2 w7):=cx.trans (ar.mono cx.size);have⟨id,iq⟩:=kh2 (ic.later ar) ((Gr.of (S:=λ_=>False) ar).own ip (λ_ _ q=>q));clear ar p6 u6 f6;by_cases e5:x5=0
     ·subst e5;have hx:=Za ey;rw[if_neg (by decide)] at hx;have jr:x=0:=(by injection hx with hx _;exact hx.symm);have js:M=M4:=(by injection hx with _ hx;injection hx with hx _;exact hx.symm);have jt:S=S2:=(by injection hx with _ hx;injection hx with _ hx;exact hx.symm);subst jr js jt;have fh:=(Z6 M).1 H5;have gv:=Zb (Jw a6 n6 c6 M w7 (by omega) id ir (λz hz=>by have:=Pv (Yt (fh.one z hz)).2.2.2.2.2.2.2.2;omega));clear hx fh;go_wp2_with fail;refine gv.mono ?_;rintro e w8 ⟨a8,c8,rfl,fk,fx,bd⟩;have fv:=(Gr.of (S:=λ_=>False) bd).own iq (λ_ _ q=>q);have dh:ZD w2 w8:=cy.trans (bd.mono cy.size);have hq:=Za HQ;have⟨ee,dc,e,dl,ds⟩:=Yr fv (λz hz=>(iv z hz).later dh);have e2:sa=ee/\cs=dc:=(by injection e with e1 e2 e3;exact⟨e1,e3⟩);obtain⟨rfl,rfl⟩:=e2;rw[hq.1,<-hq.2.2.2.2.1] at dl;rw[<-hq.2.2.2.2.1] at ds
      have gw:=Zb (Jw sa ns cs S w8 (by omega) dl ds (λz hz=>by
       rw[<-hq.1] at hz;obtain⟨y,hy,rfl⟩:=List.mem_map.1 hz;have:=Pv (Yt (ep y (iu y hy))).2.2.2.2.2.2.2.2;omega))
      have u8:=Ze bd dx;have jn:=aC _ _ u8;have f8:w8.frozen? ⟨w.heap.size+1,0,aD⟩=false:=(bY (w:=w7) (a:=⟨w.heap.size+1,0,aD⟩) (bd.block _ jm)).trans f7;have⟨ig,it,el⟩:=kh3 fk fx dh;have ke:w7.heap.size<=w8.heap.size:=bd.size;clear fk fx bd fv dh hq dl ds e p7 dx f7;go_wp2_with fail;refine gw.mono ?_;rintro e w9 ⟨a9,c9,rfl,fl,fy,br⟩;have u9:=Ze br u8;have kf:=aC _ _ u9;have f9:w9.frozen? ⟨w.heap.size+1,0,aD⟩=false:=(bY (w:=w8) (a:=⟨w.heap.size+1,0,aD⟩) (br.block _ jn)).trans f8
      have ie:Hid (ApF w (w9.setCell ⟨w.heap.size+1,0,aD⟩ (F a9 ns c9)) 0 M S (dB (dC #[F a8 n6 c8,.agg #[F a9 ns c9],E J 0]))):=by
       refine⟨a8,n6,c8,a9,ns,c9,rfl,?_,Za it,?_,fy,?_⟩
       ·exact λw2 g2=>ig w2 (((Gr.of br).one (w.heap.size+1) 0 (.inl (by show w.heap.size+1<w7.heap.size;omega)) _).trans (g2.mono (λ_ _ hk=>aF hk (by omega))))
       ·exact fl _ ((Gr.refl w9 (λk=>k<w8.heap.size)).one (w.heap.size+1) 0 (.inl (by show w.heap.size+1<w8.heap.size;omega)) _)
       ·have je:ZD w2 w9:=el.trans (br.mono el.size);exact (Zf bg je).setCell (p:=⟨w.heap.size+1,0,aD⟩) (Nat.le_succ _) _
      clear fl fy br u8 f8;go_wp2;(try simp only[bQ,Exit.then]);refine aL (v:=dC #[F a8 n6 c8,.agg #[F a9 ns c9],E J 0]) ?_ rfl ie;rw[Yc rfl];go_simp
     ·have g:(x5 != 0)=true:=(by simp[e5]);have HE:Hid ((x,M,S)=((x5:Int),([]:List Zi),([]:List Zi))/\w.heap.size<=w.heap.size+1):=⟨by have:=Za ey;rw[if_pos e5] at this;exact this.symm,Nat.le_succ _⟩;have ag:=Zb (Zf bg cy);clear e5 p7;go_wp2;(try simp only[bQ,Exit.then]);refine aL (v:=dC #[F aD 0 0,.agg #[F aD 0 0],E J x5]) ?_ rfl ?_
      ·rw[Yc rfl];go_simp
      ·exact Gn HE ag
    ·have g:(x4 == 0)=false:=(by simp[e4]);have g':(x4 != 0)=true:=(by simp[e4]);have HE:Hid ((x,M,S)=((x4:Int),([]:List Zi),([]:List Zi))/\w.heap.size<=w.heap.size+1):=⟨by have:=Za ew;rw[if_pos e4] at this;exact this.symm,Nat.le_succ _⟩;have ag:=Zb (Zf bg cx);clear e4 dm;go_wp2;(try simp only[bQ,Exit.then]);refine aL (v:=dC #[F aD 0 0,.agg #[F aD 0 0],E J x4]) ?_ rfl ?_
     ·rw[Yc rfl];go_simp
     ·exact Gn HE ag
   ·have g:(x3 == 0)=false:=(by simp[e3]);have g':(x3 != 0)=true:=(by simp[e3]);have HE:Hid ((x,M,S)=((x3:Int),([]:List Zi),([]:List Zi))/\w.heap.size<=w.heap.size+1):=⟨by have:=Za ev;rw[if_pos e3] at this;exact this.symm,Nat.le_succ _⟩;have ag:=Zb (Zf bg eq.bel);clear e3;go_wp2;(try simp only[bQ,Exit.then]);refine aL (v:=dC #[F aD 0 0,.agg #[F aD 0 0],E J x3]) ?_ rfl ?_
    ·rw[Yc rfl];go_simp
    ·exact Gn HE ag
  ·have g:(x2 == 0)=false:=(by simp[e2]);have g':(x2 != 0)=true:=(by simp[e2]);have HE:Hid ((x,M,S)=((x2:Int),([]:List Zi),([]:List Zi))/\w.heap.size<=w.heap.size+1):=⟨by have:=Za HX;rw[if_pos e2] at this;exact this.symm,Nat.le_succ _⟩;have ag:=Zb (Zf bg ib);clear e2 dt aq;go_wp2;(try simp only[bQ,Exit.then]);refine aL (v:=dC #[F aD 0 0,.agg #[F aD 0 0],E J x2]) ?_ rfl ?_
   ·rw[Yc rfl];go_simp
   ·exact Gn HE ag
 ·have g:(x1 != 0)=true:=by simp[e1]
  have HE:Hid ((x,M,S)=((x1:Int),([]:List Zi),([]:List Zi))/\w.heap.size<=w.heap.size+1):=⟨by rw[if_pos e1] at hx;exact hx.symm,Nat.le_succ _⟩;have x0:=Zd am 0 _ rfl;have jy:=Zd am 1 _ rfl;have eh:=Zd am 2 _ rfl;have jq:w.heap.size+1<X0.heap.size:=aA bo;clear hL sL hI hO sI h1 am bo ak h2 h3 h4 h5 hR hx e1;go_enter func123,ntmps123;go_wp2_with fail;rw[<-ap];clear ap;refine C1.mono ?_;rintro e w2 ⟨rfl,af⟩;have bu:=ZE af eu;obtain⟨u2,f2,-⟩:=kf1 bu;have ag:=Zb (Zf ek af);clear af bu x0 jy eh;go_wp2;(try simp only[bQ,Exit.then]);refine aL (v:=dC #[F aD 0 0,.agg #[F aD 0 0],E J x1]) ?_ rfl ?_
  ·rw[Yc rfl];go_simp
  ·exact Gn HE ag
theorem Zob(a n c L)(h:Int)(ai ao ni ci no co I O)(name ht:Int)(x:Int)(M S w)(hL:CoinsAt w a n L)(sL:SlOk a n c)(hI:InsAt w ai ni I)(hO:OutsAt w ao no O)(sI:SlOk ai ni ci)(hx:apD L (h,I,O) name ht=(x,M,S)) :
  Calls aB 123 #[F a n c,.agg #[E J h,F ai ni ci,F ao no co],E J name,E J ht] w λe w'=>ApR w w' x M S e:=
 (Ht a n c L h ai ao ni ci no co I O name ht x M S w hL sL hI hO sI hx).mono λ_ _ q=>q.plain
theorem Zgj{P:Program}{w:World}{ops}{o:Oper}{a:Act}{K:Act->World->Prop}{Q:Exit->Act->World->Prop}{aa:Prop}
  (hg:o.guard=aD) (l c:Operand) (t:aY) (al:o.op=Op.makeSlice t l c)
  (base:Nat) (e:aY) (i:TypeInfo) (z:Value) (size:Nat) (h1:P.underlying t=dG (.slice e)) (h2:P.info? e=dG i) (h3:i.zero=dG z) (h4:i.size=size)
  (kl kc:IntKind) (L C:Int) (n:Nat) (hl:a.eval l = .int kl L) (hc:a.eval c = .int kc C) (hL:L=(n:Int)) (hC:C=(n:Int)) (b2:i.bytes*n<=281474976710656) (b3:n<=aT) (b4:base<=w.heap.size) (H:Nat) (hH:w.heap.size=H)
  (hK:∀ w',w'.ownsRow base e size (F (dG ⟨H,0,aD⟩) n n) n (madeCells z.cells (n*size)).toList->w.grownBy w' aD->K (a.put o.dst (F (dG ⟨H,0,aD⟩) n n)) w') :
  if Region.wanted o (yielded ops a.tmps)=true then Oper.wp P o a w K Q else aa:=by
 rw[if_pos (by simp[Region.wanted,hg])];subst hH;have⟨w',am,r1,r2⟩:=run_make_full (P:=P) w base t e i z size h1 h2 h3 h4 kl kc n b2 b3 b4;subst hL;subst hC;unfold Oper.wp;simp[execOp,al,hl,hc,am,Result.andThen];exact hK w' r1 r2
def Uv:TxD:=(0,[],[])
def Ws(h r:Int)(T:List TxD)(N:List Int):Nat->Nat->List Zi->List (List Zi)->Int×List Zi×List (List Zi)
 | 0,_,C,S=>(0,C,S)
 | q+1,k,C,S=>
  if (k+1) % T.length=0/\Y8 r T S T.length<0 then (9,[],[])
  else if (apD C (T.getD ((k+1) % T.length) Uv) (N.getD ((k+1) % T.length) 0) h).1≠0 then ((apD C (T.getD ((k+1) % T.length) Uv) (N.getD ((k+1) % T.length) 0) h).1,[],[])
  else Ws h r T N q (k+1) (apD C (T.getD ((k+1) % T.length) Uv) (N.getD ((k+1) % T.length) 0) h).2.1 (S.set ((k+1) % T.length) (apD C (T.getD ((k+1) % T.length) Uv) (N.getD ((k+1) % T.length) 0) h).2.2)
def Xf(K:List ByteArray)(C:List Zi)(b:Zk):Int×List Zi×List (List Zi):=
 if (nfD K C b).2≠0 then ((nfD K C b).2,[],[]) else Ws b.2.1 (rwD b.2.1).1 b.2.2.2.2 (nfD K C b).1 b.2.2.2.2.length 0 C (bP b.2.2.2.2.length [])
theorem M5{h r:Int}{T:List TxD}{N:List Int}{q k i:Nat}{C}{S:List (List Zi)}(hi:(k+1) % T.length=i){t}(ht:T.getD i Uv=t){nm:Int}(hn:N.getD i 0=nm){y:Int}{M s}(ha:apD C t nm h=(y,M,s)) :
  Ws h r T N (q+1) k C S=if i=0/\Y8 r T S T.length<0 then (9,[],[]) else if y≠0 then (y,[],[]) else Ws h r T N q (k+1) M (S.set i s):=by
 rw[Ws,hi,ht,hn,ha]
theorem Dn(h:Int):∀ (I:List InD) (S L S' M:List Zi),Zs h I S L=(0,S',M)->S'.length=S.length+I.length/\∀ c∈S',c∈S\/c∈L
 | [],S,L,S',M,e=>by
  simp only[Zs,Prod.mk.injEq] at e;obtain⟨_,rfl,rfl⟩:=e;exact⟨by simp,λc hc=>.inl hc⟩
 | x :: I,S,L,S',M,e=>by
  rw[Zs] at e;split at e
  ·simp at e
  ·next c L' hT=>
   split at e
   ·simp at e
   ·split at e
    ·simp at e
    ·have⟨h1,h2⟩:=Dn h I (S++[c]) L' S' M e;refine⟨by rw[h1];simp;omega,λz hz=>?_⟩;have⟨q1,_,q2⟩:=Tn hT
     rcases h2 z hz with q|q
     ·rcases bM.1 q with q|q
      ·exact .inl q
      ·rw[cT.1 q];exact .inr q1
     ·rw[q2] at q;exact .inr (List.mem_filter.1 q).1
theorem Bj{L t}{name h:Int}{M S:List Zi}(e:apD L t name h=(0,M,S)):S.length<=6/\∀ c∈S,0<=cv c/\cv c<=1000000000:=by
 unfold apD at e;split at e
 ·next q=>simp at e;exact absurd e.1 q
 ·next q=>
  split at e
  ·next q=>simp at e;exact absurd e.1 q
  ·next q2=>
   split at e
   ·next q=>simp at e;exact absurd e.1 q
   ·split at e
    ·next q=>simp at e;exact absurd e.1 q
    ·split at e
     ·next q=>simp at e;exact absurd e.1 q
     ·have q:=bD.1 q;have q2:=bD.1 q2;have⟨hR,hT,_⟩:=Wq q;simp only[Prod.mk.injEq] at e;obtain⟨_,_,rfl⟩:=e;obtain⟨x,S',M',hs⟩:∃ x S' M',Zs h t.2.1 [] L=(x,S',M'):=⟨_,_,_,rfl⟩;rw[hs] at q2 ⊢;simp only at q2;subst q2;have⟨h1,h2⟩:=Dn h t.2.1 [] L S' M' hs;have h6:=(Xc hT).1;refine⟨by simp at h1;simp only;omega,λc hc=>?_⟩
      rcases h2 c hc with q|q
      ·cases q
      ·have:=Yt (hR.one c q);omega
theorem Zbs{w:World}{b:Nat}{X:List Value}{t:aY}(h:w.heap[b]? = dG (dA X.toArray t (0,0)))(j:Nat)(u):(w.setCell ⟨b,j,aD⟩ u).heap[b]? = dG (dA (X.set j u).toArray t (0,0)):=by
 rw[setCell_eq_setRow w b j X.toArray t (0,0) u h];have:=setRow_heap w b _ (X.toArray.setIfInBounds j u) t _ h;simpa using this
def UsOk(ty:aY)(g m:Nat)(w:World):Prop:=∃ cs:List Value,w.heap[g]? = dG (dA cs.toArray ty (0,0))/\cs.length=m/\∀ v∈cs,∃ a n c,v = F a n c
def UsAt(ty:aY)(g:Nat)(S:List (List Zi))(w:World):Prop:=∃ cs:List Value,w.heap[g]? = dG (dA cs.toArray ty (0,0))/\cs.length=S.length/\∀ i (h:i<S.length),∃ a n c,cs[i]? = dG (F a n c)/\CoinsAt w a n S[i]/\SlOk a n c
section
section
variable {ty : TypeId} {g m : Nat} {w w' : World} {S : List (List Zi)}
theorem UsAt.ok(h:UsAt ty g S w):UsOk ty g S.length w:=by
 have⟨cs,h1,h2,h3⟩:=h;refine⟨cs,h1,h2,λv hv=>?_⟩;obtain⟨i,hi,rfl⟩:=List.getElem_of_mem hv;have⟨a,n,c,h4,_⟩:=h3 i (by omega);rw[bR hi] at h4;exact⟨a,n,c,Option.some.inj h4⟩
theorem UsOk.lt(h:UsOk ty g m w):g<w.heap.size:=by have⟨cs,h1,_⟩:=h;exact aA h1
theorem UsOk.later(h:UsOk ty g m w)(hb:ZD w w'):UsOk ty g m w':=by
 have⟨cs,h1,h2,h3⟩:=h;exact⟨cs,(hb.block g (aA h1)).trans h1,h2,h3⟩
theorem UsOk.cell(h:UsOk ty g m w){i:Nat}(hi:i<m):∃ z,w.cell? ⟨g,i,aD⟩=dG z:=by
 have⟨cs,h1,h2,_⟩:=h;exact⟨cs[i]'(by omega),Zd h1 i _ (bR (by omega))⟩
theorem UsOk.free(h:UsOk ty g m w)(i:Nat):w.frozen? ⟨g,i,aD⟩=false:=by
 have⟨cs,h1,_⟩:=h;exact Zg h1 i
theorem UsOk.put(h:UsOk ty g m w)(i:Nat)(a n c):UsOk ty g m (w.setCell ⟨g,i,aD⟩ (F a n c)):=by
 have⟨cs,h1,h2,h3⟩:=h;refine⟨cs.set i (F a n c),Zbs h1 i _,by simpa using h2,λv hv=>?_⟩
 rcases List.mem_or_eq_of_mem_set hv with q|rfl
 ·exact h3 v q
 ·exact⟨a,n,c,rfl⟩
theorem UsOk.other(h:UsOk ty g m w){b o:Nat}{k:IntKind}{x:Int}(hc:w.cell? ⟨b,o,aD⟩=dG (.int k x)):b≠g:=by
 rintro rfl;have⟨cs,h1,_,h3⟩:=h
 have:cs[o]? = dG (.int k x):=by
  rw[cell_of_row w b o cs.toArray ty (0,0) h1] at hc;simpa using hc
 have⟨a,n,c,e⟩:=h3 _ (List.mem_of_getElem? this);cases e
theorem Zsc{a n l}(h:OpsAt w a n l)(ho:UsOk ty g m w)(hg:Gr w w' (λq=>q=g)):OpsAt w' a n l:=by
 refine⟨h.1,λh0=>?_⟩;obtain⟨b,off,rfl,hc⟩:=h.2 h0;refine⟨b,off,rfl,λi hi=>?_⟩;have⟨c0,c1⟩:=hc i hi;have hb:=hg.block b (aC _ _ c0) (ho.other c0);exact⟨(bU (a:=⟨b,off+i*2,aD⟩) hb).trans c0,(bU (a:=⟨b,off+i*2+1,aD⟩) hb).trans c1⟩
theorem Uo{a n L}(h:CoinsAt w a n L)(ho:UsOk ty g m w)(hg:Gr w w' (λq=>q=g)):CoinsAt w' a n L:=by
 refine⟨h.1,λh0=>?_⟩;obtain⟨b,off,rfl,hl,hc⟩:=h.2 h0;refine⟨b,off,rfl,aF hl hg.size,λi hi=>?_⟩;have⟨c0,c1,c2,⟨la,ln,lc,c3,h5,h6⟩,c4,c5⟩:=hc i hi;have hb:=hg.block b hl (ho.other c0);have k:=λ(o:Nat)=>bU (a:=⟨b,o,aD⟩) hb;exact⟨(k _).trans c0,(k _).trans c1,(k _).trans c2,⟨la,ln,lc,(k _).trans c3,Zsc h5 ho hg,h6⟩,(k _).trans c4,(k _).trans c5⟩
theorem UsAt.later(h:UsAt ty g S w)(hb:ZD w w'):UsAt ty g S w':=by
 have⟨cs,h1,h2,h3⟩:=h;refine⟨cs,(hb.block g (aA h1)).trans h1,h2,λi hi=>?_⟩;have⟨a,n,c,q1,q2,q3⟩:=h3 i hi;exact⟨a,n,c,q1,q2.later hb,q3⟩
theorem UsAt.put(h:UsAt ty g S w)(i:Nat){a n c s}(hs:CoinsAt w a n s)(sl:SlOk a n c):UsAt ty g (S.set i s) (w.setCell ⟨g,i,aD⟩ (F a n c)):=by
 have ho:=h.ok;have hg:=(Gr.refl w (λq=>q=g)).one g i (.inl rfl) (F a n c);have⟨cs,h1,h2,h3⟩:=h;refine⟨cs.set i (F a n c),Zbs h1 i _,by simpa using h2,λj hj=>?_⟩;have ae:j<S.length:=by simpa using hj
 by_cases e:i=j
 ·subst e;refine⟨a,n,c,by rw[List.getElem?_set_self (by omega)],?_,sl⟩;rw[cY];exact Uo hs ho hg
 ·have⟨a',n',c',q1,q2,q3⟩:=h3 j ae;refine⟨a',n',c',by rw[List.getElem?_set_ne e];exact q1,?_,q3⟩;rw[List.getElem_set_ne e];exact Uo q2 ho hg
theorem UsAt.undo(h:UsAt ty g S w)(i:Nat)(hi:i<S.length):UndoAt w g (0+i) S[i]:=by
 have⟨cs,h1,h2,h3⟩:=h;have⟨a,n,c,q1,q2,q3⟩:=h3 i hi;exact⟨a,n,c,by rw[bO];exact Zd h1 i _ q1,q2,q3⟩
theorem Zji{base:Nat}(h:w.ownsRow base ty 1 (F (dG ⟨g,0,aD⟩) m m) m (bP m (F aD 0 0))):UsAt ty g (bP m []) w:=by
 rcases h.2 with ⟨e,_⟩|⟨g',ad,aa,e,hg,hh,h1,h2,h3,h4⟩
 ·cases e
 ·cases e;refine⟨aa.toList,by simpa using hh,?_,λi hi=>?_⟩
  ·simp;omega
  ·have ac:i<m:=(by simpa using hi);refine⟨aD,0,0,?_,?_,Z5⟩
   ·have h5:(aa.toList.take (m*1))[i]? = (bP m (bW aD 0 0))[i]?:=(by rw[h4]);rw[List.getElem?_take,if_pos (by omega)] at h5;rw[h5];simp[ac]
   ·rw[List.getElem_replicate];exact⟨rfl,λh=>absurd h (by omega)⟩
end
def UndosAt(w:World)(a:Option Addr)(n:Nat)(S:List (List Zi)):Prop:=S.length=n/\(0<n->∃ b off,a=dG ⟨b,off,aD⟩/\b<w.heap.size/\∀ i (h:i<S.length),UndoAt w b (off+i) S[i])
theorem UndosAt.later{w w':World}{a n S}(h:UndosAt w a n S)(hb:ZD w w'):UndosAt w' a n S:=by
 refine⟨h.1,λh0=>?_⟩;have⟨b,off,e,hl,hc⟩:=h.2 h0;exact⟨b,off,e,aF hl hb.size,λi hi=>(hc i hi).kept hb⟩
theorem UsAt.undos{ty:aY}{g}{S:List (List Zi)}{w}(h:UsAt ty g S w):UndosAt w (dG ⟨g,0,aD⟩) S.length S:=⟨rfl,λ_=>⟨g,0,rfl,h.ok.lt,λi hi=>h.undo i hi⟩⟩
def Zjb(w w':World)(x:Int)(C:List Zi)(S:List (List Zi))(e:Ending):Prop:=
 ∃ a n c ua un uc,e = dB (dC #[F a n c,F ua un uc,E J x])/\CoinsAt w' a n C/\SlOk a n c/\UndosAt w' ua un S/\SlOk ua un uc/\ZD w w'/\∀ ad,ua=dG ad->w.heap.size<=ad.block
theorem Ry{w w':World}{x y:Int}{C S}(h:((y:Int),([]:List Zi),([]:List (List Zi)))=(x,C,S))(hb:ZD w w'):Zjb w w' x C S (dB (dC #[F aD 0 0,F aD 0 0,E J y])):=by
 injection h with h1 h2;injection h2 with h2 h3;subst h1 h2 h3;exact⟨aD,0,0,aD,0,0,rfl,⟨rfl,λh=>absurd h (by omega)⟩,Z5,⟨rfl,λh=>absurd h (by omega)⟩,Z5,hb,λad e=>by cases e⟩
end
theorem Zps(w a):OpsAt w a 0 []:=⟨rfl,λh=>absurd h (by omega)⟩
def flat:List (Int×Int)->List Value
 | []=>[]
 | o :: r=>E J o.1 :: E J o.2 :: flat r
theorem Ww:∀ l:List (Int×Int),(flat l).length=l.length*2
 | []=>rfl
 | _ :: r=>by simp only[flat,cK,Ww r];omega
theorem Hg:∀ l m:List (Int×Int),flat (l++m)=flat l++flat m
 | [],_=>rfl
 | _ :: r,m=>by simp only[List.cons_append,flat,Hg r m]
theorem Ju:∀ (l:List (Int×Int)) (i:Nat),i<l.length->(flat l)[i*2]? = dG (E J (l.getD i (0,0)).1)/\(flat l)[i*2+1]? = dG (E J (l.getD i (0,0)).2)
 | [],i,h=>absurd h (by simp)
 | o :: r,0,_=>⟨rfl,rfl⟩
 | o :: r,i+1,h=>by
  have:=Ju r i (by simpa using h);have e:(i+1)*2=i*2+2:=by omega
  rw[e];exact this
theorem flat_one:∀ (l:List (Int×Int)) (u:Value),u∈flat l->u.oneCell'=true
 | [],_,h=>by cases h
 | o :: r,u,h=>by
  simp only[flat,aW] at h
  rcases h with rfl|rfl|h
  ·rfl
  ·rfl
  ·exact flat_one r u h
theorem OpsAt.flat{w:World}{x:Addr}{len:Nat}{l}(h:OpsAt w (dG x) len l)(j:Nat)(u)(hj:(flat l)[j]? = dG u):w.cell? (x.add j)=dG u:=by
 have ad:j<(YtbddijbmepdliaaGreatDoor.flat l).length:=by
  rcases Nat.lt_or_ge j (YtbddijbmepdliaaGreatDoor.flat l).length with h|h
  ·exact h
  ·rw[List.getElem?_eq_none h] at hj;cases hj
 rw[Ww] at ad;have hz:=h.1;have⟨b,off,hx,hc⟩:=h.2 (by omega);cases hx;have ac:(⟨b,off,aD⟩:Addr).add j=⟨b,off+j,aD⟩:=by unfold Addr.add;split <;> simp_all
 rw[ac];obtain⟨i,hi|hi⟩:∃ i,j=i*2\/j=i*2+1:=⟨j / 2,by omega⟩
 ·subst hi;have f:=(Ju l i (by omega)).1;rw[f] at hj;rw[(hc i (by omega)).1];exact hj
 ·subst hi;have f:=(Ju l i (by omega)).2;rw[f] at hj;rw[<-Nat.add_assoc,(hc i (by omega)).2];exact hj
theorem L7{w:World}{base:Nat}{e:aY}{v}{n:Nat}{l}(h:w.ownsRow base e 2 v n (flat l)):∃ a cap,v = F a n cap/\OpsAt w a n l:=by
 have hl:l.length=n:=by have:=h.1;rw[Ww] at this;omega
 rcases h.2 with ⟨rfl,rfl⟩|⟨g,cap,ab,rfl,_,_,_,_,_,_⟩
 ·have e:l=[]:=aJ.1 hl;subst e;exact⟨aD,0,rfl,Zps _ _⟩
 ·refine⟨_,cap,rfl,hl,λ_=>⟨g,0,rfl,λi hi=>?_⟩⟩;have f:=Ju l i (by omega);rw[bO,bH h (i*2) (by omega),bH h (i*2+1) (by omega)];exact f
theorem Qe{w:World}{base:Nat}{e:aY}{size:Nat}{v:Value}{n:Nat}{xs}(h:w.ownsRow base e size v n xs)(k:Nat)(hk:v.ownBlock=dG k):base<=k:=by
 rcases h.2 with ⟨rfl,_⟩|⟨g,cap,ac,rfl,hg,_⟩
 ·cases hk
 ·cases hk;exact hg
theorem Xi{w w':World}{base:Nat}{e:aY}{size:Nat}{v}{n:Nat}{xs}(h:w.ownsRow base e size v n xs)(hb:ZD w w'):w'.ownsRow base e size v n xs:=by
 obtain⟨hl,h0|⟨g,cap,ac,hv,hg,hh,r⟩⟩:=h
 ·exact⟨hl,.inl h0⟩
 ·exact⟨hl,.inr ⟨g,cap,ac,hv,hg,(hb.block g (aA hh)).trans hh,r⟩⟩
theorem L0{w:World}{base aa:Nat}{e:aY}{size:Nat}{v}{n:Nat}{xs}(h:w.ownsRow base e size v n xs)(hb:aa<=base):w.ownsRow aa e size v n xs:=by
 obtain⟨hl,h0|⟨g,cap,ac,hv,hg,hh,r⟩⟩:=h
 ·exact⟨hl,.inl h0⟩
 ·exact⟨hl,.inr ⟨g,cap,ac,hv,Nat.le_trans hb hg,hh,r⟩⟩
def Zfi:List (InD×Value)->List Value
 | []=>[]
 | x :: r=>E J x.1.1 :: E J x.1.2.1 :: x.2 :: Zfi r
def Ek:List (Yd×Value)->List Value
 | []=>[]
 | x :: r=>E J x.1.1 :: x.2 :: Ek r
theorem Wv{w w':World}{base:Nat}{e:aY}{size:Nat}{v}{n:Nat}{xs}(h:w.ownsRow base e size v n xs)(hk:∀ (k:Nat) (cs:Array Value),w.heap[k]? = dG (dA cs e (0,0))->w'.heap[k]? = w.heap[k]?):w'.ownsRow base e size v n xs:=by
 obtain⟨hl,h0|⟨g,cap,aa,hv,hg,hh,r⟩⟩:=h
 ·exact⟨hl,.inl h0⟩
 ·exact⟨hl,.inr ⟨g,cap,aa,hv,hg,(hk g aa hh).trans hh,r⟩⟩
structure PL(w:World)(q p lb:Nat)(A:Array Value)(h:Int)(wr:World)(v1 v2:Value)(L1:List (InD×Value))(L2:List (Yd×Value)):Prop where
 box:wr.heap[p]? = dG (dA #[E J h,v1,v2] 50 (0,0))
 res:wr.heap[q]? = dG (dA #[E J 0,F aD 0 0,F aD 0 0] 50 (0,0))
 pq:p≠q
 lin:wr.heap[lb]? = dG (dA A 9 (0,0))
 own1:wr.ownsRow w.heap.size 90 3 v1 L1.length (Zfi L1)
 own2:wr.ownsRow w.heap.size 92 2 v2 L2.length (Ek L2)
 keys1:∀ x∈L1,wr.ownsRow w.heap.size 139 2 x.2 x.1.2.2.length (flat x.1.2.2)
 keys2:∀ x∈L2,wr.ownsRow w.heap.size 139 2 x.2 x.1.2.length (flat x.1.2)
 bel:ZD w wr
 pge:w.heap.size<=p
theorem PL.later{w}{q p lb:Nat}{A}{h:Int}{wr w':World}{v1 v2 L1 L2}(s:PL w q p lb A h wr v1 v2 L1 L2)(hb:ZD wr w'):PL w q p lb A h w' v1 v2 L1 L2 where
 box:=ZE hb s.box
 res:=ZE hb s.res
 pq:=s.pq
 lin:=ZE hb s.lin
 own1:=Xi s.own1 hb
 own2:=Xi s.own2 hb
 keys1:=λx hx=>Xi (s.keys1 x hx) hb
 keys2:=λx hx=>Xi (s.keys2 x hx) hb
 bel:=Zf s.bel hb
 pge:=s.pge
theorem Gg{w w':World}{base:Nat}{e:aY}{size:Nat}{v:Value}{n:Nat}{xs}(h:w.ownsRow base e size v n xs)(hg:w.grownBy w' v.ownBlock)(k:Nat)(cs)(t:aY)(hk:w.heap[k]? = dG (dA cs t (0,0)))(ht:t≠e):w'.heap[k]? = w.heap[k]?:=by
 refine hg.block k (aA hk) (λe1=>?_);obtain⟨_,⟨rfl,_⟩|⟨g,cap,ag,rfl,_,hh,_⟩⟩:=h
 ·cases e1
 ·have e2:k=g:=by injection e1
  subst e2;rw[hk] at hh;injection hh with hh;injection hh with _ hh;exact ht hh
theorem PL.alloc{w}{q p lb:Nat}{A}{h:Int}{wr:World}{v1 v2 L1 L2}(s:PL w q p lb A h wr v1 v2 L1 L2)(o:Obj):PL w q p lb A h (wr.alloc o) v1 v2 L1 L2:=s.later (Zh wr o)
theorem PL.drewN{w}{q p lb:Nat}{A}{h:Int}{wr:World}{v1 v2 L1 L2}(s:PL w q p lb A h wr v1 v2 L1 L2)(n:Nat):PL w q p lb A h (wr.drewN n) v1 v2 L1 L2:=
 s.later ⟨rfl,rfl,rfl,aE _,λ_ _=>rfl⟩
def hd1(x:List UInt8):Option UInt8:=x.head?
theorem Zib{p h k n:Int}(f:Xp p h k n=true):∀ z∈[p,h,k,n],-10000000000<=z/\z<=10000000000:=by
 simp only[Xp,aX,decide_eq_true_eq] at f;intro z hz;simp only[aW,List.not_mem_nil,or_false] at hz
 rcases hz with rfl|rfl|rfl|rfl <;> omega
theorem Gz:∀ (l L:List ByteArray) (N:List Int) (M:List ByteArray) (N':List Int),Bk.nmGo L N l=(M,N',0)->N'=N++l.map (λs=>(Bk.place s M:Int))/\∀ s∈l,0<Bk.place s M/\s.size<=4000
 | [],L,N,M,N',h=>by
  unfold Bk.nmGo at h;injection h with _ h;injection h with h _;exact⟨by simp[h],λs hs=>by cases hs⟩
 | s :: r,L,N,M,N',h=>by
  rw[Bk.nmGo] at h;split at h
  ·next q=>
   have⟨p1,p2,p3⟩:=Bk.nm_place q;have⟨X,hX⟩:=Bk.nmGo_grows r (Bk.nm L s).1 (N++[(Bk.nm L s).2.1]) (by rw[h]);rw[h] at hX;simp only at hX;have⟨h1,h2⟩:=Gz r _ _ M N' h;have e:Bk.place s M=Bk.place s (Bk.nm L s).1:=(by rw[hX];exact Bk.place_stays X p2);refine⟨?_,λz hz=>?_⟩
   ·rw[h1,List.append_assoc,p1,<-e];rfl
   ·rcases aW.1 hz with rfl|hz
    ·exact⟨by rw[e];exact p2,p3⟩
    ·exact h2 z hz
  ·next q=>
   injection h with _ h;injection h with _ h;exact absurd h q
theorem F9{K l X N}(h:Bk.allR K l=(X,N,0)):Bk.Right K/\Bk.nmGo K [] l=(X,N,0):=by
 unfold Bk.allR at h;split at h
 ·next q=>exact⟨(Bk.right_iff K).1 q,h⟩
 ·next q=>
  injection h with _ h;injection h with _ h;exact absurd h q
theorem Zei{K l X N}(h:Bk.allR K l=(X,N,0)):Bk.Right X/\∃ M,X=K++M:=by
 have⟨h1,h2⟩:=F9 h;have r:=Bk.nmGo_right l K [] h1 (by rw[h2]);have g:=Bk.nmGo_grows l K [] (by rw[h2]);rw[h2] at r g;exact⟨r,g⟩
theorem Pi{K}{b:Zk}{X}{n:Int}{ns}(h:Xk K b=(X,n,ns,0)):Yu b=0/\Bk.Right X/\(∀ s∈Yn b,0<Bk.place s X/\s.size<=4000)/\n=(Bk.place (Xl b) X:Int)/\ns=b.2.2.2.2.map (λt=>(Bk.place (Zr t) X:Int))/\∃ M,X=K++M:=by
 unfold Xk at h;split at h
 ·next q=>
  injection h with _ h;injection h with _ h;injection h with _ h;exact absurd h q
 ·next q=>
  split at h
  ·next q2=>
   injection h with _ h;injection h with _ h;injection h with _ h;exact absurd h q2
  ·next q2=>
   obtain⟨X',N,x,e⟩:∃ X' N x,Bk.allR K (Yn b)=(X',N,x):=⟨_,_,_,rfl⟩;rw[e] at h q2;obtain rfl:x=0:=bD.1 q2;injection h with h1 h;injection h with h2 h;injection h with h3 _;simp only at h1 h2 h3;subst h1;have⟨r,g⟩:=Zei e;have⟨p1,p2⟩:=Gz _ _ _ _ _ (F9 e).2;rw[List.nil_append] at p1;refine⟨bD.1 q,r,p2,?_,?_,g⟩
   ·rw[<-h2,p1];simp[Yn]
   ·rw[<-h3,p1];simp[Yn]
theorem hasP_no{p:PtD}{L}:We p L=false↔∀ c∈L,pt c≠p:=by
 rw[<-Bool.not_eq_true,Vo];exact⟨λh c hc e=>h ⟨c,hc,e⟩,λh ⟨c,hc,e⟩=>h c hc e⟩
theorem Py{L M S}{t:TxD}{name h:Int}(e:apD L t name h=(0,M,S)):Xu L t name h=0/\∃ M2,Zs h t.2.1 [] L=(0,S,M2)/\N7 S t=0/\Yp name h (isR t) 0 t.2.2 M2=(0,M)/\Zz M=0:=by
 have⟨x1,h1⟩:=ZF (Xu L t name h);have⟨⟨x2,S2,M2⟩,h2⟩:=ZF (Zs h t.2.1 [] L);have⟨x3,h3⟩:=ZF (N7 S2 t);have⟨⟨x4,M4⟩,h4⟩:=ZF (Yp name h (isR t) 0 t.2.2 M2);have⟨x5,h5⟩:=ZF (Zz M4);rw[Zeg h1 h2 h3 h4 h5] at e;split at e
 ·rename_i q;injection e with e _;exact absurd e q
 rename_i q1;split at e
 ·rename_i q;injection e with e _;exact absurd e q
 rename_i q2;split at e
 ·rename_i q;injection e with e _;exact absurd e q
 rename_i q3;split at e
 ·rename_i q;injection e with e _;exact absurd e q
 rename_i q4;split at e
 ·rename_i q;injection e with e _;exact absurd e q
 rename_i q5;have e1:x1=0:=by omega
 have e2:x2=0:=by omega
 have e3:x3=0:=by omega
 have e4:x4=0:=by omega
 have e5:x5=0:=by omega
 injection e with _ e;injection e with ea eb;subst e1 e2 e3 e4 e5 ea eb;exact⟨h1,M2,h2,h3,h4,h5⟩
theorem Mr(name h:Int)(r:Bool):∀ (O:List Yd) (i:Nat) (L M:List Zi),Srt L->Yp name h r i O L=(0,M) ->
  Srt M/\(∀ x,x∈M↔x∈L\/∃ j,∃ hj:j<O.length,x=R6 name (i+j) O[j] h r)/\(∀ j,j<O.length->We (name,((i+j:Nat):Int)) L=false)
 | [],i,L,M,hs,e=>by
  unfold Yp at e;injection e with _ e;subst e;exact⟨hs,λx=>⟨.inl,λq=>q.elim id λ⟨j,hj,_⟩=>absurd hj (by simp)⟩,λj hj=>absurd hj (by simp)⟩
 | o :: q,i,L,M,hs,e=>by
  unfold Yp at e;split at e
  ·injection e with e _;cases e
  ·rename_i hf;have ab:We (pt (R6 name i o h r)) L=false:=(by simpa[R6,pt] using hf);have⟨h1,h2,h3⟩:=Mr name h r q (i+1) _ M (J8 hs) e;refine⟨h1,λx=>?_,λj hj=>?_⟩
   ·rw[h2 x,Mg ab];constructor
    ·rintro ((rfl|g)|⟨j,hj,rfl⟩)
     ·exact .inr ⟨0,by simp,by simp⟩
     ·exact .inl g
     ·exact .inr ⟨j+1,by simpa using hj,by simp[Nat.add_assoc,Nat.add_comm 1 j]⟩
    ·rintro (g|⟨j,hj,rfl⟩)
     ·exact .inl (.inr g)
     ·cases j with
      | zero=>exact .inl (.inl (by simp))
      | succ j=>exact .inr ⟨j,by simpa using hj,by simp[Nat.add_assoc,Nat.add_comm 1 j]⟩
   ·cases j with
    | zero=>simpa[R6,pt] using ab
    | succ j=>
     have:=h3 j (by simpa using hj);rw[show i+1+j=i+(j+1) by omega] at this;refine hasP_no.2 λc hc=>(hasP_no.1 this) c ((Mg ab).2 (.inr hc))
theorem Zbm(name h:Int)(r:Bool)(O:List Yd)(L)(hL:Srt L)(ad:∀ j,j<O.length->We (name,((j:Nat):Int)) L=false):∀ (m k:Nat) (N:List Zi),m+k=O.length->Srt N->(∀ x,x∈N↔x∈L\/∃ j,∃ hj:j<O.length,k<=j/\x=R6 name j O[j] h r)->Ua name k (O.drop k) N=(0,L)
 | 0,k,N,hm,hN,hx=>by
  rw[bA (by omega),Ua]
  rw[Srt.ext hN hL λx=>by
   rw[hx x];exact⟨λq=>q.elim id λ⟨j,hj,hk,_⟩=>absurd hj (by omega),.inl⟩]
 | m+1,k,N,hm,hN,hx=>by
  have hk:k<O.length:=by omega
  have af:R6 name k O[k] h r∈N:=(hx _).2 (.inr ⟨k,hk,aE _,rfl⟩);have ht:=Dk (p:=(name,(k:Int))) hN af rfl;rw[aK hk,Ua,ht];simp only;rw[if_pos (by rfl)];refine Zbm name h r O L hL ad m (k+1) _ (by omega) (hN.filter _) λx=>?_;rw[List.mem_filter,hx x,decide_eq_true_eq];constructor
  ·rintro ⟨g|⟨j,hj,ae,rfl⟩,ag⟩
   ·exact .inl g
   ·refine .inr ⟨j,hj,?_,rfl⟩
    rcases Nat.lt_or_ge k j with q|q
    ·exact q
    ·obtain rfl:j=k:=(by omega);exact absurd rfl ag
  ·rintro (g|⟨j,hj,ae,rfl⟩)
   ·exact⟨.inl g,(hasP_no.1 (ad k hk)) x g⟩
   ·refine⟨.inr ⟨j,hj,by omega,rfl⟩,λq=>?_⟩;have q2:((j:Nat):Int)=((k:Nat):Int):=congrArg Prod.snd q;omega
theorem Bv{p:PtD}{c:Zi}:∀ {L:List Zi},Srt L->c∈L->pt c=p->Zm L=cv c+Zm (L.filter λd=>decide (pt d≠p))
 | [],_,hc,_=>by cases hc
 | d :: r,hs,hc,e=>by
  rw[Xx]
  rcases aW.1 hc with rfl|hc
  ·rw[List.filter_cons_of_neg (by simp[e])]
   have:r.filter (λd=>decide (pt d≠p))=r:=by
    rw[List.filter_eq_self];intro y hy;exact decide_eq_true (λq=>J0 (hs.head y hy) (by rw[e,q]))
   rw[this]
  ·have ab:pt d≠p:=λq=>J0 (hs.head c hc) (by rw[e,q]);rw[List.filter_cons_of_pos (by simp[ab]),Xx,Bv hs.tail hc e];omega
theorem Qq(h:Int):∀ (I:List InD) (S0 L S M:List Zi),Srt L->Zs h I S0 L=(0,S,M) ->
  Srt M/\∃ T,S=S0++T/\T.length=I.length/\(∀ j (h1:j<T.length) (h2:j<I.length),pt T[j]=(I[j].1,I[j].2.1))/\(∀ x,x∈L↔x∈M\/x∈T)/\(∀ x∈T,We (pt x) M=false)/\T.Pairwise (λa b=>pt a≠pt b)/\Zm L=Zm M+Zm T
 | [],S0,L,S,M,hs,e=>by
  unfold Zs at e;injection e with _ e;injection e with e1 e2;subst e1 e2;exact⟨hs,[],by simp,rfl,λj h1=>absurd h1 (by simp),λx=>by simp,λx hx=>(by cases hx),List.Pairwise.nil,by simp[Zm]⟩
 | x :: r,S0,L,S,M,hs,e=>by
  unfold Zs at e;split at e
  ·injection e with e _;cases e
  ·rename_i c L' ht;split at e
   ·injection e with e _;cases e
   ·split at e
    ·injection e with e _;cases e
    ·have⟨t1,t2,t3⟩:=Tn ht;have⟨h1,T,h2,h3,h4,h5,h6,h7,h8⟩:=Qq h r _ L' S M (by rw[t3];exact hs.filter _) e;have aa:∀ y,y∈L'↔y∈L/\pt y≠(x.1,x.2.1):=λy=>by rw[t3,List.mem_filter,decide_eq_true_eq]
     refine⟨h1,c :: T,by rw[h2,List.append_assoc];rfl,by simp[h3],λj h1 h2=>?_,λy=>?_,λy hy=>?_,?_,?_⟩
     ·cases j with
      | zero=>exact t2
      | succ j=>exact h4 j (by simpa using h1) (by simpa using h2)
     ·constructor
      ·intro hy;by_cases q:pt y=(x.1,x.2.1)
       ·exact .inr (by rw[hs.inj hy t1 (by rw[q,t2])];exact cN ..)
       ·rcases (h5 y).1 ((aa y).2 ⟨hy,q⟩) with g|g
        ·exact .inl g
        ·exact .inr (List.mem_cons_of_mem _ g)
      ·rintro (g|g)
       ·exact ((aa y).1 ((h5 y).2 (.inl g))).1
       ·rcases aW.1 g with rfl|g
        ·exact t1
        ·exact ((aa y).1 ((h5 y).2 (.inr g))).1
     ·rcases aW.1 hy with rfl|hy
      ·refine hasP_no.2 λd hd e=>?_;exact ((aa d).1 ((h5 d).2 (.inl hd))).2 (by rw[e,t2])
      ·exact h6 y hy
     ·refine List.pairwise_cons.2 ⟨λy hy e=>?_,h7⟩;exact ((aa y).1 ((h5 y).2 (.inr hy))).2 (by rw[<-e,t2])
     ·have h9:=Bv hs t1 t2;rw[<-t3] at h9;rw[h9,h8,Xx];omega
theorem Cz(I:List InD)(S M2 L:List Zi)(am:S.length=I.length)(hL:Srt L)(ah:∀ j (h1:j<S.length) (h2:j<I.length),pt S[j]=(I[j].1,I[j].2.1))(af:∀ x,x∈L↔x∈M2\/x∈S)(ad:∀ x∈S,We (pt x) M2=false)(aj:S.Pairwise (λa b=>pt a≠pt b)) :
  ∀ (m k:Nat) (N:List Zi),m+k=S.length->Srt N->(∀ x,x∈N↔x∈M2\/x∈S.take k)->Qd (I.drop k) (S.drop k) N=(0,L)
 | 0,k,N,hm,hN,hx=>by
  rw[bA (by omega),bA (by omega),Qd]
  ·rw[Srt.ext hN hL λx=>by rw[hx x,af x,aM (by omega)]]
  ·intro _ _ _ _ h;cases h
 | m+1,k,N,hm,hN,hx=>by
  have hk:k<S.length:=by omega
  have ae:k<I.length:=by omega
  have ag:We (pt S[k]) N=false:=hasP_no.2 λc hc e=>by
   rcases (hx c).1 hc with g|g
   ·exact (hasP_no.1 (ad _ (aQ hk))) c g e
   ·obtain⟨j,hj,rfl⟩:=List.mem_take_iff_getElem.1 g;have al:j<k:=(by omega);exact (List.pairwise_iff_getElem.1 aj j k (by omega) hk al) e
  rw[aK hk,aK ae,Qd,if_neg (by
   rintro (q|q)
   ·exact q (ah k hk ae)
   ·rw[ag] at q;cases q)]
  refine Cz I S M2 L am hL ah af ad aj m (k+1) _ (by omega) (J8 hN) λx=>?_;rw[Mg ag,hx x,aH hk,bM,cT];constructor
  ·rintro (rfl|g|g)
   ·exact .inr (.inr rfl)
   ·exact .inl g
   ·exact .inr (.inl g)
  ·rintro (g|g|rfl)
   ·exact .inr (.inl g)
   ·exact .inr (.inr g)
   ·exact .inl rfl
theorem Zrb{L M S t}{name h:Int}(e:apD L t name h=(0,M,S)):rvD M t name S=(0,L):=by
 have⟨h1,M2,h2,h3,h4,h5⟩:=Py e;have⟨hR,hT,_,_,_⟩:=Wq h1;have⟨s1,T,s2,s3,s4,s5,s6,s7,s8⟩:=Qq h _ _ _ _ _ hR.srt h2;rw[List.nil_append] at s2;subst s2;have⟨g1,g2,g3⟩:=Mr name h _ _ _ _ _ s1 h4
 have hb:Ua name 0 t.2.2 M=(0,M2):=by
  have:=Zbm name h (isR t) t.2.2 M2 s1 (λj hj=>by have:=g3 j hj;rwa [bO] at this) t.2.2.length 0 M (by omega) g1 (λx=>by
   rw[g2 x];constructor
   ·rintro (q|⟨j,hj,rfl⟩)
    ·exact .inl q
    ·exact .inr ⟨j,hj,aI _,by rw[bO]⟩
   ·rintro (q|⟨j,hj,_,rfl⟩)
    ·exact .inl q
    ·exact .inr ⟨j,hj,by rw[bO]⟩)
  simpa using this
 have hp:Qd t.2.1 S M2=(0,L):=by
  have:=Cz t.2.1 S M2 L s3 hR.srt s4 s5 s6 s7 S.length 0 M2 (by omega) s1 (λx=>by simp);simpa using this
 have hc:Zz L=0:=(Z6 L).2 hR;have aj:Vq M t=0:=by unfold Vq;rw[if_neg (by rw[h5];decide)];exact hT
 rw[Zry aj hb hp hc,if_neg (by decide),if_neg (by rw[s3];simp),if_neg (by decide),if_neg (by decide),if_neg (by decide)]
theorem Zpa{c:Zi}{L}(hs:Srt L)(hn:We (pt c) L=false):Zm (J2 c L)=cv c+Zm L:=by
 rw[Zex hs hn,Wj,Xx];have:Zm L=Zm (L.take (pos (pt c) L))+Zm (L.drop (pos (pt c) L)):=by rw[<-Wj,List.take_append_drop]
 omega
theorem Tz(name h:Int)(r:Bool):∀ (O:List Yd) (i:Nat) (L M:List Zi),Srt L->Yp name h r i O L=(0,M)->Zm M=Zm L+Yk O
 | [],i,L,M,hs,e=>by
  unfold Yp at e;injection e with _ e;subst e;simp[Yk]
 | o :: q,i,L,M,hs,e=>by
  unfold Yp at e;split at e
  ·injection e with e _;cases e
  ·rename_i hf;have ab:We (pt (R6 name i o h r)) L=false:=(by simpa[R6,pt] using hf);have h1:=Tz name h r q (i+1) _ M (J8 hs) e;rw[Zpa hs ab] at h1;have h2:cv (R6 name i o h r)=o.1:=rfl;have h3:Yk (o :: q)=o.1+Yk q:=(by simp[Yk]);rw[h1,h2,h3];omega
theorem Hm:∀ (O:List Yd),Z0 O=0->∀ o∈O,1<=o.1
 | [],_=>by simp
 | x :: r,h=>by
  intro o ho;unfold Z0 at h;split at h
  ·rename_i h1
   rcases aW.1 ho with rfl|ho
   ·unfold Yz at h1;split at h1
    ·cases h1
    ·omega
   ·exact Hm r h o ho
  ·rename_i h1;exact absurd h h1
theorem Bx:∀ (O:List Yd),O≠[]->(∀ o∈O,1<=o.1)->0<Yk O
 | [],h,_=>absurd rfl h
 | x :: r,_,h=>by
  have h3:Yk (x :: r)=x.1+Yk r:=by simp[Yk]
  have h1:=h x (cN ..);cases r with
  | nil=>rw[h3];simp[Yk];omega
  | cons y q=>
   have:=Bx (y :: q) (by simp) (λo ho=>h o (List.mem_cons_of_mem _ ho));omega
theorem Zoa{L M S}{t:TxD}{name h:Int}(e:apD L t name h=(0,M,S)):(t.2.1.length=0->Zm L<Zm M)/\(t.2.1.length≠0->Zm M<=Zm L):=by
 have⟨h1,M2,h2,h3,h4,h5⟩:=Py e;have⟨hR,hT,_,_,_⟩:=Wq h1;have⟨s1,T,s2,s3,s4,s5,s6,s7,s8⟩:=Qq h _ _ _ _ _ hR.srt h2;rw[List.nil_append] at s2;subst s2;have hg:=Tz name h _ _ _ _ _ s1 h4;have⟨t1,t2,t3,t4,t5,t6,t7⟩:=Xc hT;constructor
 ·intro h0;have hS:S=[]:=aJ.1 (by rw[s3,h0]);have:=Bx t.2.2 (λq=>by rw[q] at t3;simp at t3) (Hm _ t6);rw[hS,La] at s8;omega
 ·intro h0;unfold N7 isR at h3;split at h3
  ·cases h3
  ·rename_i q;have:¬(Zm S - Yk t.2.2<0):=λr=>q ⟨r,decide_eq_false h0⟩;omega
theorem Qj{L M S}{t:TxD}{name h:Int}(e:apD L t name h=(0,M,S)):Zm M=Zm L - Zm S+Yk t.2.2/\0<=Zm S:=by
 have⟨h1,M2,h2,h3,h4,h5⟩:=Py e;have⟨hR,hT,_,_,_⟩:=Wq h1;have⟨s1,T,s2,s3,s4,s5,s6,s7,s8⟩:=Qq h _ _ _ _ _ hR.srt h2;rw[List.nil_append] at s2;subst s2;have hg:=Tz name h _ _ _ _ _ s1 h4;refine⟨by omega,Vf S λc hc=>?_⟩;have:=Yt (hR.one c ((s5 c).2 (.inr hc)));omega
theorem Rm{L M S t}{name h:Int}(e:apD L t name h=(0,M,S)):Zy L/\Zy M/\Zp t=0:=by
 have⟨h1,M2,h2,h3,h4,h5⟩:=Py e;have⟨hR,hT,_,_,_⟩:=Wq h1;exact⟨hR,(Z6 M).1 h5,hT⟩
def My(T:List TxD)(N:List Int)(S:List (List Zi)):Nat->List Zi->Int×List Zi
 | 0,C=>(0,C)
 | q+1,C=>
  if (rvD C (T.getD ((q+1) % T.length) Uv) (N.getD ((q+1) % T.length) 0) (S.getD ((q+1) % T.length) [])).1≠0 then ((rvD C (T.getD ((q+1) % T.length) Uv) (N.getD ((q+1) % T.length) 0) (S.getD ((q+1) % T.length) [])).1,[])
  else My T N S q (rvD C (T.getD ((q+1) % T.length) Uv) (N.getD ((q+1) % T.length) 0) (S.getD ((q+1) % T.length) [])).2
theorem Zne{T:List TxD}{N:List Int}{S:List (List Zi)}{q i:Nat}{C}(hi:(q+1) % T.length=i){t}(ht:T.getD i Uv=t){nm:Int}(hn:N.getD i 0=nm){s}(hs:S.getD i []=s){y:Int}{M}(ha:rvD C t nm s=(y,M)) :
  My T N S (q+1) C=if y≠0 then (y,[]) else My T N S q M:=by
 rw[My,hi,ht,hn,hs,ha]
theorem Zou{m j k:Nat}(hj:j<k)(hk:k<m):(j+1) % m≠(k+1) % m:=by
 rw[Nat.mod_eq_of_lt (show j+1<m by omega)];by_cases e:k+1=m
 ·rw[e,Nat.mod_self];omega
 ·rw[Nat.mod_eq_of_lt (show k+1<m by omega)];omega
theorem N5{α : Type}(l:List α)(i:Nat)(x d : α)(h:i<l.length):(l.set i x).getD i d=x:=by simp[List.getD,h]
theorem Zag{α : Type}(l:List α){i j:Nat}(x d : α)(h:i≠j):(l.set i x).getD j d=l.getD j d:=by simp[List.getD,List.getElem?_set_ne h]
theorem Y5{h r:Int}{T:List TxD}{N:List Int}{q k:Nat}{C M}{S S':List (List Zi)}(e:Ws h r T N (q+1) k C S=(0,M,S')) :
  ¬((k+1) % T.length=0/\Y8 r T S T.length<0)/\∃ C1 s,apD C (T.getD ((k+1) % T.length) Uv) (N.getD ((k+1) % T.length) 0) h=(0,C1,s)/\Ws h r T N q (k+1) C1 (S.set ((k+1) % T.length) s)=(0,M,S'):=by
 have⟨⟨y,C1,s⟩,ha⟩:=ZF (apD C (T.getD ((k+1) % T.length) Uv) (N.getD ((k+1) % T.length) 0) h);rw[M5 rfl rfl rfl ha] at e;split at e
 ·injection e with e1 _;exact absurd e1 (by decide)
 ·rename_i hc;split at e
  ·rename_i hy;injection e with e1 _;exact absurd e1 hy
  ·rename_i hy;have hy:y=0:=bD.1 hy;subst hy;exact⟨hc,C1,s,ha,e⟩
theorem Zau{h r:Int}{T:List TxD}{N}:∀ (q k:Nat) (C M:List Zi) (S S':List (List Zi)),Ws h r T N q k C S=(0,M,S')->q+k=T.length->S.length=T.length ->
  S'.length=T.length/\(∀ j,j<k->S'.getD ((j+1) % T.length) []=S.getD ((j+1) % T.length) [])/\My T N S' T.length M=My T N S' k C
 | 0,k,C,M,S,S',e,hk,hS=>by
  rw[Ws] at e;injection e with _ e;injection e with e1 e2;subst e1 e2;have:k=T.length:=by omega
  subst this;exact⟨hS,λ_ _=>rfl,rfl⟩
 | q+1,k,C,M,S,S',e,hk,hS=>by
  have⟨_,C1,s,ha,e⟩:=Y5 e;have⟨i1,i2,i3⟩:=Zau q (k+1) C1 M _ S' e (by omega) (by simpa using hS);have hm:(k+1) % T.length<S.length:=by rw[hS];exact Nat.mod_lt _ (by omega)
  refine⟨i1,λj hj=>?_,?_⟩
  ·rw[i2 j (by omega)];exact Zag S s [] (λe=>Zou hj (show k<T.length by omega) e.symm)
  ·rw[i3]
   have hs:S'.getD ((k+1) % T.length) []=s:=by
    rw[i2 k (Nat.lt_succ_self k)];exact N5 S _ s [] hm
   rw[Zne rfl rfl rfl hs (Zrb ha),if_neg (by decide)]
theorem Gj{h r:Int}{T N}:∀ (q k:Nat) (C M:List Zi) (S S':List (List Zi)),Ws h r T N q k C S=(0,M,S')->Zy C->Zy M
 | 0,k,C,M,S,S',e,hC=>by
  rw[Ws] at e;injection e with _ e;injection e with e1 e2;subst e1;exact hC
 | q+1,k,C,M,S,S',e,hC=>by
  have⟨_,C1,s,ha,e⟩:=Y5 e;exact Gj q (k+1) C1 M _ S' e (Rm ha).2.1
theorem Zqv{h r:Int}{T:List TxD}{N C M S'}(h0:0<T.length)(h4:T.length<=4)(e:Ws h r T N T.length 0 C (bP T.length [])=(0,M,S')):Zm M<=Zm C+r:=by
 match T,h0,h4,e with
 | [t0],_,_,e=>
  have⟨c0,C1,s0,a0,e⟩:=Y5 (q:=0) e;rw[Ws] at e;injection e with _ e;injection e with e _;subst e;have i0:(0+1) % [t0].length=0:=by simp
  rw[i0] at a0;have a0:apD C t0 (N.getD 0 0) h=(0,C1,s0):=a0;have⟨b0,d0⟩:=Qj a0;have c0:¬(Y8 r [t0] [[]] 1<0):=λq=>c0 ⟨i0,q⟩;simp only[Y8,List.take_succ_cons,List.take_zero,List.map_cons,List.map_nil,cZ,List.flatten_nil,List.append_nil,La] at c0;omega
 | [t0,t1],_,_,e=>
  have⟨_,C1,s1,a1,e⟩:=Y5 (q:=1) e;have⟨c0,C2,s0,a0,e⟩:=Y5 (q:=0) e;rw[Ws] at e;injection e with _ e;injection e with e _;subst e;have a1:apD C t1 (N.getD 1 0) h=(0,C1,s1):=a1;have i0:(0+1+1) % [t0,t1].length=0:=by simp
  rw[i0] at a0;have a0:apD C1 t0 (N.getD 0 0) h=(0,C2,s0):=a0;have⟨b1,d1⟩:=Qj a1;have⟨b0,d0⟩:=Qj a0;have c0:¬(Y8 r [t0,t1] [[],s1] 2<0):=λq=>c0 ⟨i0,q⟩;simp only[Y8,List.take_succ_cons,List.take_zero,List.map_cons,List.map_nil,cZ,List.flatten_nil,List.append_nil,List.nil_append,Qp] at c0;omega
 | [t0,t1,t2],_,_,e=>
  have⟨_,C1,s1,a1,e⟩:=Y5 (q:=2) e;have⟨_,C2,s2,a2,e⟩:=Y5 (q:=1) e;have⟨c0,C3,s0,a0,e⟩:=Y5 (q:=0) e;rw[Ws] at e;injection e with _ e;injection e with e _;subst e;have a1:apD C t1 (N.getD 1 0) h=(0,C1,s1):=a1;have a2:apD C1 t2 (N.getD 2 0) h=(0,C2,s2):=a2;have i0:(0+1+1+1) % [t0,t1,t2].length=0:=by simp
  rw[i0] at a0;have a0:apD C2 t0 (N.getD 0 0) h=(0,C3,s0):=a0;have⟨b1,d1⟩:=Qj a1;have⟨b2,d2⟩:=Qj a2;have⟨b0,d0⟩:=Qj a0;have c0:¬(Y8 r [t0,t1,t2] [[],s1,s2] 3<0):=λq=>c0 ⟨i0,q⟩;simp only[Y8,List.take_succ_cons,List.take_zero,List.map_cons,List.map_nil,cZ,List.flatten_nil,List.append_nil,List.nil_append,Qp,Wj] at c0;omega
 | [t0,t1,t2,t3],_,_,e=>
  have⟨_,C1,s1,a1,e⟩:=Y5 (q:=3) e;have⟨_,C2,s2,a2,e⟩:=Y5 (q:=2) e;have⟨_,C3,s3,a3,e⟩:=Y5 (q:=1) e;have⟨c0,C4,s0,a0,e⟩:=Y5 (q:=0) e;rw[Ws] at e;injection e with _ e;injection e with e _;subst e;have a1:apD C t1 (N.getD 1 0) h=(0,C1,s1):=a1;have a2:apD C1 t2 (N.getD 2 0) h=(0,C2,s2):=a2;have a3:apD C2 t3 (N.getD 3 0) h=(0,C3,s3):=a3;have i0:(0+1+1+1+1) % [t0,t1,t2,t3].length=0:=by simp
  rw[i0] at a0;have a0:apD C3 t0 (N.getD 0 0) h=(0,C4,s0):=a0;have⟨b1,d1⟩:=Qj a1;have⟨b2,d2⟩:=Qj a2;have⟨b3,d3⟩:=Qj a3;have⟨b0,d0⟩:=Qj a0;have c0:¬(Y8 r [t0,t1,t2,t3] [[],s1,s2,s3] 4<0):=λq=>c0 ⟨i0,q⟩;simp only[Y8,List.take_succ_cons,List.take_zero,List.map_cons,List.map_nil,cZ,List.flatten_nil,List.append_nil,List.nil_append,Qp,Wj] at c0;omega
def disD(K:List ByteArray)(C:List Zi)(b:Zk)(S:List (List Zi)):Int×List Zi:=
 if (nfD K C b).2≠0 then ((nfD K C b).2,[]) else if S.length≠b.2.2.2.2.length then (4,[]) else My b.2.2.2.2 (nfD K C b).1 S b.2.2.2.2.length C
theorem Q9{b:Zk}(h:Yu b=0):0<b.2.2.2.2.length/\b.2.2.2.2.length<=4/\1<=b.2.1/\b.2.1<=1000:=by
 unfold Yu at h;split at h
 ·cases h
 rename_i h1;split at h
 ·cases h
 split at h
 ·cases h
 unfold Xp at h1;simp only[Bool.not_eq_false,aX,decide_eq_true_eq] at h1;omega
theorem Et{K C}{b:Zk}(h:(nfD K C b).2=0):Zy C/\Yu b=0/\∃ X n N,Xk K b=(X,n,N,0)/\(nfD K C b).1=N:=by
 unfold nfD at h ⊢;split at h
 ·rename_i q;exact absurd h q
 rename_i q;have⟨⟨X,n,N,x⟩,hx⟩:=ZF (Xk K b);rw[hx] at h;have h:x=0:=h;subst h;rw[if_neg q,hx];exact⟨(Z6 C).1 (bD.1 q),(Pi hx).1,X,n,N,rfl,rfl⟩
theorem Zsn{K C}{b:Zk}{X}{n:Int}{N}(hC:Zy C)(h:Xk K b=(X,n,N,0)):nfD K C b=(N,0):=by
 unfold nfD;rw[(Z6 C).2 hC,if_neg (by decide),h]
theorem con_all{K C M}{b:Zk}{S:List (List Zi)}(e:Xf K C b=(0,M,S)) :
  Zy C/\Zy M/\Yu b=0/\S.length=b.2.2.2.2.length/\disD K M b S=(0,C)/\Zm M<=Zm C+(rwD b.2.1).1/\(rwD b.2.1).2=0:=by
 unfold Xf at e;split at e
 ·rename_i q;injection e with e _;exact absurd e q
 rename_i q;have⟨hC,hb,X,n,N,hN,af⟩:=Et (bD.1 q);rw[af] at e;have⟨h0,h4,h1,h2⟩:=Q9 hb;have hM:=Gj _ _ _ _ _ _ e hC;have⟨b1,b2,b3⟩:=Zau _ _ _ _ _ _ e (by omega) (by simp);refine⟨hC,hM,hb,b1,?_,Zqv h0 h4 e,?_⟩
 ·unfold disD;rw[Zsn hM hN,if_neg (λq=>q rfl),if_neg (λq=>q b1)];exact b3
 ·unfold rwD;rw[if_pos (by simp only[aX,decide_eq_true_eq];omega)]
theorem Gr.cell{w w':World}{S:Nat->Prop}(h:Gr w w' S){p:Addr}{v}(hc:w.cell? p=dG v)(hn:¬S p.block):w'.cell? p=dG v:=
 (bU (h.block p.block (aC _ _ hc) hn)).trans hc
theorem Fresh.now{B:Nat}{w}{Q:World->Prop}(h:Fresh B w Q):Q w:=h w (Gr.refl _ _)
theorem Fresh.on{B:Nat}{w w'}{Q:World->Prop}(h:Fresh B w Q)(g:Gr w w' (λk=>k<B)):Fresh B w' Q:=λw2 g2=>h w2 (g.trans g2)
theorem Fresh.later{B:Nat}{w w':World}{Q:World->Prop}(h:Fresh B w Q)(g:ZD w w'):Fresh B w' Q:=h.on (Gr.of g)
theorem Fresh.less{B B':Nat}{w}{Q:World->Prop}(h:Fresh B' w Q)(hb:B<=B'):Fresh B w Q:=λw2 g2=>h w2 (g2.mono λ_ _ hk=>aF hk hb)
theorem Fresh.imp{B:Nat}{w}{Q R:World->Prop}(h:Fresh B w Q)(f:∀ w2,Q w2->R w2):Fresh B w R:=λw2 g2=>f w2 (h w2 g2)
namespace Tr
open Go.RowKit
theorem two_heap(w:World)(a b)(t:aY):(w.alloc (dA #[a,b] t)).heap[w.heap.size]? = dG (dA [a,b].toArray t (0,0)):=aG w _
theorem Yw{w:World}{base:Nat}{e:aY}{size:Nat}{v}{n:Nat}{xs}(h:w.ownsRow base e size v n xs):∃ a c,v = F a n c/\SlOk a n c/\∀ ae,a=dG ae->base<=ae.block/\ae.block<w.heap.size:=by
 rcases h.2 with ⟨rfl,rfl⟩|⟨g,cap,ad,rfl,hg,hh,h1,h2,_⟩
 ·exact⟨aD,0,rfl,⟨aE _,aI _,λ_=>⟨rfl,rfl⟩⟩,λae e=>by cases e⟩
 ·exact⟨_,cap,rfl,⟨h1,h2,λe=>by cases e⟩,λae e=>by cases e;exact⟨hg,aA hh⟩⟩
def CellsAt(w:World)(b o:Nat)(cs:List Value):Prop:=∀ j u,cs[j]? = dG u->w.cell? ⟨b,o+j,aD⟩=dG u
structure Rec(α : Type) where
 sz:Nat
 C:World->List Value -> α->Prop
 R:World->Nat->Nat -> α->Prop
 wide:∀ w cs x,C w cs x->cs.length=sz
 one:∀ w cs x,C w cs x->∀ v∈cs,v.oneCell'=true
 kept:∀ w w' cs x,ZD w w'->C w cs x->C w' cs x
 rc:∀ w b o x,R w b o x->∃ cs,CellsAt w b o cs/\C w cs x
 cr:∀ w b o cs x,CellsAt w b o cs->C w cs x->R w b o x
def AllC{α : Type}(Z:Rec α)(w:World)(K:List (List Value))(L:List α):Prop:=K.length=L.length/\∀ i (h:i<L.length) (h':i<K.length),Z.C w K[i] L[i]
theorem Ww{α : Type}{Z:Rec α}{w}:∀ {K:List (List Value)} {L:List α},AllC Z w K L->K.flatten.length=L.length*Z.sz
 | [],[],_=>by simp
 | [],_ :: _,h=>by cases h.1
 | _ :: _,[],h=>by cases h.1
 | k :: K,x :: L,h=>by
  have h1:AllC Z w K L:=⟨by simpa using h.1,λi h1 h2=>h.2 (i+1) (by simpa using h1) (by simpa using h2)⟩;have h2:=Z.wide _ _ _ (h.2 0 (by simp) (by simp));simp only[List.getElem_cons_zero] at h2;rw[cZ,List.length_append,Ww h1,h2,cK,Nat.succ_mul];omega
theorem flat_one{α : Type}{Z:Rec α}{w}{K:List (List Value)}{L:List α}(h:AllC Z w K L):∀ u∈K.flatten,u.oneCell'=true:=by
 intro u hu;have⟨k,hk,hu⟩:=List.mem_flatten.1 hu;obtain⟨i,hi,rfl⟩:=List.getElem_of_mem hk;exact Z.one _ _ _ (h.2 i (by rw[<-h.1];exact hi) hi) u hu
theorem AllC.later{α : Type}{Z:Rec α}{w w':World}{K}{L:List α}(h:AllC Z w K L)(hb:ZD w w'):AllC Z w' K L:=
 ⟨h.1,λi h1 h2=>Z.kept _ _ _ _ hb (h.2 i h1 h2)⟩
theorem AllC.snoc{α : Type}{Z:Rec α}{w K}{L:List α}(h:AllC Z w K L){k}{x : α}(hx:Z.C w k x):AllC Z w (K++[k]) (L++[x]):=by
 refine⟨by simp[h.1],λi h1 h2=>?_⟩
 rcases Nat.lt_or_ge i L.length with q|q
 ·rw[List.getElem_append_left (h:=by rw[h.1];exact q),List.getElem_append_left (h:=q)];exact h.2 i q (by rw[h.1];exact q)
 ·have e:i=L.length:=by simp at h1;omega
  subst e;rw[List.getElem_append_right (by rw[h.1];exact aE _),List.getElem_append_right (aE _)];simpa[h.1] using hx
theorem Ju{α : Type}{Z:Rec α}{w}:∀ {K:List (List Value)} {L:List α} (_:AllC Z w K L) (i:Nat) (h':i<K.length) (j:Nat) (_:j<Z.sz),K.flatten[i*Z.sz+j]? = (K[i])[j]?
 | [],_,_,_,h',_,_=>absurd h' (by simp)
 | _ :: _,[],h,_,_,_,_=>by cases h.1
 | k :: K,x :: L,h,0,_,j,hj=>by
  have h2:=Z.wide _ _ _ (h.2 0 (by simp) (by simp));simp only[List.getElem_cons_zero] at h2;rw[cZ,List.getElem?_append_left (by omega)];simp
 | k :: K,x :: L,h,i+1,h',j,hj=>by
  have h1:AllC Z w K L:=⟨by simpa using h.1,λi h1 h2=>h.2 (i+1) (by simpa using h1) (by simpa using h2)⟩;have h2:=Z.wide _ _ _ (h.2 0 (by simp) (by simp));simp only[List.getElem_cons_zero] at h2;rw[cZ,List.getElem?_append_right (by rw[h2,Nat.succ_mul];omega),h2];rw[show (i+1)*Z.sz+j - Z.sz=i*Z.sz+j by rw[Nat.succ_mul];omega];rw[Ju h1 i (by simpa using h') j hj];simp
theorem Qi{α : Type}(Z:Rec α){w}{b off:Nat}{L:List α}(h:∀ i (h:i<L.length),Z.R w b (off+i*Z.sz) L[i]):∃ K,AllC Z w K L/\CellsAt w b off K.flatten:=by
 have h2:∀ k,k<=L.length->∃ K,AllC Z w K (L.take k)/\CellsAt w b off K.flatten:=by
  intro k
  induction k with
  | zero=>intro _;exact⟨[],⟨by simp,λi h1 h2=>absurd h2 (by simp)⟩,λj u hj=>by simp at hj⟩
  | succ k ih=>
   intro hk;have⟨K,h1,h3⟩:=ih (by omega);have⟨cs,h4,h5⟩:=Z.rc _ _ _ _ (h k (by omega));refine⟨K++[cs],by rw[aH (by omega)];exact h1.snoc h5,λj u hj=>?_⟩;have hl:=Ww h1;rw[aV,Nat.min_eq_left (by omega)] at hl;rw[List.flatten_append] at hj
   rcases Nat.lt_or_ge j K.flatten.length with q|q
   ·rw[List.getElem?_append_left q] at hj;exact h3 j u hj
   ·rw[List.getElem?_append_right q] at hj;have:=h4 (j - K.flatten.length) u (by simpa using hj);rw[show off+k*Z.sz+(j - K.flatten.length)=off+j by omega] at this;exact this
 have⟨K,h1,h3⟩:=h2 L.length (aE _);rw[List.take_length] at h1;exact⟨K,h1,h3⟩
theorem rows_of_own{α : Type}(Z:Rec α){w:World}{base n:Nat}{e:aY}{v}{K:List (List Value)}{L:List α}(h:w.ownsRow base e Z.sz v n K.flatten)(hc:AllC Z w K L)(hn:L.length=n):∃ a c,v = F a n c/\RowsAt Z.R Z.sz w a n L/\SlOk a n c:=by
 rcases h.2 with ⟨rfl,rfl⟩|⟨g,cap,af,rfl,hg,hh,h1,h2,h3,h4⟩
 ·exact⟨aD,0,rfl,⟨hn,λh=>absurd h (by omega)⟩,aE _,aI _,λ_=>⟨rfl,rfl⟩⟩
 ·refine⟨_,cap,rfl,⟨hn,λ_=>⟨g,0,rfl,aA hh,λi hi=>?_⟩⟩,h1,h2,λe=>by cases e⟩;have ab:i<K.length:=by rw[hc.1];exact hi
  refine Z.cr _ _ _ (K[i]) _ (λj u hj=>?_) (hc.2 i hi ab);have hw:=Z.wide _ _ _ (hc.2 i hi ab);have ae:j<Z.sz:=by rw[<-hw];exact (cD.1 hj).1
  rw[bO,bH h _ (by
   have:(i+1)*Z.sz<=n*Z.sz:=Nat.mul_le_mul_right _ (by omega);rw[Nat.succ_mul] at this;omega),Ju hc i ab j ae]
  exact hj
def IntsAt(w:World)(a:Option Addr)(len:Nat)(Z:List Int):Prop:=
 Z.length=len/\(0<len->∃ b off,a=dG ⟨b,off,aD⟩/\b<w.heap.size/\∀ i (h:i<Z.length),w.cell? ⟨b,off+i,aD⟩=dG (E J Z[i]))
theorem IntsAt.later{w w':World}{a len Z}(h:IntsAt w a len Z)(hb:ZD w w'):IntsAt w' a len Z:=by
 refine⟨h.1,λh0=>?_⟩;have⟨b,off,e,hl,hc⟩:=h.2 h0;exact⟨b,off,e,aF hl hb.size,λi hi=>Ze hb (hc i hi)⟩
theorem IntsAt.nil(w a):IntsAt w a 0 []:=⟨rfl,λh=>absurd h (by omega)⟩
theorem IntsAt.take{w a len}{l:List Int}(h:IntsAt w a len l)(k:Nat)(hk:k<=len):IntsAt w a k (l.take k):=by
 have hl:=h.1;refine⟨by rw[aV];omega,λh0=>?_⟩;have⟨b,off,e,hb,hc⟩:=h.2 (by omega);refine⟨b,off,e,hb,λi hi=>?_⟩;rw[aV] at hi;rw[List.getElem_take];exact hc i (by omega)
theorem ints_of_own{w:World}{base:Nat}{v}{n:Nat}{N:List Int}(h:w.ownsRow base 3 1 v n (N.map (aU .i64))):∃ a cap,v = F a n cap/\SlOk a n cap/\IntsAt w a n N:=by
 have hl:N.length=n:=by simpa using h.1
 rcases h.2 with ⟨rfl,rfl⟩|⟨g,cap,ac,rfl,hg,hh,h1,h2,h3,h4⟩
 ·exact⟨aD,0,rfl,⟨aE _,aI _,λ_=>⟨rfl,rfl⟩⟩,hl,λh=>absurd h (by omega)⟩
 ·refine⟨_,cap,rfl,⟨h1,h2,λe=>by cases e⟩,hl,λ_=>⟨g,0,rfl,aA hh,λi hi=>?_⟩⟩;rw[bO,bH h _ (by omega)];simp[hi]
def BlkAt(w:World)(b o:Nat)(x:Zk):Prop:=
 w.cell? ⟨b,o,aD⟩=dG (E J x.1)/\w.cell? ⟨b,o+1,aD⟩=dG (E J x.2.1)/\w.cell? ⟨b,o+2,aD⟩=dG (E J x.2.2.1)/\w.cell? ⟨b,o+3,aD⟩=dG (E J x.2.2.2.1) /\
 ∃ a n c,w.cell? ⟨b,o+4,aD⟩=dG (F a n c)/\TxsAt w a n x.2.2.2.2/\SlOk a n c
theorem BlkAt.kept:Aa BlkAt:=λ_ _ _ _ _ hb h=>by
 have⟨h1,h2,h3,h4,a,n,c,h5,h6,h7⟩:=h;exact⟨Ze hb h1,Ze hb h2,Ze hb h3,Ze hb h4,a,n,c,Ze hb h5,h6.later hb,h7⟩
def BlksAt(w:World)(a:Option Addr)(len:Nat)(l:List Zk):Prop:=RowsAt BlkAt 5 w a len l
theorem BlksAt.later{w w':World}{a len l}(h:BlksAt w a len l)(hb:ZD w w'):BlksAt w' a len l:=RowsAt.later BlkAt.kept h hb
theorem cells3{w:World}{b o:Nat}{x y z}(h0:w.cell? ⟨b,o,aD⟩=dG x)(h1:w.cell? ⟨b,o+1,aD⟩=dG y)(h2:w.cell? ⟨b,o+2,aD⟩=dG z):CellsAt w b o [x,y,z]:=by
 intro j u hj
 match j,hj with
 | 0,hj=>cases hj;exact h0
 | 1,hj=>cases hj;exact h1
 | 2,hj=>cases hj;exact h2
 | j+3,hj=>simp at hj
theorem Ztg{w:World}{b o:Nat}{x y}(h0:w.cell? ⟨b,o,aD⟩=dG x)(h1:w.cell? ⟨b,o+1,aD⟩=dG y):CellsAt w b o [x,y]:=by
 intro j u hj
 match j,hj with
 | 0,hj=>cases hj;exact h0
 | 1,hj=>cases hj;exact h1
 | j+2,hj=>simp at hj
theorem cells5{w:World}{b o:Nat}{x y z r s}(h0:w.cell? ⟨b,o,aD⟩=dG x)(h1:w.cell? ⟨b,o+1,aD⟩=dG y)(h2:w.cell? ⟨b,o+2,aD⟩=dG z)(h3:w.cell? ⟨b,o+3,aD⟩=dG r)(h4:w.cell? ⟨b,o+4,aD⟩=dG s):CellsAt w b o [x,y,z,r,s]:=by
 intro j u hj
 match j,hj with
 | 0,hj=>cases hj;exact h0
 | 1,hj=>cases hj;exact h1
 | 2,hj=>cases hj;exact h2
 | 3,hj=>cases hj;exact h3
 | 4,hj=>cases hj;exact h4
 | j+5,hj=>simp at hj
def inR:Rec InD where
 sz:=3
 C w cs x:=∃ a n c,cs=[E J x.1,E J x.2.1,F a n c]/\OpsAt w a n x.2.2/\SlOk a n c
 R:=InAt
 wide _ _ _:=by rintro ⟨a,n,c,rfl,_⟩;rfl
 one _ _ _:=by rintro ⟨a,n,c,rfl,_⟩ v hv;simp at hv;rcases hv with rfl|rfl|rfl <;> rfl
 kept _ _ _ _ hb:=by rintro ⟨a,n,c,rfl,h1,h2⟩;exact⟨a,n,c,rfl,h1.later hb,h2⟩
 rc _ _ _ _:=by rintro ⟨h1,h2,a,n,c,h3,h4,h5⟩;exact⟨_,cells3 h1 h2 h3,a,n,c,rfl,h4,h5⟩
 cr _ _ _ _ _ h:=by rintro ⟨a,n,c,rfl,h1,h2⟩;exact⟨h 0 _ rfl,h 1 _ rfl,a,n,c,h 2 _ rfl,h1,h2⟩
def outR:Rec Yd where
 sz:=2
 C w cs x:=∃ a n c,cs=[E J x.1,F a n c]/\OpsAt w a n x.2/\SlOk a n c
 R:=OutAt
 wide _ _ _:=by rintro ⟨a,n,c,rfl,_⟩;rfl
 one _ _ _:=by rintro ⟨a,n,c,rfl,_⟩ v hv;simp at hv;rcases hv with rfl|rfl <;> rfl
 kept _ _ _ _ hb:=by rintro ⟨a,n,c,rfl,h1,h2⟩;exact⟨a,n,c,rfl,h1.later hb,h2⟩
 rc _ _ _ _:=by rintro ⟨h1,a,n,c,h3,h4,h5⟩;exact⟨_,Ztg h1 h3,a,n,c,rfl,h4,h5⟩
 cr _ _ _ _ _ h:=by rintro ⟨a,n,c,rfl,h1,h2⟩;exact⟨h 0 _ rfl,a,n,c,h 1 _ rfl,h1,h2⟩
def txR:Rec TxD where
 sz:=3
 C w cs x:=∃ a n c a' n' c',cs=[E J x.1,F a n c,F a' n' c']/\InsAt w a n x.2.1/\SlOk a n c/\OutsAt w a' n' x.2.2/\SlOk a' n' c'
 R:=TxAt
 wide _ _ _:=by rintro ⟨a,n,c,a',n',c',rfl,_⟩;rfl
 one _ _ _:=by rintro ⟨a,n,c,a',n',c',rfl,_⟩ v hv;simp at hv;rcases hv with rfl|rfl|rfl <;> rfl
 kept _ _ _ _ hb:=by rintro ⟨a,n,c,a',n',c',rfl,h1,h2,h3,h4⟩;exact⟨a,n,c,a',n',c',rfl,h1.later hb,h2,h3.later hb,h4⟩
 rc _ _ _ _:=by rintro ⟨h1,⟨a,n,c,h2,h3,h4⟩,a',n',c',h5,h6,h7⟩;exact⟨_,cells3 h1 h2 h5,a,n,c,a',n',c',rfl,h3,h4,h6,h7⟩
 cr _ _ _ _ _ h:=by rintro ⟨a,n,c,a',n',c',rfl,h1,h2,h3,h4⟩;exact⟨h 0 _ rfl,⟨a,n,c,h 1 _ rfl,h1,h2⟩,a',n',c',h 2 _ rfl,h3,h4⟩
def blkR:Rec Zk where
 sz:=5
 C w cs x:=∃ a n c,cs=[E J x.1,E J x.2.1,E J x.2.2.1,E J x.2.2.2.1,F a n c]/\TxsAt w a n x.2.2.2.2/\SlOk a n c
 R:=BlkAt
 wide _ _ _:=by rintro ⟨a,n,c,rfl,_⟩;rfl
 one _ _ _:=by rintro ⟨a,n,c,rfl,_⟩ v hv;simp at hv;rcases hv with rfl|rfl|rfl|rfl|rfl <;> rfl
 kept _ _ _ _ hb:=by rintro ⟨a,n,c,rfl,h1,h2⟩;exact⟨a,n,c,rfl,h1.later hb,h2⟩
 rc _ _ _ _:=by rintro ⟨h1,h2,h3,h4,a,n,c,h5,h6,h7⟩;exact⟨_,cells5 h1 h2 h3 h4 h5,a,n,c,rfl,h6,h7⟩
 cr _ _ _ _ _ h:=by rintro ⟨a,n,c,rfl,h1,h2⟩;exact⟨h 0 _ rfl,h 1 _ rfl,h 2 _ rfl,h 3 _ rfl,a,n,c,h 4 _ rfl,h1,h2⟩
def Q5(x:Int):List Int->Nat->Int
 | [],_=>-1
 | a :: r,k=>if x=a then k else Q5 x r (k+1)
theorem Zqo(x:Int)(L:List Int)(k:Nat)(h:k<L.length):Q5 x (L.drop k) k=if x=L[k] then (k:Int) else Q5 x (L.drop (k+1)) (k+1):=by
 rw[aK h];rfl
theorem Zmj(x:Int)(L:List Int)(k:Nat)(h:L.length<=k):Q5 x (L.drop k) k = -1:=by
 rw[bA h];rfl
def Y6:Zk:=(0,0,0,0,[])
def fnd(x:Int):List Int->List Zk->Zk
 | a :: N,b :: T=>if x=a then b else fnd x N T
 | _,_=>Y6
theorem idxI_fnd(x:Int):∀ (N:List Int) (T:List Zk) (k:Nat),N.length=T.length->(Q5 x N k = -1/\x∉N/\fnd x N T=Y6)\/∃ i,∃ h:i<T.length,Q5 x N k=(k+i:Nat)/\x∈N/\fnd x N T=T[i]
 | [],_,_,_=>.inl ⟨rfl,by simp,by simp[fnd]⟩
 | a :: N,[],_,h=>by cases h
 | a :: N,b :: T,k,h=>by
  by_cases e:x=a
  ·exact .inr ⟨0,by simp,by simp[Q5,e],by simp[e],by simp[fnd,e]⟩
  ·rcases idxI_fnd x N T (k+1) (by simpa using h) with ⟨h1,h2,h3⟩|⟨i,hi,h1,h2,h3⟩
   ·exact .inl ⟨by simp[Q5,e,h1],by simp[e,h2],by simp[fnd,e,h3]⟩
   ·exact .inr ⟨i+1,by simpa using hi,by simp[Q5,e,h1];omega,by simp[h2],by simp[fnd,e,h3]⟩
theorem Zae(x:Int):∀ (N:List Int) (k:Nat),decide (0<=Q5 x N k)=decide (x∈N)
 | [],_=>by simp[Q5]
 | a :: N,k=>by
  by_cases e:x=a
  ·simp[Q5,e]
  ·simp[Q5,e,Zae x N (k+1)]
def Yj(N:List Int)(T:List Zk)(x:Int)(b:Zk):Int:=
 if (decide (1<=x) && decide (x<=120))=false then 3 else if Yu b≠0 then Yu b else if decide (x∈N)=true then 6
 else if b.1≠0/\decide (b.1∈N)=false then 5 else if b.2.1≠(fnd b.1 N T).2.1+1 then 4 else 0
def Yy(N:List Int)(T:List Zk):List Int->List Zk->Int
 | x :: M,b :: U=>if Yj N T x b≠0 then Yj N T x b else Yy (N++[x]) (T++[b]) M U
 | _,_=>0
def chkTr(N:List Int)(T:List Zk):Int:=if N.length≠T.length then 4 else if 24<N.length then 2 else Yy [] [] N T
theorem Zbf(N:List Int)(T:List Zk)(k:Nat)(h:k<N.length)(h':k<T.length):Yy (N.take k) (T.take k) (N.drop k) (T.drop k) =
  if Yj (N.take k) (T.take k) N[k] T[k]≠0 then Yj (N.take k) (T.take k) N[k] T[k] else Yy (N.take (k+1)) (T.take (k+1)) (N.drop (k+1)) (T.drop (k+1)):=by
 rw[aK h,aK h',Yy,aH h,aH h']
theorem Fy(N:List Int)(T:List Zk)(k:Nat)(h:N.length<=k):Yy (N.take k) (T.take k) (N.drop k) (T.drop k)=0:=by
 rw[bA h];unfold Yy;rfl
def Xv(T:List Zk):Prop:=∀ b∈T,1<=b.2.1/\b.2.1<=1000/\1<=b.2.2.1/\b.2.2.1<=1000
theorem Rz{b:Zk}(h:Yu b=0):1<=b.2.1/\b.2.1<=1000/\1<=b.2.2.1/\b.2.2.1<=1000:=by
 unfold Yu at h;split at h
 ·cases h
 ·next q=>simp[Xp] at q;omega
theorem Zfl(x:Int):∀ (N:List Int) (T:List Zk),fnd x N T=Y6\/fnd x N T∈T
 | [],_=>.inl (by simp[fnd])
 | _ :: _,[]=>.inl (by simp[fnd])
 | a :: N,b :: T=>by
  by_cases e:x=a
  ·exact .inr (by simp[fnd,e])
  ·rcases Zfl x N T with h|h
   ·exact .inl (by simp[fnd,e,h])
   ·exact .inr (by simp[fnd,e,h])
theorem Us{T}(h:Xv T)(x:Int)(N):0<=(fnd x N T).2.1/\(fnd x N T).2.1<=1000/\0<=(fnd x N T).2.2.1/\(fnd x N T).2.2.1<=1000:=by
 rcases Zfl x N T with e|e
 ·rw[e];simp[Y6]
 ·have:=h _ e;omega
def upD(N:List Int)(T:List Zk):Nat->Int->List Int
 | 0,_=>[]
 | d+1,x=>upD N T d (fnd x N T).1++[x]
theorem Jb(N T):∀ (d:Nat) (x:Int),(upD N T d x).length=d
 | 0,_=>rfl
 | d+1,x=>by simp[upD,Jb N T d]
def Y7(N:List Int)(T:List Zk)(x:Int):List Int:=upD N T (fnd x N T).2.1.toNat x
def Vu(N:List Int)(T:List Zk)(s:Int):List Int->Int
 | []=>s
 | x :: P=>Vu N T (s+(fnd x N T).2.2.1) P
theorem Zop(N T)(s:Int)(P:List Int)(k:Nat)(h:k<P.length):Vu N T s (P.drop k)=Vu N T (s+(fnd P[k] N T).2.2.1) (P.drop (k+1)):=by
 rw[aK h];rfl
theorem Zjg(N T)(s:Int)(P:List Int)(k:Nat)(h:P.length<=k):Vu N T s (P.drop k)=s:=by
 rw[bA h];rfl
def Xr(N:List Int)(T:List Zk)(x:Int):Int:=Vu N T 0 (Y7 N T x)
def bstGo(N:List Int)(T:List Zk)(b m:Int):List Int->Int
 | []=>b
 | x :: P=>if m<Xr N T x\/Xr N T x=m/\x<b then bstGo N T x (Xr N T x) P else bstGo N T b m P
theorem Znp(N T)(b m:Int)(P:List Int)(k:Nat)(h:k<P.length):bstGo N T b m (P.drop k)=if m<Xr N T P[k]\/Xr N T P[k]=m/\P[k]<b then bstGo N T P[k] (Xr N T P[k]) (P.drop (k+1)) else bstGo N T b m (P.drop (k+1)):=by
 rw[aK h];rfl
theorem Ziu(N T)(b m:Int)(P:List Int)(k:Nat)(h:P.length<=k):bstGo N T b m (P.drop k)=b:=by
 rw[bA h];rfl
def bstD(N:List Int)(T:List Zk):Int×Int:=if chkTr N T≠0 then (0,chkTr N T) else (bstGo N T 0 0 N,0)
def Zlj(N:List Int)(T:List Zk)(x:Int):List Int×Int:=if chkTr N T≠0 then ([],chkTr N T) else if x≠0/\decide (x∈N)=false then ([],5) else (Y7 N T x,0)
theorem Tryz.infoIntC:(Tryz.prog.info? 3).map (λi=>(i.zero,i.size,i.bytes))=dG (dG (E J 0),1,8):=by kernel_rfl
theorem A9(w):Calls aB 12 #[F aD 0 0] w λe w'=>e = dB (F aD 0 0)/\w=w':=by
 have he:=λw=>cG (P:=aB) w 25 3 aD 0 0 0 0 cR;go_enter func12,ntmps12;go_wp2;go_ret;exact⟨rfl,rfl⟩
theorem Db(ad:Addr)(n c:Nat)(aa:List Value)(w:World)(hn:n<=17592186044416)(hz:aa.length=n*1)(h1:∀ u∈aa,u.oneCell'=true)(hc:∀ j u,aa[j]? = dG u->w.cell? (ad.add j)=dG u) :
  Calls aB 12 #[F (dG ad) n c] w λe w'=>∃ v,e = dB v/\w'.ownsRow w.heap.size 3 1 v n aa/\ZD w w':=by
 have⟨i0,hi,ar,au,av⟩:=bX Tryz.infoIntC;have hb:=Zh w (dA #[] 3);have HC:Hid (∀ j u,aa[j]? = dG u->(w.alloc (dA #[] 3)).cell? (ad.add j)=dG u):=λj u hj=>Ze hb (hc j u hj);have⟨HB,HZ,H1,HO⟩:=kh4 hb hz h1 (U1 w 3 1);have he:=λw=>cG (P:=aB) w 25 3 (dG ad) n c 0 0 cR;go_enter func12,ntmps12
 go_wp2_with (at_builtin;refine wpList_append_own _ rfl _ _ 25 rfl w.heap.size 3 i0 (E J 0) 1 8 cR hi ar au av rfl (by decide) _ _ _ rfl HO ad n c aa rfl HZ HC H1 (by unfold aT;omega) (by omega) HB.size ?_;intro v2 w3 ap am _)
 have HW:Hid (w3.ownsRow w.heap.size 3 1 v2 n aa):=by show cP _ _ _ _ _ _ _;simpa using ap
 have ag:=Zb (HB.grown am HB.size (Xz HO));go_wp2;go_ret;exact⟨v2,rfl,Za HW,Za ag⟩
theorem U2(a)(n c:Nat)(L:List Int)(w:World)(hn:n<=17592186044416)(h:IntsAt w a n L)(hs:SlOk a n c) :
  Calls aB 12 #[F a n c] w λe w'=>∃ v,e = dB v/\w'.ownsRow w.heap.size 3 1 v n (L.map (aU .i64))/\ZD w w':=by
 have⟨hl,hc⟩:=h;cases a with
 | none=>
  obtain⟨rfl,rfl⟩:=hs.2.2 rfl;have e:L=[]:=aJ.1 hl;subst e;exact (A9 w).mono λe w' ⟨x,y⟩=>⟨_,x,y ▸ World.ownsRow_nil _ _ _ _,y ▸ Below.refl _ _⟩
 | some ad=>
  refine (Db ad n c (L.map (aU .i64)) w hn (by simp[hl]) (ints_oneCell _ _) (λj u hj=>?_));have ab:j<L.length:=by have:=(cD.1 hj).1;simpa using this
  have⟨b,off,e,_,af⟩:=hc (by omega);cases e;rw[cW,af j ab];simpa[ab] using hj
theorem cloneOp_any(a)(n c:Nat)(l)(w:World)(hn:n<=8796093022208)(h:OpsAt w a n l)(hs:SlOk a n c) :
  Calls aB 186 #[F a n c] w λe w'=>∃ a' c',e = dB (F a' n c')/\Fresh w.heap.size w' (λw2=>OpsAt w2 a' n l/\SlOk a' n c')/\ZD w w':=by
 refine (Hl a n c l w hn h hs).mono ?_;rintro e w' ⟨v,rfl,x,y⟩;obtain⟨a',c',rfl,h1,h2,_⟩:=Pe x;refine⟨a',c',rfl,λw2 g2=>?_,y⟩;have⟨a2,c2,e,h3,h4,_⟩:=Pe (g2.own x (λk hk=>by have:=(x.lt k hk).1;omega));cases e;exact⟨h3,h4⟩
theorem Tryz.infoInC:(Tryz.prog.info? 90).map (λi=>(i.zero,i.size,i.bytes))=dG (dG (.agg #[E J 0,E J 0,F aD 0 0]),3,40):=by kernel_rfl
theorem Zaz(w):Calls aB 189 #[F aD 0 0] w λe w'=>e = dB (F aD 0 0)/\w=w':=by
 have he:=λw=>cG (P:=aB) w 47 90 aD 0 0 0 0 underlying47;go_enter func189,ntmps189;go_wp2;go_ret;exact⟨rfl,rfl⟩
theorem Pr(ad:Addr)(n c:Nat)(aa:List Value)(w:World)(hn:n<=3518437208883)(hz:aa.length=n*3)(h1:∀ u∈aa,u.oneCell'=true)(hc:∀ j u,aa[j]? = dG u->w.cell? (ad.add j)=dG u) :
  Calls aB 189 #[F (dG ad) n c] w λe w'=>∃ v,e = dB v/\w'.ownsRow w.heap.size 90 3 v n aa/\ZD w w':=by
 have⟨i0,hi,ar,au,av⟩:=bX Tryz.infoInC;have hb:=Zh w (dA #[] 90);have HC:Hid (∀ j u,aa[j]? = dG u->(w.alloc (dA #[] 90)).cell? (ad.add j)=dG u):=λj u hj=>Ze hb (hc j u hj);have⟨HB,HZ,H1,HO⟩:=kh4 hb hz h1 (U1 w 90 3);have he:=λw=>cG (P:=aB) w 47 90 (dG ad) n c 0 0 underlying47;go_enter func189,ntmps189
 go_wp2_with (at_builtin;refine wpList_append_own _ rfl _ _ 47 rfl w.heap.size 90 i0 (.agg #[E J 0,E J 0,F aD 0 0]) 3 40 underlying47 hi ar au av rfl (by decide) _ _ _ rfl HO ad n c aa rfl HZ HC H1 (by unfold aT;omega) (by omega) HB.size ?_;intro v2 w3 ap am _)
 have HW:Hid (w3.ownsRow w.heap.size 90 3 v2 n aa):=by show cP _ _ _ _ _ _ _;simpa using ap
 have ag:=Zb (HB.grown am HB.size (Xz HO));go_wp2;go_ret;exact⟨v2,rfl,Za HW,Za ag⟩
theorem Zba(a)(n c:Nat)(L)(w0 w:World)(hn:n<=3518437208883)(h:RowsAt inR.R 3 w0 a n L)(hb:ZD w0 w)(hs:SlOk a n c) :
  Calls aB 189 #[F a n c] w λe w'=>∃ v,∃ K:List (List Value),e = dB v/\AllC inR w0 K L/\w'.ownsRow w.heap.size 90 3 v n K.flatten/\ZD w w':=by
 have⟨hl,hc⟩:=h;cases a with
 | none=>
  obtain⟨rfl,rfl⟩:=hs.2.2 rfl;have e:L=[]:=aJ.1 hl;subst e;exact (Zaz w).mono λe w' ⟨x,y⟩=>⟨_,[],x,⟨rfl,λi h=>absurd h (by simp)⟩,y ▸ World.ownsRow_nil _ _ _ _,y ▸ Below.refl _ _⟩
 | some ad=>
  by_cases h0:n=0
  ·subst h0;have e:L=[]:=aJ.1 hl;subst e;exact (Pr ad 0 c [] w hn rfl (λu hu=>by cases hu) (λj u hj=>by simp at hj)).mono λe w' ⟨v,x,y,z⟩=>⟨v,[],x,⟨rfl,λi h=>absurd h (by simp)⟩,y,z⟩
  ·have⟨b,off,e,_,af⟩:=hc (by omega);obtain⟨rfl⟩:=e;have⟨K,h1,h3⟩:=Qi inR af;have hk:K.flatten.length=n*3:=(by rw[Ww h1,hl];rfl);exact (Pr ⟨b,off,aD⟩ n c K.flatten w hn hk (flat_one h1) (λj u hj=>by rw[cW];exact Ze hb (h3 j u hj))).mono λe w' ⟨v,x,y,z⟩=>⟨v,K,x,h1,y,z⟩
theorem Tryz.infoOutC:(Tryz.prog.info? 92).map (λi=>(i.zero,i.size,i.bytes))=dG (dG (.agg #[E J 0,F aD 0 0]),2,32):=by kernel_rfl
theorem Az(w):Calls aB 190 #[F aD 0 0] w λe w'=>e = dB (F aD 0 0)/\w=w':=by
 have he:=λw=>cG (P:=aB) w 48 92 aD 0 0 0 0 underlying48;go_enter func190,ntmps190;go_wp2;go_ret;exact⟨rfl,rfl⟩
theorem Th(ad:Addr)(n c:Nat)(aa:List Value)(w:World)(hn:n<=4398046511104)(hz:aa.length=n*2)(h1:∀ u∈aa,u.oneCell'=true)(hc:∀ j u,aa[j]? = dG u->w.cell? (ad.add j)=dG u) :
  Calls aB 190 #[F (dG ad) n c] w λe w'=>∃ v,e = dB v/\w'.ownsRow w.heap.size 92 2 v n aa/\ZD w w':=by
 have⟨i0,hi,ar,au,av⟩:=bX Tryz.infoOutC;have hb:=Zh w (dA #[] 92);have HC:Hid (∀ j u,aa[j]? = dG u->(w.alloc (dA #[] 92)).cell? (ad.add j)=dG u):=λj u hj=>Ze hb (hc j u hj);have⟨HB,HZ,H1,HO⟩:=kh4 hb hz h1 (U1 w 92 2);have he:=λw=>cG (P:=aB) w 48 92 (dG ad) n c 0 0 underlying48;go_enter func190,ntmps190
 go_wp2_with (at_builtin;refine wpList_append_own _ rfl _ _ 48 rfl w.heap.size 92 i0 (.agg #[E J 0,F aD 0 0]) 2 32 underlying48 hi ar au av rfl (by decide) _ _ _ rfl HO ad n c aa rfl HZ HC H1 (by unfold aT;omega) (by omega) HB.size ?_;intro v2 w3 ap am _)
 have HW:Hid (w3.ownsRow w.heap.size 92 2 v2 n aa):=by show cP _ _ _ _ _ _ _;simpa using ap
 have ag:=Zb (HB.grown am HB.size (Xz HO));go_wp2;go_ret;exact⟨v2,rfl,Za HW,Za ag⟩
theorem A6(a)(n c:Nat)(L)(w0 w:World)(hn:n<=4398046511104)(h:RowsAt outR.R 2 w0 a n L)(hb:ZD w0 w)(hs:SlOk a n c) :
  Calls aB 190 #[F a n c] w λe w'=>∃ v,∃ K:List (List Value),e = dB v/\AllC outR w0 K L/\w'.ownsRow w.heap.size 92 2 v n K.flatten/\ZD w w':=by
 have⟨hl,hc⟩:=h;cases a with
 | none=>
  obtain⟨rfl,rfl⟩:=hs.2.2 rfl;have e:L=[]:=aJ.1 hl;subst e;exact (Az w).mono λe w' ⟨x,y⟩=>⟨_,[],x,⟨rfl,λi h=>absurd h (by simp)⟩,y ▸ World.ownsRow_nil _ _ _ _,y ▸ Below.refl _ _⟩
 | some ad=>
  by_cases h0:n=0
  ·subst h0;have e:L=[]:=aJ.1 hl;subst e;exact (Th ad 0 c [] w hn rfl (λu hu=>by cases hu) (λj u hj=>by simp at hj)).mono λe w' ⟨v,x,y,z⟩=>⟨v,[],x,⟨rfl,λi h=>absurd h (by simp)⟩,y,z⟩
  ·have⟨b,off,e,_,af⟩:=hc (by omega);obtain⟨rfl⟩:=e;have⟨K,h1,h3⟩:=Qi outR af;have hk:K.flatten.length=n*2:=(by rw[Ww h1,hl];rfl);exact (Th ⟨b,off,aD⟩ n c K.flatten w hn hk (flat_one h1) (λj u hj=>by rw[cW];exact Ze hb (h3 j u hj))).mono λe w' ⟨v,x,y,z⟩=>⟨v,K,x,h1,y,z⟩
theorem Tryz.infoTxC:(Tryz.prog.info? 50).map (λi=>(i.zero,i.size,i.bytes))=dG (dG (.agg #[E J 0,F aD 0 0,F aD 0 0]),3,56):=by kernel_rfl
theorem Zaw(w):Calls aB 144 #[F aD 0 0] w λe w'=>e = dB (F aD 0 0)/\w=w':=by
 have he:=λw=>cG (P:=aB) w 29 50 aD 0 0 0 0 underlying29;go_enter func144,ntmps144;go_wp2;go_ret;exact⟨rfl,rfl⟩
theorem Pq(ad:Addr)(n c:Nat)(aa:List Value)(w:World)(hn:n<=2513169434916)(hz:aa.length=n*3)(h1:∀ u∈aa,u.oneCell'=true)(hc:∀ j u,aa[j]? = dG u->w.cell? (ad.add j)=dG u) :
  Calls aB 144 #[F (dG ad) n c] w λe w'=>∃ v,e = dB v/\w'.ownsRow w.heap.size 50 3 v n aa/\ZD w w':=by
 have⟨i0,hi,ar,au,av⟩:=bX Tryz.infoTxC;have hb:=Zh w (dA #[] 50);have HC:Hid (∀ j u,aa[j]? = dG u->(w.alloc (dA #[] 50)).cell? (ad.add j)=dG u):=λj u hj=>Ze hb (hc j u hj);have⟨HB,HZ,H1,HO⟩:=kh4 hb hz h1 (U1 w 50 3);have he:=λw=>cG (P:=aB) w 29 50 (dG ad) n c 0 0 underlying29;go_enter func144,ntmps144
 go_wp2_with (at_builtin;refine wpList_append_own _ rfl _ _ 29 rfl w.heap.size 50 i0 (.agg #[E J 0,F aD 0 0,F aD 0 0]) 3 56 underlying29 hi ar au av rfl (by decide) _ _ _ rfl HO ad n c aa rfl HZ HC H1 (by unfold aT;omega) (by omega) HB.size ?_;intro v2 w3 ap am _)
 have HW:Hid (w3.ownsRow w.heap.size 50 3 v2 n aa):=by show cP _ _ _ _ _ _ _;simpa using ap
 have ag:=Zb (HB.grown am HB.size (Xz HO));go_wp2;go_ret;exact⟨v2,rfl,Za HW,Za ag⟩
theorem Zax(a)(n c:Nat)(L)(w0 w:World)(hn:n<=2513169434916)(h:RowsAt txR.R 3 w0 a n L)(hb:ZD w0 w)(hs:SlOk a n c) :
  Calls aB 144 #[F a n c] w λe w'=>∃ v,∃ K:List (List Value),e = dB v/\AllC txR w0 K L/\w'.ownsRow w.heap.size 50 3 v n K.flatten/\ZD w w':=by
 have⟨hl,hc⟩:=h;cases a with
 | none=>
  obtain⟨rfl,rfl⟩:=hs.2.2 rfl;have e:L=[]:=aJ.1 hl;subst e;exact (Zaw w).mono λe w' ⟨x,y⟩=>⟨_,[],x,⟨rfl,λi h=>absurd h (by simp)⟩,y ▸ World.ownsRow_nil _ _ _ _,y ▸ Below.refl _ _⟩
 | some ad=>
  by_cases h0:n=0
  ·subst h0;have e:L=[]:=aJ.1 hl;subst e;exact (Pq ad 0 c [] w hn rfl (λu hu=>by cases hu) (λj u hj=>by simp at hj)).mono λe w' ⟨v,x,y,z⟩=>⟨v,[],x,⟨rfl,λi h=>absurd h (by simp)⟩,y,z⟩
  ·have⟨b,off,e,_,af⟩:=hc (by omega);obtain⟨rfl⟩:=e;have⟨K,h1,h3⟩:=Qi txR af;have hk:K.flatten.length=n*3:=(by rw[Ww h1,hl];rfl);exact (Pq ⟨b,off,aD⟩ n c K.flatten w hn hk (flat_one h1) (λj u hj=>by rw[cW];exact Ze hb (h3 j u hj))).mono λe w' ⟨v,x,y,z⟩=>⟨v,K,x,h1,y,z⟩
theorem Tryz.infoBlkC:(Tryz.prog.info? 33).map (λi=>(i.zero,i.size,i.bytes))=dG (dG (.agg #[E J 0,E J 0,E J 0,E J 0,F aD 0 0]),5,56):=by kernel_rfl
theorem Bb(w):Calls aB 76 #[F aD 0 0] w λe w'=>e = dB (F aD 0 0)/\w=w':=by
 have he:=λw=>cG (P:=aB) w 26 33 aD 0 0 0 0 underlying26;go_enter func76,ntmps76;go_wp2;go_ret;exact⟨rfl,rfl⟩
theorem Tj(ad:Addr)(n c:Nat)(aa:List Value)(w:World)(hn:n<=2513169434916)(hz:aa.length=n*5)(h1:∀ u∈aa,u.oneCell'=true)(hc:∀ j u,aa[j]? = dG u->w.cell? (ad.add j)=dG u) :
  Calls aB 76 #[F (dG ad) n c] w λe w'=>∃ v,e = dB v/\w'.ownsRow w.heap.size 33 5 v n aa/\ZD w w':=by
 have⟨i0,hi,ar,au,av⟩:=bX Tryz.infoBlkC;have hb:=Zh w (dA #[] 33);have HC:Hid (∀ j u,aa[j]? = dG u->(w.alloc (dA #[] 33)).cell? (ad.add j)=dG u):=λj u hj=>Ze hb (hc j u hj);have⟨HB,HZ,H1,HO⟩:=kh4 hb hz h1 (U1 w 33 5);have he:=λw=>cG (P:=aB) w 26 33 (dG ad) n c 0 0 underlying26;go_enter func76,ntmps76
 go_wp2_with (at_builtin;refine wpList_append_own _ rfl _ _ 26 rfl w.heap.size 33 i0 (.agg #[E J 0,E J 0,E J 0,E J 0,F aD 0 0]) 5 56 underlying26 hi ar au av rfl (by decide) _ _ _ rfl HO ad n c aa rfl HZ HC H1 (by unfold aT;omega) (by omega) HB.size ?_;intro v2 w3 ap am _)
 have HW:Hid (w3.ownsRow w.heap.size 33 5 v2 n aa):=by show cP _ _ _ _ _ _ _;simpa using ap
 have ag:=Zb (HB.grown am HB.size (Xz HO));go_wp2;go_ret;exact⟨v2,rfl,Za HW,Za ag⟩
theorem Ps(a)(n c:Nat)(L)(w0 w:World)(hn:n<=2513169434916)(h:RowsAt blkR.R 5 w0 a n L)(hb:ZD w0 w)(hs:SlOk a n c) :
  Calls aB 76 #[F a n c] w λe w'=>∃ v,∃ K:List (List Value),e = dB v/\AllC blkR w0 K L/\w'.ownsRow w.heap.size 33 5 v n K.flatten/\ZD w w':=by
 have⟨hl,hc⟩:=h;cases a with
 | none=>
  obtain⟨rfl,rfl⟩:=hs.2.2 rfl;have e:L=[]:=aJ.1 hl;subst e;exact (Bb w).mono λe w' ⟨x,y⟩=>⟨_,[],x,⟨rfl,λi h=>absurd h (by simp)⟩,y ▸ World.ownsRow_nil _ _ _ _,y ▸ Below.refl _ _⟩
 | some ad=>
  by_cases h0:n=0
  ·subst h0;have e:L=[]:=aJ.1 hl;subst e;exact (Tj ad 0 c [] w hn rfl (λu hu=>by cases hu) (λj u hj=>by simp at hj)).mono λe w' ⟨v,x,y,z⟩=>⟨v,[],x,⟨rfl,λi h=>absurd h (by simp)⟩,y,z⟩
  ·have⟨b,off,e,_,af⟩:=hc (by omega);obtain⟨rfl⟩:=e;have⟨K,h1,h3⟩:=Qi blkR af;have hk:K.flatten.length=n*5:=(by rw[Ww h1,hl];rfl);exact (Tj ⟨b,off,aD⟩ n c K.flatten w hn hk (flat_one h1) (λj u hj=>by rw[cW];exact Ze hb (h3 j u hj))).mono λe w' ⟨v,x,y,z⟩=>⟨v,K,x,h1,y,z⟩
theorem indexInt_is(a)(n c:Nat)(L)(s x:Int)(w)(hn:n<=aT)(h:IntsAt w a n L)(hx:Q5 s L 0=x) :
  Calls aB 53 #[F a n c,E J s] w λe w'=>e = dB (E J x)/\w=w':=by
 have⟨HL,HZ⟩:=kh2 h h.1;have HX:Hid (Q5 s (L.drop 0) 0=x):=hx;unfold aT at hn;go_enter func53,ntmps53;go_wp2
 go_loopw [8] (λi wr=>∃ j:Nat,j<=n/\i = E J j/\w=wr/\Hid (Q5 s (L.drop j) j=x)) (λi _=>n - (intOf i).toNat)
 case atStart=>exact⟨0,aI _,rfl,rfl,HX⟩
 case round=>
  obtain⟨j,hk,rfl,rfl,A⟩:=hrel;by_cases ag:j<n
  ·have h1:j<L.length:=(by rw[Za HZ];exact ag);obtain⟨b,off,rfl,ak,hc⟩:=HL.2 (by omega);have f1:=hc j h1;have ST:=Zb (Zqo s L j h1);have⟨t,ht⟩:=ZF (L[j]);rw[ht] at f1 ST;by_cases e:s=t
   ·subst e;have R:Hid ((j:Int)=x):=(by show _=_;rw[<-Za A,Za ST,if_pos rfl]);clear A;go_wp2;go_ret;exact⟨by rw[Za R];rfl,rfl⟩
   ·have R:Hid (Q5 s (L.drop (j+1)) (j+1)=x):=(by show _=_;rw[<-Za A,Za ST,if_neg e]);have g:(s == t)=false:=(by simp[e]);go_wp2;go_roundw
    case rel=>exact⟨j+1,by omega,by go_num,(by trivial),R⟩
    case measure=>simp[intOf];omega
  ·have R:Hid (x = -1):=(by show _=_;rw[<-Za A,Zmj s L j (by rw[Za HZ];omega)]);clear A;go_wp2;go_ret;exact⟨by rw[Za R];rfl,rfl⟩
theorem Vp(a)(n c:Nat)(L)(s:Int)(o:Bool)(w)(hn:n<=aT)(h:IntsAt w a n L)(ho:decide (s∈L)=o) :
  Calls aB 77 #[F a n c,E J s] w λe w'=>e = dB (dF o)/\w=w':=by
 have⟨x,hx⟩:=ZF (Q5 s L 0);have C:=Zb (indexInt_is a n c L s x w hn h hx);have HO:Hid (decide (0<=x)=o):=by show _=_;rw[<-hx,Zae,ho]
 go_enter func77,ntmps77;go_wp2_with fail;refine C.mono ?_;rintro e w1 ⟨rfl,rfl⟩;go_wp2;go_ret;exact⟨by rw[<-Za HO];rfl,rfl⟩
theorem Zdh(a b)(n c m d:Nat)(L)(s:Int)(o:Bool)(w:World)(hn:n<=aT)(h:IntsAt w a n L)(ho:decide (s∈L)=o) :
  ZH 118 #[.agg #[F a n c,F b m d],E J s] w (dF o):=by
 have hb:=Zh w (dA #[F a n c,F b m d] 28);have⟨C,HB⟩:=kh2 (Vp a n c L s o _ hn (h.later hb) ho) hb;go_enter func118,ntmps118;go_wp2_with fail;refine C.mono ?_;rintro e w1 ⟨rfl,rfl⟩;go_wp2;go_ret;exact⟨rfl,Za HB⟩
def Rk(x:Zk)(a:Option Addr)(n c:Nat):Value:=.agg #[E J x.1,E J x.2.1,E J x.2.2.1,E J x.2.2.2.1,F a n c]
theorem Ks(a b)(n c d:Nat)(N T)(s:Int)(x:Zk)(w:World)(hn:n<=aT)(h:IntsAt w a n N)(hT:BlksAt w b n T)(hx:fnd s N T=x) :
  Calls aB 124 #[.agg #[F a n c,F b n d],E J s] w λe w'=>∃ ta tn tc,e = dB (Rk x ta tn tc)/\TxsAt w ta tn x.2.2.2.2/\SlOk ta tn tc/\ZD w w':=by
 unfold Rk;have⟨X,hX⟩:=ZG ((w.alloc (dA #[F a n c,F b n d] 28)).alloc (dA #[E J 0,E J 0,E J 0,E J 0,F aD 0 0] 33));have ab:ZD w X:=by rw[hX];exact Zf (Zh _ _) (Zh _ _)
 have x0:X.cell? ⟨w.heap.size,0,aD⟩=dG (F a n c):=by rw[hX];exact Ze (Zh _ _) (Yo w _ _ _).1
 have x1:X.cell? ⟨w.heap.size,1,aD⟩=dG (F b n d):=by rw[hX];exact Ze (Zh _ _) (Yo w _ _ _).2
 have al:X.heap[w.heap.size+1]? = dG (dA [E J 0,E J 0,E J 0,E J 0,F aD 0 0].toArray 33 (0,0)):=by
  rw[hX];have:=Zw (w.alloc (dA #[F a n c,F b n d] 28)) (E J 0) (E J 0) (E J 0) (E J 0) (F aD 0 0) 33;rw[show (w.alloc (dA #[F a n c,F b n d] 28)).heap.size=w.heap.size+1 by simp] at this;exact this
 have⟨z0,z1,z2,z3,z4,y0,y1,y2,y3,y4,xl⟩:=kf5 al;have⟨k,hk⟩:=ZF (Q5 s N 0);have⟨C,ad,HT⟩:=kh3 (indexInt_is a n c N s k X hn (h.later ab) hk) ab hT
 rcases idxI_fnd s N T 0 (by rw[h.1,hT.1]) with ⟨h1,_,h3⟩|⟨i,hi,h1,_,h3⟩
 ·rw[hx] at h3;obtain rfl:k = -1:=by rw[<-hk,h1]
  subst h3;unfold Y6;simp only;go_enter func124,ntmps124;go_wp2_with fail;rw[<-hX];clear hX;refine C.mono ?_;rintro e w1 ⟨rfl,rfl⟩;go_wp2;refine aL (v:=.agg #[E J 0,E J 0,E J 0,E J 0,F aD 0 0]) ?_ rfl ⟨aD,0,0,rfl,RowsAt.nil _ _,⟨aE _,aI _,λ_=>⟨rfl,rfl⟩⟩,?_⟩
  ·rw[Yb rfl];go_simp
  ·exact (((((Gr.refl X (λq=>q=w.heap.size+1)).one (w.heap.size+1) 0 (.inl rfl) _).one (w.heap.size+1) 1 (.inl rfl) _).one (w.heap.size+1) 2 (.inl rfl) _).one (w.heap.size+1) 3 (.inl rfl) _).one (w.heap.size+1) 4 (.inl rfl) _ |>.below ad (by omega) (λk hk=>by omega)
 ·rw[hx] at h3;obtain rfl:k=(i:Int):=by rw[<-hk,h1];simp
  have av:i<n:=by rw[<-hT.1];exact hi
  obtain⟨bb,off,rfl,am,an⟩:=hT.2 (by omega);have ae:=an i hi;rw[<-h3] at ae;have⟨g0,g1,g2,g3,ta,tn,tc,g4,ht,hs⟩:=ae;have⟨ah,ag⟩:=kh2 ht hs;have k0:=Ze ab g0;have k1:=Ze ab g1;have k2:=Ze ab g2;have k3:=Ze ab g3;have k4:=Ze ab g4;have bl:=aF am ab.size;go_enter func124,ntmps124;go_wp2_with fail;rw[<-hX];clear hX;refine C.mono ?_;rintro e w1 ⟨rfl,rfl⟩;go_wp2;refine aL (v:=.agg #[E J x.1,E J x.2.1,E J x.2.2.1,E J x.2.2.2.1,F ta tn tc]) ?_ rfl ⟨ta,tn,tc,rfl,Za ah,Za ag,?_⟩
  ·rw[Yb rfl];go_simp
  ·exact (((((Gr.refl X (λq=>q=w.heap.size+1)).one (w.heap.size+1) 0 (.inl rfl) _).one (w.heap.size+1) 1 (.inl rfl) _).one (w.heap.size+1) 2 (.inl rfl) _).one (w.heap.size+1) 3 (.inl rfl) _).one (w.heap.size+1) 4 (.inl rfl) _ |>.below ad (by omega) (λk hk=>by omega)
theorem Gi(p h k n v w) :
  (Instr.field 33 (.agg #[p,h,k,n,v]) 0).run aB w = .ok p w/\(Instr.field 33 (.agg #[p,h,k,n,v]) 1).run aB w = .ok h w/\(Instr.field 33 (.agg #[p,h,k,n,v]) 2).run aB w = .ok k w:=by
 refine⟨?_,?_,?_⟩ <;> kernel_rfl
theorem He(a b)(n c d:Nat)(N T)(s z:Int)(w:World)(hn:n<=aT)(h:IntsAt w a n N)(hT:BlksAt w b n T)(hz:(fnd s N T).2.1=z) :
  ZH 119 #[.agg #[F a n c,F b n d],E J s] w (E J z):=by
 have hb:=Zh w (dA #[F a n c,F b n d] 28);have C:=Ks a b n c d N T s _ _ hn (h.later hb) (hT.later hb) rfl;unfold Rk at C;rw[hz] at C;have⟨C,HB⟩:=kh2 C hb;go_enter func119,ntmps119;go_wp2_with fail;refine C.mono ?_;rintro e w1 ⟨ta,tn,tc,rfl,_,_,ab⟩;have ad:=Zb (Zf HB ab);have hf:=(Gi (E J (fnd s N T).1) (E J z) (E J (fnd s N T).2.2.1) (E J (fnd s N T).2.2.2.1) (F ta tn tc) w1).2.1;clear ab;go_wp2;go_ret;exact⟨rfl,Za ad⟩
def Wid(sz:Nat)(K:List (List Value)):Prop:=∀ c∈K,c.length=sz
theorem AllC.wid{α : Type}{Z:Rec α}{w K}{L:List α}(h:AllC Z w K L):Wid Z.sz K:=by
 intro c hc;obtain⟨i,hi,rfl⟩:=List.getElem_of_mem hc;exact Z.wide _ _ _ (h.2 i (by rw[<-h.1];exact hi) hi)
theorem Zjh{sz:Nat}:∀ {K:List (List Value)} (_:Wid sz K) (k:Nat) (h:k<K.length) (j:Nat) (_:j<sz),K.flatten[k*sz+j]? = (K[k])[j]?
 | [],_,_,h,_,_=>absurd h (by simp)
 | c :: K,hw,0,_,j,hj=>by
  have h2:=hw c (by simp);rw[cZ,List.getElem?_append_left (by omega)];simp
 | c :: K,hw,k+1,h,j,hj=>by
  have h2:=hw c (by simp);rw[cZ,List.getElem?_append_right (by rw[h2,Nat.succ_mul];omega),h2];rw[show (k+1)*sz+j - sz=k*sz+j by rw[Nat.succ_mul];omega];rw[Zjh (λc hc=>hw c (by simp[hc])) k (by simpa using h) j hj];simp
theorem Wf{sz:Nat}:∀ {K:List (List Value)} (_:Wid sz K) (k:Nat) (h:k<K.length) (j:Nat) (_:j<sz) (u:Value),K.flatten.set (k*sz+j) u=(K.set k ((K[k]).set j u)).flatten
 | [],_,_,h,_,_,_=>absurd h (by simp)
 | c :: K,hw,0,_,j,hj,u=>by
  have h2:=hw c (by simp);rw[cZ,Nat.zero_mul,bO,List.set_append_left _ _ (by omega)];simp
 | c :: K,hw,k+1,h,j,hj,u=>by
  have h2:=hw c (by simp);rw[cZ,List.set_append_right _ _ (by rw[h2,Nat.succ_mul];omega),h2];rw[show (k+1)*sz+j - sz=k*sz+j by rw[Nat.succ_mul];omega];rw[Wf (λc hc=>hw c (by simp[hc])) k (by simpa using h) j hj u];simp
theorem Qn{sz:Nat}{K:List (List Value)}(hw:Wid sz K)(k:Nat){c:List Value}(hc:c.length=sz):Wid sz (K.set k c):=by
 intro x hx
 rcases List.mem_or_eq_of_mem_set hx with q|rfl
 ·exact hw x q
 ·exact hc
structure Cl{α : Type}(Z:Rec α)(e:aY)(B G:Nat)(w0 wr:World)(v:Value)(n:Nat)(K:List (List Value))(L:List α)(k:Nat):Prop where
 own:wr.ownsRow B e Z.sz v n K.flatten
 wid:Wid Z.sz K
 len:K.length=L.length
 ln:L.length=n
 gt:∀ q,v.ownBlock=dG q->q<G
 new:∀ i (h:i<L.length) (h':i<K.length),i<k->Fresh G wr (λw2=>Z.C w2 K[i] L[i])
 old:∀ i (h:i<L.length) (h':i<K.length),k<=i->Z.C w0 K[i] L[i]
section
section
variable {α : Type} {Z : Rec α} {e : TypeId} {B G : Nat} {w0 wr w' : World} {v : Value} {n : Nat} {K : List (List Value)} {L : List α} {k : Nat}
theorem Cl.start(h:wr.ownsRow B e Z.sz v n K.flatten)(hc:AllC Z w0 K L)(hn:L.length=n)(hG:wr.heap.size<=G):Cl Z e B G w0 wr v n K L 0:=
 ⟨h,hc.wid,hc.1,hn,λq hq=>aF (h.lt q hq).2 hG,λ_ _ _ h=>absurd h (by omega),λi h h' _=>hc.2 i h h'⟩
theorem Cl.gr{S:Nat->Prop}(h:Cl Z e B G w0 wr v n K L k)(g:Gr wr w' S)(hs:∀ q,S q->q<G)(hv:∀ q,v.ownBlock=dG q->¬S q):Cl Z e B G w0 w' v n K L k:=
 ⟨g.own h.own hv,h.wid,h.len,h.ln,h.gt,λi a b c=>(h.new i a b c).on (g.mono λq _ hq=>hs q hq),h.old⟩
theorem Cl.keep(h:Cl Z e B G w0 wr v n K L k)(hb:ZD wr w'):Cl Z e B G w0 w' v n K L k:=
 h.gr (S:=λ_=>False) (Gr.of hb) (λ_ q=>q.elim) (λ_ _ q=>q)
theorem Cl.form(h:Cl Z e B G w0 wr v n K L k)(hn:0<n):∃ g cap,v = F (dG ⟨g,0,aD⟩) n cap/\B<=g/\g<G/\g<wr.heap.size:=by
 rcases h.own.2 with ⟨_,h0⟩|⟨g,cap,ac,rfl,hg,hh,_⟩
 ·omega
 ·exact⟨g,cap,rfl,hg,h.gt g rfl,aA hh⟩
theorem Cl.cell{g cap:Nat}(h:Cl Z e B G w0 wr (F (dG ⟨g,0,aD⟩) n cap) n K L k)(i:Nat)(hi:i<K.length)(j:Nat)(hj:j<Z.sz):wr.cell? ⟨g,i*Z.sz+j,aD⟩=(K[i])[j]?:=by
 have ab:i<n:=by rw[<-h.ln,<-h.len];exact hi
 have:(i+1)*Z.sz<=n*Z.sz:=Nat.mul_le_mul_right _ (by omega);rw[Nat.succ_mul] at this;rw[bH h.own _ (by omega),Zjh h.wid i hi j hj]
theorem Cl.free{g cap:Nat}(h:Cl Z e B G w0 wr (F (dG ⟨g,0,aD⟩) n cap) n K L k)(j:Nat):wr.frozen? ⟨g,j,aD⟩=false:=h.own.frozenAt j
theorem Cl.step{g cap:Nat}(h:Cl Z e B G w0 wr (F (dG ⟨g,0,aD⟩) n cap) n K L k)(hk:k<L.length){cs}(hc:Fresh G wr (λw2=>Z.C w2 cs L[k]))(hg:Gr wr w' (λq=>q=g))(ho:w'.ownsRow B e Z.sz (F (dG ⟨g,0,aD⟩) n cap) n (K.set k cs).flatten):Cl Z e B G w0 w' (F (dG ⟨g,0,aD⟩) n cap) n (K.set k cs) L (k+1):=by
 have ae:=h.gt g rfl;have hw:=Z.wide _ _ _ hc.now;have hm:Gr wr w' (λq=>q<G):=hg.mono λq _ e=>by omega
 refine⟨ho,Qn h.wid k hw,by rw[List.length_set];exact h.len,h.ln,h.gt,λi a b c=>?_,λi a b c=>?_⟩
 ·by_cases e:i=k
  ·subst e;rw[cY];exact hc.on hm
  ·rw[List.getElem_set_ne (by omega)];exact (h.new i a (by simpa using b) (by omega)).on hm
 ·rw[List.getElem_set_ne (by omega)];exact h.old i a (by simpa using b) (by omega)
theorem Cl.done(h:Cl Z e B G w0 wr v n K L n):Fresh G wr (λw2=>AllC Z w2 K L):=λw2 g2=>
 ⟨h.len,λi a b=>h.new i a b (by rw[<-h.ln];exact a) w2 g2⟩
theorem Cl.rows(h:Cl Z e B G w0 wr v n K L n)(hB:B<=G):∃ a c,v = F a n c/\Fresh B wr (λw2=>RowsAt Z.R Z.sz w2 a n L/\SlOk a n c):=by
 obtain⟨a,c,rfl,_,_⟩:=rows_of_own Z h.own h.done.now h.ln;refine⟨a,c,rfl,λw2 g2=>?_⟩;have ho:=g2.own h.own (λq hq=>by have:=(h.own.lt q hq).1;omega);have⟨a',c',e,h1,h2⟩:=rows_of_own Z ho (h.done w2 (g2.mono λq _ hq=>by omega)) h.ln;cases e;exact⟨h1,h2⟩
end
theorem set_cells{w:World}{b:Nat}{X:List Value}{t:aY}(h:w.heap[b]? = dG (dA X.toArray t (0,0)))(j:Nat)(u):(w.setCell ⟨b,j,aD⟩ u).heap[b]? = dG (dA (X.set j u).toArray t (0,0)):=by
 rw[setCell_eq_setRow w b j X.toArray t (0,0) u h];have:=setRow_heap w b _ (X.toArray.setIfInBounds j u) t _ h;simpa using this
theorem len1{c:List Value}(h:c.length=2):∃ x y,c=[x,y]:=by
 match c,h with
 | [x,y],_=>exact⟨x,y,rfl⟩
theorem len3{c:List Value}(h:c.length=3):∃ x y z,c=[x,y,z]:=by
 match c,h with
 | [x,y,z],_=>exact⟨x,y,z,rfl⟩
theorem len5{c:List Value}(h:c.length=5):∃ x y z r s,c=[x,y,z,r,s]:=by
 match c,h with
 | [x,y,z,r,s],_=>exact⟨x,y,z,r,s,rfl⟩
theorem put2{K:List (List Value)}(hw:Wid 2 K)(k:Nat)(h:k<K.length)(a b):((K.flatten.set (k*2) a).set (k*2+1) b)=(K.set k [a,b]).flatten:=by
 have⟨x,y,e⟩:=len1 (hw _ (aQ h));have h1:=Wf hw k h 0 (by decide) a;rw[Nat.add_zero] at h1;rw[h1,Wf (Qn hw k (by rw[List.length_set,e];rfl)) k (by rw[List.length_set];exact h) 1 (by decide) b,cY,List.set_set,e];rfl
theorem put3{K:List (List Value)}(hw:Wid 3 K)(k:Nat)(h:k<K.length)(a b c):(((K.flatten.set (k*3) a).set (k*3+1) b).set (k*3+2) c)=(K.set k [a,b,c]).flatten:=by
 have⟨x,y,z,e⟩:=len3 (hw _ (aQ h));have h1:=Wf hw k h 0 (by decide) a;rw[Nat.add_zero] at h1;rw[h1,Wf (Qn hw k (by rw[List.length_set,e];rfl)) k (by rw[List.length_set];exact h) 1 (by decide) b,cY,List.set_set,e];rw[Wf (Qn hw k rfl) k (by rw[List.length_set];exact h) 2 (by decide) c,cY,List.set_set];rfl
theorem put5{K:List (List Value)}(hw:Wid 5 K)(k:Nat)(h:k<K.length)(a b c d f):(((((K.flatten.set (k*5) a).set (k*5+1) b).set (k*5+2) c).set (k*5+3) d).set (k*5+4) f)=(K.set k [a,b,c,d,f]).flatten:=by
 have⟨x,y,z,r,s,e⟩:=len5 (hw _ (aQ h));have h1:=Wf hw k h 0 (by decide) a;rw[Nat.add_zero] at h1;rw[h1,Wf (Qn hw k (by rw[List.length_set,e];rfl)) k (by rw[List.length_set];exact h) 1 (by decide) b,cY,List.set_set,e];rw[Wf (Qn hw k rfl) k (by rw[List.length_set];exact h) 2 (by decide) c,cY,List.set_set];rw[Wf (Qn hw k rfl) k (by rw[List.length_set];exact h) 3 (by decide) d,cY,List.set_set];rw[Wf (Qn hw k rfl) k (by rw[List.length_set];exact h) 4 (by decide) f,cY,List.set_set];rfl
theorem Tu(x:Int)(a)(n c:Nat)(l)(w:World)(hn:n<=8796093022208)(h:OpsAt w a n l)(hs:SlOk a n c) :
  Calls aB 191 #[.agg #[E J x,F a n c]] w λe w'=>∃ a' c',e = dB (.agg #[E J x,F a' n c'])/\Fresh w.heap.size w' (λw2=>OpsAt w2 a' n l/\SlOk a' n c')/\ZD w w':=by
 have⟨X,hX⟩:=ZG ((w.alloc (dA #[E J x,F a n c] 92)).alloc (dA #[E J 0,F aD 0 0] 92));have ah:ZD w X:=by rw[hX];exact Zf (Zh _ _) (Zh _ _)
 have x0:X.cell? ⟨w.heap.size,0,aD⟩=dG (E J x):=by rw[hX];exact Ze (Zh _ _) (Yo w _ _ _).1
 have x1:X.cell? ⟨w.heap.size,1,aD⟩=dG (F a n c):=by rw[hX];exact Ze (Zh _ _) (Yo w _ _ _).2
 have al:X.heap[w.heap.size+1]? = dG (dA [E J 0,F aD 0 0].toArray 92 (0,0)):=by
  rw[hX];have:=two_heap (w.alloc (dA #[E J x,F a n c] 92)) (E J 0) (F aD 0 0) 92;rw[show (w.alloc (dA #[E J x,F a n c] 92)).heap.size=w.heap.size+1 by simp] at this;exact this
 have⟨C,af,ak⟩:=kh3 (cloneOp_any a n c l X.drew hn (h.later (Zf ah (Zj X))) hs) al ah;go_enter func191,ntmps191;go_wp2_with fail;rw[<-hX];clear hX
 go_region_with (go_at_call 186;refine C.mono ?_;rintro e w3 ⟨a',c',rfl,ae,ab⟩;have o2:w3.cell? ⟨w.heap.size,0,aD⟩=dG (E J x):=Ze ab (Ze (Zj _) x0);have ad:=ZE ab af;have c0:=Zd ad 0 _ rfl;have c1:=Zd ad 1 _ rfl;have f0:=Zg ad 0;have f1:=Zg ad 1;have H3:Hid (Fresh X.drew.heap.size w3 (λw2=>OpsAt w2 a' n l/\SlOk a' n c')/\Below X.drew.heap.size X.drew w3):=⟨ae,ab⟩;clear ae ab ad)
 all_goals
  go_wp2;have⟨ae,ab⟩:=Za H3;have hG:=((Gr.refl w3 (λq=>q=w.heap.size+1)).one (w.heap.size+1) 0 (.inl rfl) (E J x)).one (w.heap.size+1) 1 (.inl rfl) (F a' n c');have au:w.heap.size+1<X.drew.heap.size:=aA af;refine aL (v:=.agg #[E J x,F a' n c']) ?_ rfl ⟨a',c',rfl,(ae.on (hG.mono λq _ e=>by omega)).less (by omega),?_⟩
  ·rw[Yb rfl];go_simp
  ·have av:=ab.size;exact hG.below (Zf (Zf ak (Zj _)) ab) (by omega) (λk hk=>by omega)
end
