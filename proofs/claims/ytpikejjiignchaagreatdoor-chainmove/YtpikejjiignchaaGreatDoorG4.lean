import Derived.Test.YtpikejjiignchaaGreatDoorH
import Derived.Test.YtpikejjiignchaaGreatDoorG3
import Derived.Laws.CopyOwn
import Derived.Lib.Overlaps
open Go.Proofs.Tryz
open Bool renaming not_eq_true->cS,noConfusion->dE,and_eq_true->bL
open Go renaming TypeId->bO,wp_loop_rounds->aQ,rounds_succ->aL
open Go.Ending renaming returned->dX
open Go.IntKind renaming wrap_i64->bF,i64->J
open Go.Obj renaming cells->dW
open Go.Proofs.Tryz renaming prog->aB
open Go.Value renaming int->E,slice->F,tuple->dY,bool->eA
open Go.World renaming block_lt_of_cell?->aC,cell?_alloc_at->cH
open List renaming getElem_mem->bK,take_succ_eq_append_getElem->aM,length_take->bG,take_of_length_le->aY,mem_cons->bU,mem_cons_self->dJ,map_append->bW,drop_eq_getElem_cons->aN,drop_of_length_le->cB,mem_append->cI,mem_filter->dO,take_succ_cons->dK,getElem?_eq_getElem->aS,length_eq_zero_iff->aJ
open Nat renaming le_refl->aE,zero_le->aP
open Option.some renaming injEq->bE
set_option maxHeartbeats 6400000
set_option maxRecDepth 10000
namespace Go.Proofs.YtpikejjiignchaaGreatDoor
open Go.RowKit
theorem Ma(z:Int)(hz : -10000000000<=z/\z<=10000000000)(w:World)(O:Env w):ZH 107 #[E J z] w (.string (X4 z)):=
 (Tryz.strconv_Itoa z (by omega) (by omega) w O.tab).mono λe w' ⟨h1,k,os,h2⟩=>⟨h1,by rw[h2];exact Lib.below_grow _ _ (aE _) k os⟩
theorem Zmd(h:Int):Uc h=((⟨#[116,120,32]⟩:ByteArray)++X4 h)++⟨#[10]⟩:=by
 apply Jp
 simp[Uc,Vl,txB]
theorem Zqu(O x2:Int)(z):Pm (O,x2,z)=(((((((⟨#[105,110,32]⟩:ByteArray)++X4 O)++⟨#[32]⟩)++X4 x2)++⟨#[58]⟩)++Yk z)++⟨#[10]⟩):=by
 apply Jp
 simp[Pm,Kt,Vl,inB]
theorem Zoc(O:Int)(z):Rm (O,z)=(((((⟨#[111,117,116,32]⟩:ByteArray)++X4 O)++⟨#[58]⟩)++Yk z)++⟨#[10]⟩):=by
 apply Jp
 simp[Rm,Kt,Vl,Zod]
theorem Fv(h:Int)(ai ao ni ci no ef I ee)(w:World)(hE:EnvF w)(hI:InsAt w ai ni I)(hO:OutsAt w ao no ee)(hx:Zr (h,I,ee)=0) :
  ZH 59 #[.agg #[E J h,F ai ni ci,F ao no ef]] w (.string (Ye (h,I,ee))):=by
 have ok:=TxOk.of hx;have hb:=Zg w (dW #[E J h,F ai ni ci,F ao no ef] 52);obtain⟨n0,n1,n2⟩:=Vp w (E J h) (F ai ni ci) (F ao no ef) 52;have dl:ni<=6:=by have:=ok.ins6;have:=hI.1;simp only at *;omega
 have dy:no<=6:=by have:=ok.outs6;have:=hO.1;simp only at *;omega
 have HG:=Zb ok.hgt;have bq:=Zb ok.ins;have co:=Zb ok.outs;have hh : -10000000000<=h/\h<=10000000000:=by have:=ok.hgt;simp only at this;omega
 have IT:=Zb (Ma h hh _ (hE.later hb).envp.env);have HE:=Zb hE;have HI:=Zb hI;have HO:=Zb hO;have HB:=Zb hb;have N1:=Zb n1;have N2:=Zb n2;have cp:=Zb (Zmd h);have s0:=Vi h hh;obtain⟨A0,hA0⟩:=ZF (X4 h);rw[hA0] at IT cp s0;have s1:((⟨#[116,120,32]⟩:ByteArray)++A0).size<=24:=by rw[ByteArray.size_append];have:(⟨#[116,120,32]⟩:ByteArray).size=3:=rfl;omega
 clear hb n1 n2 hE hI hO hx ok hA0 hh;go_enter func59,ntmps59;go_wp2_with fail;refine IT.mono ?_;rintro e w3 ⟨rfl,bh⟩;have m1:=Zc bh N1;have M2:=Zb (Zc bh N2);have l3:w.heap.size<w3.heap.size:=aC _ _ m1;have dc:=Zb (Ze HB bh);clear bh;go_wp2
 go_loopw [3,16] (λs i wr=>∃ k:Nat,k<=ni/\i = E J k/\s = .string (Xj h (I.take k))/\ZD w3 wr) (λ_ i _=>ni - (intOf i).toNat)
 case atStart=>exact⟨0,aP _,rfl,by rw[<-Za cp];rfl,Below.refl _ _⟩
 case round=>
  obtain⟨k,hk,rfl,rfl,ba⟩:=hrel;have cj:=Zb ba;have bi:=Ze dc ba;have db:=Zb bi;by_cases bk:k<ni
  ·have aq:k<I.length:=(by rw[(Za HI).1];exact bk);obtain⟨b,off,rfl,dj,bc⟩:=(HI.later bi).2 (by omega);obtain⟨g1,g2,ka,kn,kc,g3,g4,_⟩:=bc k aq;have ad:=bq I[k] (bK aq);have O:=Gm h (I.take k) I[k];rw[<-aM aq] at O
   have cb:(Xj h (I.take k)).size<=3000:=by
    have:=Ub h (I.take k) HG (λx hx=>bq x (List.mem_of_mem_take hx));rw[bG] at this;omega
   obtain⟨x,hx⟩:=ZF (I[k]);rw[hx] at g1 g2 g4 ad O;obtain⟨z,x2,al⟩:=x;simp only at g1 g2 g3 g4;have hp:=(Tg _).1 ad.1;simp only at hp;obtain⟨T,hT⟩:=ZF (Xj h (I.take k));rw[hT,Zqu] at O;rw[hT] at cb ⊢;obtain⟨X,hX⟩:=ZG (wr.alloc (dW #[E J z,E J x2,F ka kn kc] 124));have b1:ZD wr X:=(by rw[hX];exact Zg _ _);have cx:=Vp wr (E J z) (E J x2) (F ka kn kc) 124;rw[<-hX] at cx;obtain⟨ce,cf,dp⟩:=cx;have EX:=(HE.later bi).later b1;have I1:Hid (∀ w',ZD X w'->Calls aB 107 #[E J z] w' λe w2=>e = dX (.string (X4 z))/\ZD w' w2):=λw' ae=>Ma z (by omega) w' (EX.later ae).envp.env;have I2:Hid (∀ w',ZD X w'->Calls aB 107 #[E J x2] w' λe w2=>e = dX (.string (X4 x2))/\ZD w' w2):=λw' ae=>Ma x2 (by omega) w' (EX.later ae).envp.env;have OT:Hid (∀ w',ZD X w'->Calls aB 108 #[F ka kn kc] w' λe w2=>e = dX (.string (Yk al))/\ZD w' w2):=λw' ae=>Kl ka kn kc al w' (EX.later ae) ((g4.later b1).later ae) ad.2;have z1:=Vi z (by omega);have z2:=Vi x2 (by omega);have z3:=Uq al ad.2;obtain⟨A,hA⟩:=ZF (X4 z);obtain⟨B,hB⟩:=ZF (X4 x2);obtain⟨C,hC⟩:=ZF (Yk al);rw[hA] at I1 z1 O;rw[hB] at I2 z2 O;rw[hC] at OT z3 O;have y1:¬9223372036854775807<3+A.size:=(by omega);have y2:¬9223372036854775807<3+A.size+1:=(by omega);have y3:¬9223372036854775807<3+A.size+1+B.size:=(by omega);have y4:¬9223372036854775807<3+A.size+1+B.size+1:=(by omega);have y5:¬9223372036854775807<3+A.size+1+B.size+1+C.size:=by omega
   have y6:¬9223372036854775807<3+A.size+1+B.size+1+C.size+1:=(by omega);have y7:¬9223372036854775807<T.size+(3+A.size+1+B.size+1+C.size+1):=(by omega);have HS:=Zb O;have bn:=Zb b1;clear ba bi bc g4 ad hx hT O b1 hp hA hB hC EX;go_wp2_with fail;rw[<-hX];clear hX
   go_region_held3 (λw'=>ZD X w'/\w'.cell? ⟨wr.heap.size,0,none⟩=some (E J z)/\w'.cell? ⟨wr.heap.size,1,none⟩=some (E J x2)/\w'.cell? ⟨wr.heap.size,2,none⟩=some (F ka kn kc))
    (first
    | exact⟨Bc _,ce,cf,dp⟩
    | (go_split_ands;refine⟨Ze (by assumption) ac,Zc ac (by assumption),Zc ac (by assumption),Zc ac (by assumption)⟩))
    (first
    | (go_at_call 107;go_split_ands;refine (I1 _ (by assumption)).mono ?_;rintro e w' ⟨rfl,ac⟩)
    | (go_at_call 107;go_split_ands;refine (I2 _ (by assumption)).mono ?_;rintro e w' ⟨rfl,ac⟩)
    | (go_at_call 108;go_split_ands;refine (OT _ (by assumption)).mono ?_;rintro e w' ⟨rfl,ac⟩))
   rename_i hH;have HH:=Zb (cj.trans ((Ze bn hH.1).mono cj.size));clear hH;go_wp2;go_roundw
   case rel=>exact⟨k+1,by omega,by go_num,by rw[Za HS],Za HH⟩
   case measure=>simp[intOf];omega
  ·have e:k=ni:=(by omega);subst e;have HT:Hid (Xj h (I.take k)=Xj h I):=(by show _=_;rw[aY (by rw[(Za HI).1];exact aE _)]);have cb:=Ub h I HG bq;have dw:I.length<=6:=(by rw[(Za HI).1];exact dl);obtain⟨T1,ca⟩:=ZF (Xj h I);rw[ca] at HT cb;have de:=Zb ca;have m2:=Zc ba M2;have s4:w.heap.size<wr.heap.size:=aC _ _ m2;rw[Za HT];clear ba ca hk bk;go_wp2
   go_loopw [3,43] (λs i wz=>∃ j:Nat,j<=no/\i = E J j/\s = .string (Wi T1 (ee.take j))/\ZD wr wz) (λ_ i _=>no - (intOf i).toNat)
   case atStart=>exact⟨0,aP _,rfl,rfl,Below.refl _ _⟩
   case round=>
    obtain⟨j,hj,rfl,rfl,bj⟩:=hrel;have cl:=Zb bj;have bb:=Ze db bj;have da:=Zb bb;by_cases bk:j<no
    ·have aq:j<ee.length:=(by rw[(Za HO).1];exact bk);obtain⟨b,off,rfl,dj,bc⟩:=(HO.later bb).2 (by omega);obtain⟨g1,ka,kn,kc,g3,g4,_⟩:=bc j aq;have ad:=co ee[j] (bK aq);have O:=Sn T1 (ee.take j) ee[j];rw[<-aM aq] at O
     have di:(Wi T1 (ee.take j)).size<=6000:=by
      have:=Jl T1 (ee.take j) (λx hx=>co x (List.mem_of_mem_take hx));rw[bG] at this;omega
     obtain⟨x,hx⟩:=ZF (ee[j]);rw[hx] at g1 g4 ad O;obtain⟨z,al⟩:=x;simp only at g1 g3 g4;have hp:=ad.1;simp only at hp;obtain⟨T,hT⟩:=ZF (Wi T1 (ee.take j));rw[hT,Zoc] at O;rw[hT] at di ⊢;obtain⟨X,hX⟩:=ZG (wr.alloc (dW #[E J z,F ka kn kc] 101));have b1:ZD wr X:=(by rw[hX];exact Zg _ _);have cx:=Qf wr (E J z) (F ka kn kc) 101;rw[<-hX] at cx;obtain⟨ce,cf⟩:=cx;have EX:=(HE.later bb).later b1;have I1:Hid (∀ w',ZD X w'->Calls aB 107 #[E J z] w' λe w2=>e = dX (.string (X4 z))/\ZD w' w2):=λw' ae=>Ma z (by omega) w' (EX.later ae).envp.env;have OT:Hid (∀ w',ZD X w'->Calls aB 108 #[F ka kn kc] w' λe w2=>e = dX (.string (Yk al))/\ZD w' w2):=λw' ae=>Kl ka kn kc al w' (EX.later ae) ((g4.later b1).later ae) ad.2;have z1:=Vi z (by omega);have z3:=Uq al ad.2;obtain⟨A,hA⟩:=ZF (X4 z);obtain⟨C,hC⟩:=ZF (Yk al);rw[hA] at I1 z1 O;rw[hC] at OT z3 O;have y1:¬9223372036854775807<4+A.size:=(by omega);have y2:¬9223372036854775807<4+A.size+1:=(by omega);have y3:¬9223372036854775807<4+A.size+1+C.size:=(by omega);have y4:¬9223372036854775807<4+A.size+1+C.size+1:=(by omega);have y5:¬9223372036854775807<T.size+(4+A.size+1+C.size+1):=(by omega);have HS:=Zb O;have bn:=Zb b1;clear bj bb bc g4 ad hx hT O b1 hp hA hC EX;go_wp2_with fail;rw[<-hX];clear hX
     go_region_held3 (λw'=>ZD X w'/\w'.cell? ⟨wr.heap.size,0,none⟩=some (E J z)/\w'.cell? ⟨wr.heap.size,1,none⟩=some (F ka kn kc))
      (first
      | exact⟨Bc _,ce,cf⟩
      | (go_split_ands;refine⟨Ze (by assumption) ac,Zc ac (by assumption),Zc ac (by assumption)⟩))
      (first
      | (go_at_call 107;go_split_ands;refine (I1 _ (by assumption)).mono ?_;rintro e w' ⟨rfl,ac⟩)
      | (go_at_call 108;go_split_ands;refine (OT _ (by assumption)).mono ?_;rintro e w' ⟨rfl,ac⟩))
     rename_i hH;have HH:=Zb (cl.trans ((Ze bn hH.1).mono cl.size));clear hH;go_wp2;go_roundw
     case rel=>exact⟨j+1,by omega,by go_num,by rw[Za HS],Za HH⟩
     case measure=>simp[intOf];omega
    ·have HF:Hid (Wi T1 (ee.take j)=Ye (h,I,ee)):=by
      show _=_;rw[aY (by rw[(Za HO).1];omega),<-Za de];rfl
     clear bj bb;go_wp2;go_ret;exact⟨by rw[<-Za HF];rfl,Za da⟩
abbrev Zf:=Int×Int×Int×List (Int×Int)×Int×Bool
abbrev PtD:=Int×Int
def pt(c:Zf):PtD:=(c.1,c.2.1)
def cv(c:Zf):Int:=c.2.2.1
def ck(c:Zf):List (Int×Int):=c.2.2.2.1
def ch(c:Zf):Int:=c.2.2.2.2.1
def cr(c:Zf):Bool:=c.2.2.2.2.2
def lt(p q:PtD):Bool:=decide (p.1<q.1) || (decide (p.1=q.1) && decide (p.2<q.2))
theorem Qu(p q:PtD):lt p q=true↔p.1<q.1\/p.1=q.1/\p.2<q.2:=by simp[lt]
theorem lt_irrefl(p:PtD):lt p p=false:=by
 rw[<-cS,Qu];omega
theorem lt_trans{p q r:PtD}(h1:lt p q=true)(h2:lt q r=true):lt p r=true:=by
 rw[Qu] at *;omega
theorem Tk{p q:PtD}(h1:lt p q=true):lt q p=false:=by
 rw[<-cS,Qu];rw[Qu] at h1;omega
theorem B9(p q:PtD):lt p q=true\/p=q\/lt q p=true:=by
 rw[Qu,Qu,Prod.ext_iff];omega
theorem R7{p q:PtD}(h:lt p q=true):p≠q:=λe=>by
 subst e;rw[lt_irrefl] at h;exact dE h
def Lw(p q:PtD):Int:=if lt p q then -1 else if p=q then 0 else 1
theorem Cq{p q:PtD}:Lw p q<0↔lt p q=true:=by
 unfold Lw;split
 ·simp[*]
 ·split
  ·rename_i h e;subst e;simp[lt_irrefl]
  ·simp[*]
theorem Zpi{p q:PtD}:Lw p q=0↔p=q:=by
 unfold Lw;split
 ·rename_i h;simp[R7 h]
 ·split <;> simp[*]
def Srt(L:List Zf):Prop:=L.Pairwise λa b=>lt (pt a) (pt b)=true
theorem Srt.tail{c:Zf}{L}(h:Srt (c :: L)):Srt L:=(List.pairwise_cons.1 h).2
theorem Srt.head{c:Zf}{L}(h:Srt (c :: L)):∀ x∈L,lt (pt c) (pt x)=true:=(List.pairwise_cons.1 h).1
theorem Srt.inj{L}(h:Srt L):∀ {x y:Zf},x∈L->y∈L->pt x=pt y->x=y:=by
 induction L with
 | nil=>intro x y z;cases z
 | cons c L ih=>
  intro x y z O e
  rcases bU.1 z with rfl|z <;> rcases bU.1 O with rfl|O
  ·rfl
  ·exact absurd e (R7 (h.head y ‹y∈L›))
  ·exact absurd e.symm (R7 (h.head x ‹x∈L›))
  ·exact ih h.tail z O e
theorem Srt.ext:∀ {L M:List Zf},Srt L->Srt M->(∀ x,x∈L↔x∈M)->L=M
 | [],[],_,_,_=>rfl
 | [],c :: M,_,_,h=>absurd ((h c).2 (dJ ..)) (by simp)
 | c :: L,[],_,_,h=>absurd ((h c).1 (dJ ..)) (by simp)
 | c :: L,d :: M,h1,h2,h=>by
  have e:c=d:=by
   rcases bU.1 ((h c).1 (dJ ..)) with e|e
   ·exact e
   rcases bU.1 ((h d).2 (dJ ..)) with f|f
   ·exact f.symm
   ·have g:=Tk (h2.head _ e);rw[h1.head _ f] at g;exact dE g
  subst e;rw[Srt.ext h1.tail h2.tail λx=>⟨λz=>?_,λz=>?_⟩]
  ·rcases bU.1 ((h x).1 (List.mem_cons_of_mem _ z)) with rfl|q
   ·exact absurd rfl (R7 (h1.head _ z))
   ·exact q
  ·rcases bU.1 ((h x).2 (List.mem_cons_of_mem _ z)) with rfl|q
   ·exact absurd rfl (R7 (h2.head _ z))
   ·exact q
def Zoi(p:PtD):Bool:=(decide (1<=p.1) && decide (p.1<=120)) && (decide (0<=p.2) && decide (p.2<=5))
def okV(n:Int):Bool:=decide (1<=n) && decide (n<=1000000000)
def okH(n:Int):Bool:=decide (1<=n) && decide (n<=1000)
def okC(c:Zf):Bool:=Zoi (pt c) && (okV (cv c) && okH (ch c))
def ck1(c:Zf):Int:=if okC c=false then 3 else chk (ck c)
theorem Wp{c:Zf}(h:ck1 c=0):1<=c.1/\c.1<=120/\0<=c.2.1/\c.2.1<=5/\1<=cv c/\cv c<=1000000000/\1<=ch c/\ch c<=1000/\chk (ck c)=0:=by
 unfold ck1 at h;split at h
 ·cases h
 ·rename_i q;simp only[Bool.not_eq_false,okC,Zoi,okV,okH,pt,bL,decide_eq_true_eq] at q;exact⟨of_decide_eq_true q.1.1.1,of_decide_eq_true q.1.1.2,of_decide_eq_true q.1.2.1,of_decide_eq_true q.1.2.2,q.2.1.1,q.2.1.2,q.2.2.1,q.2.2.2,h⟩
def Tw(p:Option PtD)(c:Zf):Bool:=match p with|none=>true|some p=>lt p (pt c)
def Yv:Option PtD->Int->List Zf->Int
 | _,_,[]=>0
 | p,s,c :: r=>if ck1 c≠0 then ck1 c else if Tw p c=false then 6 else if 1000000000<s+cv c then 12 else Yv (some (pt c)) (s+cv c) r
def Zo(L:List Zf):Int:=if 720<L.length then 2 else Yv none 0 L
def Vs(L:List Zf)(k:Nat):Option PtD:=if k=0 then none else (L[k - 1]?).map pt
def Yg(L:List Zf):Int:=(L.map cv).sum
def Ys(L:List Ya):Int:=(L.map (·.1)).sum
theorem Et:Yg []=0:=rfl
theorem Vb(c:Zf)(L):Yg (c :: L)=cv c+Yg L:=by simp[Yg]
theorem Vq(L M):Yg (L++M)=Yg L+Yg M:=by simp[Yg]
theorem Hc(L:List Zf)(k:Nat)(h:k<L.length):Yg (L.take (k+1))=Yg (L.take k)+cv L[k]:=by
 rw[aM h,Vq,Vb,Et];omega
theorem Tz(L:List Ya)(k:Nat)(h:k<L.length):Ys (L.take (k+1))=Ys (L.take k)+L[k].1:=by
 rw[aM h];unfold Ys;rw[bW,List.sum_append];simp
theorem Ri(L:List Zf)(k:Nat)(h:k<L.length):Vs L (k+1)=some (pt L[k]):=by
 unfold Vs;rw[if_neg (by omega)];simp[h]
theorem Zgk(L:List Zf)(k:Nat)(h:k<L.length)(p:Option PtD)(s:Int):Yv p s (L.drop k)=if ck1 L[k]≠0 then ck1 L[k] else if Tw p L[k]=false then 6 else if 1000000000<s+cv L[k] then 12 else Yv (some (pt L[k])) (s+cv L[k]) (L.drop (k+1)):=by
 rw[aN h,Yv]
theorem Zch(L:List Zf)(k:Nat)(h:L.length<=k)(p:Option PtD)(s:Int):Yv p s (L.drop k)=0:=by
 rw[cB h,Yv]
theorem Zna{c:Zf}{r}{p:Option PtD}{s:Int}(h:ck1 c≠0):Yv p s (c :: r)=ck1 c:=by rw[Yv,if_pos h]
theorem Zeo{c:Zf}{r}{p:Option PtD}{s:Int}(h:ck1 c=0)(h2:Tw p c=false):Yv p s (c :: r)=6:=by
 rw[Yv,if_neg (by rw[h];decide),if_pos h2]
theorem Ziw{c:Zf}{r}{p:Option PtD}{s:Int}(h:ck1 c=0)(h2:Tw p c=true)(h3:1000000000<s+cv c):Yv p s (c :: r)=12:=by
 rw[Yv,if_neg (by rw[h];decide),if_neg (by rw[h2];decide),if_pos h3]
theorem Zpl{c:Zf}{r}{p:Option PtD}{s:Int}(h:ck1 c=0)(h2:Tw p c=true)(h3:¬1000000000<s+cv c):Yv p s (c :: r)=Yv (some (pt c)) (s+cv c) r:=by
 rw[Yv,if_neg (by rw[h];decide),if_neg (by rw[h2];decide),if_neg h3]
theorem Tb:∀ (L:List Zf),(∀ c∈L,0<=cv c)->0<=Yg L
 | [],_=>Int.le_refl _
 | c :: r,h=>by
  rw[Vb];have h1:=h c (dJ ..);have h2:=Tb r λx z=>h x (List.mem_cons_of_mem _ z);omega
theorem Ax:∀ (L:List Zf) (p:Option PtD) (s:Int),0<=s->s<=1000000000->(Yv p s L=0↔(∀ c∈L,ck1 c=0)/\Srt L/\(∀ c∈L,Tw p c=true)/\s+Yg L<=1000000000)
 | [],p,s,_,h=>by simp[Yv,Srt,Yg,h]
 | c :: r,p,s,h0,h=>by
  by_cases h1:ck1 c=0
  ·have hv:1<=cv c:=(Wp h1).2.2.2.2.1;cases h2:Tw p c with
   | false=>
    rw[Zeo h1 h2];refine⟨λe=>(by cases e),λe=>?_⟩;have:=e.2.2.1 c (dJ ..);rw[h2] at this;exact dE this
   | true=>
    by_cases h3:1000000000<s+cv c
    ·rw[Ziw h1 h2 h3];refine⟨λe=>(by cases e),λe=>?_⟩
     have h4:0<=Yg r:=Tb r λx z=>by
      have:=(Wp (e.1 x (List.mem_cons_of_mem _ z))).2.2.2.2.1;omega
     have h5:=e.2.2.2;rw[Vb] at h5;omega
    ·rw[Zpl h1 h2 h3,Ax r (some (pt c)) (s+cv c) (by omega) (by omega),Vb];constructor
     ·rintro ⟨a1,O,a3,a4⟩;refine⟨λx z=>?_,List.pairwise_cons.2 ⟨λx z=>a3 x z,O⟩,λx z=>?_,by omega⟩
      ·rcases bU.1 z with rfl|z
       ·exact h1
       ·exact a1 x z
      ·rcases bU.1 z with rfl|z
       ·exact h2
       ·cases p with
        | none=>rfl
        | some p=>exact lt_trans h2 (a3 x z)
     ·rintro ⟨a1,O,a3,a4⟩;exact⟨λx z=>a1 x (List.mem_cons_of_mem _ z),Srt.tail O,λx z=>Srt.head O x z,by omega⟩
  ·rw[Zna h1];exact⟨λe=>absurd e h1,λe=>absurd (e.1 c (dJ ..)) h1⟩
structure Zy(L:List Zf):Prop where
 len:L.length<=720
 one:∀ c∈L,ck1 c=0
 srt:Srt L
 sum:Yg L<=1000000000
theorem Z6(L):Zo L=0↔Zy L:=by
 unfold Zo;by_cases h:720<L.length
 ·rw[if_pos h];exact⟨λe=>(by cases e),λe=>absurd e.len (by omega)⟩
 ·rw[if_neg h,Ax L none 0 (by omega) (by omega)];exact⟨λ⟨a,b,_,c⟩=>⟨by omega,a,b,by omega⟩,λe=>⟨e.one,e.srt,λ_ _=>rfl,by have:=e.sum;omega⟩⟩
def pos(p:PtD)(L:List Zf):Nat:=L.countP λc=>lt (pt c) p
def Xp(p:PtD)(L:List Zf):Bool:=L.any λc=>decide (pt c=p)
def Ww(p:PtD)(L:List Zf):Option (Zf×List Zf):=
 match L.find? (λc=>decide (pt c=p)) with|none=>none|some c=>some (c,L.filter λc=>decide (pt c≠p))
def Uj(c:Zf)(L:List Zf):List Zf:=L.filter (λx=>lt (pt x) (pt c))++c :: L.filter λx=>lt (pt c) (pt x)
theorem Srt.filter{L:List Zf}(h:Srt L)(f:Zf->Bool):Srt (L.filter f):=List.Pairwise.filter f h
theorem Ud(p:PtD)(L):Xp p L=true↔∃ c∈L,pt c=p:=by simp[Xp]
theorem Nu{c x:Zf}{L}(h:Xp (pt c) L=false):x∈Uj c L↔x=c\/x∈L:=by
 unfold Uj;rw[cI,bU,dO,dO];constructor
 ·rintro (⟨a,_⟩|rfl|⟨a,_⟩)
  ·exact .inr a
  ·exact .inl rfl
  ·exact .inr a
 ·rintro (rfl|a)
  ·exact .inr (.inl rfl)
  ·rcases B9 (pt x) (pt c) with q|q|q
   ·exact .inl ⟨a,q⟩
   ·rw[<-cS,Ud] at h;exact absurd ⟨x,a,q⟩ h
   ·exact .inr (.inr ⟨a,q⟩)
theorem Ux{c:Zf}{L}(h:Srt L):Srt (Uj c L):=by
 unfold Uj Srt;rw[List.pairwise_append];refine⟨h.filter _,List.pairwise_cons.2 ⟨λx hx=>(dO.1 hx).2,h.filter _⟩,λa O b z=>?_⟩;have h1:=(dO.1 O).2
 rcases bU.1 z with rfl|z
 ·exact h1
 ·exact lt_trans h1 (dO.1 z).2
theorem Qg{p:PtD}:∀ {L:List Zf},Srt L->L.take (pos p L)=L.filter (λx=>lt (pt x) p)/\L.drop (pos p L)=L.filter (λx=>!lt (pt x) p)
 | [],_=>by simp[pos]
 | c :: L,h=>by
  obtain⟨h1,h2⟩:=Qg (p:=p) h.tail;unfold pos at *;cases hc:lt (pt c) p with
  | true=>
   rw[List.countP_cons_of_pos (by simpa using hc),List.filter_cons_of_pos (by simpa using hc),List.filter_cons_of_neg (by simp[hc]),dK,List.drop_succ_cons,h1,h2];exact⟨rfl,rfl⟩
  | false=>
   have h3:∀ x∈L,lt (pt x) p=false:=λx z=>by
    rw[<-cS];intro q;rw[lt_trans (h.head x z) q] at hc;exact dE hc
   have e:(c :: L).countP (λc=>lt (pt c) p)=0:=by
    rw[List.countP_eq_zero];intro x z
    rcases bU.1 z with rfl|z
    ·simp[hc]
    ·simp[h3 x z]
   rw[e,List.take_zero,List.drop_zero];constructor
   ·symm;rw[List.filter_eq_nil_iff]
    intro x z
    rcases bU.1 z with rfl|z
    ·simp[hc]
    ·simp[h3 x z]
   ·symm;rw[List.filter_eq_self]
    intro x z
    rcases bU.1 z with rfl|z
    ·simp[hc]
    ·simp[h3 x z]
theorem Zkz(p:PtD)(L:List Zf):pos p L<=L.length:=List.countP_le_length ..
theorem Zbp{p:PtD}{L:List Zf}(h:Srt L):Xp p L=(decide (pos p L<L.length) && decide ((L[pos p L]?).map pt=some p)):=by
 obtain⟨h1,h2⟩:=Qg (p:=p) h;rw[Bool.eq_iff_iff,Ud,bL,decide_eq_true_eq,decide_eq_true_eq];constructor
 ·rintro ⟨c,hc,e⟩;have O:c∈L.drop (pos p L):=by rw[h2,dO];exact⟨hc,by rw[e,lt_irrefl];rfl⟩
  have z:pos p L<L.length:=by
   rcases Nat.lt_or_ge (pos p L) L.length with q|q
   ·exact q
   ·rw[cB q] at O;cases O
  refine⟨z,?_⟩;have hs:Srt (L.drop (pos p L)):=by rw[h2];exact h.filter _
  rw[aN z] at O hs;rw[aS z,Option.map_some]
  rcases bU.1 O with rfl|q
  ·rw[e]
  ·have g:=hs.head c q;have h3:L[pos p L]∈L.drop (pos p L):=(by rw[aN z];exact dJ ..);rw[h2,dO] at h3;rw[e] at g;rw[g] at h3;exact absurd h3.2 (by decide)
 ·rintro ⟨z,e⟩;rw[aS z,Option.map_some,bE] at e;exact⟨L[pos p L],bK z,e⟩
theorem Ml{p:PtD}{L}(h:Xp p L=false):Ww p L=none:=by
 unfold Ww
 have:L.find? (λc=>decide (pt c=p))=none:=by
  rw[List.find?_eq_none];intro x z;rw[<-cS,Ud] at h;simp only[decide_eq_true_eq];exact λe=>h ⟨x,z,e⟩
 rw[this]
theorem Fz{p:PtD}{L:List Zf}(h:Srt L){c:Zf}(z:c∈L)(e:pt c=p):Ww p L=some (c,L.filter λc=>decide (pt c≠p)):=by
 unfold Ww
 have:L.find? (λc=>decide (pt c=p))=some c:=by
  cases q:L.find? (λc=>decide (pt c=p)) with
  | none=>rw[List.find?_eq_none] at q;exact absurd (decide_eq_true e) (q c z)
  | some d=>
   have h1:=List.find?_some q;have h2:=List.mem_of_find?_eq_some q;simp only[decide_eq_true_eq] at h1;rw[h.inj h2 z (by rw[h1,e])]
 rw[this]
theorem Pb{p:PtD}{L M:List Zf}{c:Zf}(h:Ww p L=some (c,M)):c∈L/\pt c=p/\M=L.filter λc=>decide (pt c≠p):=by
 unfold Ww at h;split at h
 ·cases h
 ·rename_i d q;simp only[bE,Prod.mk.injEq] at h;obtain⟨rfl,rfl⟩:=h;have h1:=List.find?_some q;simp only[decide_eq_true_eq] at h1;exact⟨List.mem_of_find?_eq_some q,h1,rfl⟩
theorem Zjs{p:PtD}{L:List Zf}(h:Srt L)(O:pos p L<L.length)(e:pt L[pos p L]=p):Ww p L=some (L[pos p L],L.take (pos p L)++L.drop (pos p L+1)):=by
 rw[Fz h (bK O) e];obtain⟨h1,h2⟩:=Qg (p:=p) h;have h3:=aN O;rw[h2] at h3;have hs:Srt (L[pos p L] :: L.drop (pos p L+1)):=by rw[<-h3];exact h.filter _
 have e1:L.filter (λc=>decide (pt c≠p))=L.take (pos p L)++L.drop (pos p L+1):=by
  have e2:L=L.take (pos p L)++(L[pos p L] :: L.drop (pos p L+1)):=by rw[<-aN O,List.take_append_drop]
  have e3:L.filter (λc=>decide (pt c≠p))=(L.take (pos p L)++(L[pos p L] :: L.drop (pos p L+1))).filter (λc=>decide (pt c≠p)):=congrArg _ e2;rw[e3,List.filter_append,List.filter_cons_of_neg (by simp[e])]
  congr 1
  ·rw[List.filter_eq_self];intro x z;rw[h1,dO] at z;exact decide_eq_true (R7 z.2)
  ·rw[List.filter_eq_self];intro x z;have:=hs.head x z;rw[e] at this;exact decide_eq_true (Ne.symm (R7 this))
 rw[e1]
theorem Zfl{c:Zf}{L:List Zf}(h:Srt L)(z:Xp (pt c) L=false):Uj c L=L.take (pos (pt c) L)++c :: L.drop (pos (pt c) L):=by
 obtain⟨h1,h2⟩:=Qg (p:=pt c) h;unfold Uj;rw[h1,h2]
 congr 2
 refine List.filter_congr λx O=>?_;rw[Bool.eq_iff_iff]
 rcases B9 (pt x) (pt c) with q|q|q
 ·simp[q,Tk q]
 ·rw[<-cS,Ud] at z;exact absurd ⟨x,O,q⟩ z
 ·simp[q,Tk q]
def cnV(x:Zf)(a:Option Addr)(n c:Nat):Value:=.agg #[E J x.1,E J x.2.1,E J (cv x),F a n c,E J (ch x),eA (cr x)]
def CoinAt(w:World)(b o:Nat)(x:Zf):Prop:=
 w.cell? ⟨b,o,none⟩=some (E J x.1)/\w.cell? ⟨b,o+1,none⟩=some (E J x.2.1)/\w.cell? ⟨b,o+2,none⟩=some (E J (cv x)) /\
 (∃ a n c,w.cell? ⟨b,o+3,none⟩=some (F a n c)/\OpsAt w a n (ck x)/\SlOk a n c) /\
 w.cell? ⟨b,o+4,none⟩=some (E J (ch x))/\w.cell? ⟨b,o+5,none⟩=some (eA (cr x))
theorem CoinAt.kept:Bg CoinAt:=λ_ _ _ _ _ z h=>by
 obtain⟨h1,h2,h3,⟨a,n,c,h4,h5,h6⟩,h7,h8⟩:=h;exact⟨Zc z h1,Zc z h2,Zc z h3,⟨a,n,c,Zc z h4,h5.later z,h6⟩,Zc z h7,Zc z h8⟩
def CoinsAt(w:World)(a:Option Addr)(len:Nat)(l:List Zf):Prop:=RowsAt CoinAt 6 w a len l
theorem CoinsAt.later{w w':World}{a len l}(h:CoinsAt w a len l)(z:ZD w w'):CoinsAt w' a len l:=RowsAt.later CoinAt.kept h z
theorem T8(w:World)(a b c d e f)(t:bO):(w.alloc (dW #[a,b,c,d,e,f] t)).cell? ⟨w.heap.size,0,none⟩=some a/\(w.alloc (dW #[a,b,c,d,e,f] t)).cell? ⟨w.heap.size,1,none⟩=some b/\(w.alloc (dW #[a,b,c,d,e,f] t)).cell? ⟨w.heap.size,2,none⟩=some c /\
  (w.alloc (dW #[a,b,c,d,e,f] t)).cell? ⟨w.heap.size,3,none⟩=some d/\(w.alloc (dW #[a,b,c,d,e,f] t)).cell? ⟨w.heap.size,4,none⟩=some e/\(w.alloc (dW #[a,b,c,d,e,f] t)).cell? ⟨w.heap.size,5,none⟩=some f:=by
 refine⟨?_,?_,?_,?_,?_,?_⟩ <;> (rw[cH _ _ _ _ rfl];rfl)
def Lx(x y:Int):Int:=if x<y then -1 else if y<x then 1 else 0
theorem Zbj(x:Int)(w):Calls aB 227 #[E J x] w λe w'=>e = dX (eA false)/\w=w':=by
 go_enter func227,ntmps227;go_wp2;go_ret;exact⟨rfl,rfl⟩
theorem Fk(x y:Int)(w):Calls aB 192 #[E J x,E J y] w λe w'=>e = dX (E J (Lx x y))/\w=w':=by
 have z:=Zb (Zbj x);have O:=Zb (Zbj y);by_cases h1:x<y
 ·have e:Lx x y = -1:=by simp[Lx,h1]
  rw[e];clear e;go_enter func192,ntmps192;go_wp2_with fail;refine (z _).mono ?_;rintro e w' ⟨rfl,rfl⟩;go_wp2_with fail;refine (O _).mono ?_;rintro e w' ⟨rfl,rfl⟩;go_wp2;go_ret;exact⟨rfl,rfl⟩
 ·by_cases h2:y<x
  ·have e:Lx x y=1:=(by simp[Lx,h1,h2]);rw[e];clear e;go_enter func192,ntmps192;go_wp2_with fail;refine (z _).mono ?_;rintro e w' ⟨rfl,rfl⟩;go_wp2_with fail;refine (O _).mono ?_;rintro e w' ⟨rfl,rfl⟩;go_wp2;go_ret;exact⟨rfl,rfl⟩
  ·have e:Lx x y=0:=(by simp[Lx,h1,h2]);rw[e];clear e;go_enter func192,ntmps192;go_wp2_with fail;refine (z _).mono ?_;rintro e w' ⟨rfl,rfl⟩;go_wp2_with fail;refine (O _).mono ?_;rintro e w' ⟨rfl,rfl⟩;go_wp2;go_ret;exact⟨rfl,rfl⟩
def orI(x y:Int):Int:=if x=0 then y else x
theorem Zmw(x y:Int)(b c:Nat)(w:World)(h1:w.cell? ⟨b,0,none⟩=some (E J x))(h2:w.cell? ⟨b,1,none⟩=some (E J y)) :
  Calls aB 191 #[F (some ⟨b,0,none⟩) 2 c] w λe w'=>e = dX (E J (orI x y))/\w=w':=by
 by_cases z:x=0
 ·subst z;by_cases O:y=0
  ·subst O;have e:orI 0 0=0:=rfl;rw[e];clear e;go_enter func191,ntmps191;go_wp2;refine aQ 3 ?_;rw[aL];go_wp2;rw[aL];go_wp2;rw[aL];go_wp2;go_ret;exact⟨rfl,rfl⟩
  ·have e:orI 0 y=y:=rfl;rw[e];have gy:(y != 0)=true:=(by simp[O]);clear e O;go_enter func191,ntmps191;go_wp2;refine aQ 2 ?_;rw[aL];go_wp2;rw[aL];go_wp2;go_ret;exact⟨rfl,rfl⟩
 ·have e:orI x y=x:=by simp[orI,z]
  rw[e];have gx:(x != 0)=true:=by simp[z]
  clear e z;go_enter func191,ntmps191;go_wp2;refine aQ 1 ?_;rw[aL];go_wp2;go_ret;exact⟨rfl,rfl⟩
theorem Zph(p q:PtD):orI (Lx p.1 q.1) (Lx p.2 q.2)=Lw p q:=by
 obtain⟨a,b⟩:=p;obtain⟨c,d⟩:=q;unfold orI Lx Lw lt;simp only[Bool.or_eq_true,bL,decide_eq_true_eq,Prod.mk.injEq]
 repeat' split
 all_goals omega
theorem Yo(w:World)(x y)(t:bO):(w.alloc (dW #[x,y] t)).cell? ⟨w.heap.size,0,none⟩=some x/\(w.alloc (dW #[x,y] t)).cell? ⟨w.heap.size,1,none⟩=some y:=
 ⟨by rw[cH _ _ _ _ rfl];rfl,by rw[cH _ _ _ _ rfl];rfl⟩
theorem Zh(w:World):ZD w w.drew:=⟨rfl,rfl,rfl,aE _,λ_ _=>rfl⟩
theorem Pq(p q:PtD)(aj:Int)(w:World)(hz:Lw p q=aj) :
  ZH 165 #[.agg #[E J p.1,E J p.2],.agg #[E J q.1,E J q.2]] w (E J aj):=by
 obtain⟨a,b⟩:=p;obtain⟨c,d⟩:=q;have e:=Zph (a,b) (c,d);rw[hz] at e;simp only at e ⊢;have ac:=Zb e;obtain⟨X,z⟩:=ZG ((w.alloc (dW #[E J a,E J b] 99)).alloc (dW #[E J c,E J d] 99));have HB:Hid (ZD w X):=by rw[z];exact (Ze (Zg w (dW #[E J a,E J b] 99)) (Zg _ (dW #[E J c,E J d] 99)))
 have x0:X.cell? ⟨w.heap.size,0,none⟩=some (E J a):=by rw[z];exact Zc (Zg _ _) (Yo w _ _ _).1
 have x1:X.cell? ⟨w.heap.size,1,none⟩=some (E J b):=by rw[z];exact Zc (Zg _ _) (Yo w _ _ _).2
 have x2:X.cell? ⟨w.heap.size+1,0,none⟩=some (E J c):=by rw[z];have:=(Yo (w.alloc (dW #[E J a,E J b] 99)) (E J c) (E J d) 99).1;simp at this ⊢
 have x3:X.cell? ⟨w.heap.size+1,1,none⟩=some (E J d):=by rw[z];have:=(Yo (w.alloc (dW #[E J a,E J b] 99)) (E J c) (E J d) 99).2;simp at this ⊢
 clear hz e;go_enter func165,ntmps165;go_wp2_with fail;rw[<-z];clear z
 go_region_held3 (λw'=>ZD X w'/\w'.cell? ⟨w.heap.size,0,none⟩=some (E J a)/\w'.cell? ⟨w.heap.size,1,none⟩=some (E J b)/\w'.cell? ⟨w.heap.size+1,0,none⟩=some (E J c)/\w'.cell? ⟨w.heap.size+1,1,none⟩=some (E J d))
  (first
  | exact⟨Zh _,x0,x1,x2,x3⟩
  | (go_split_ands;exact⟨by assumption,by assumption,by assumption,by assumption,by assumption⟩)
  | (go_split_ands;exact⟨Ze (by assumption) (Zg _ _),Zc (Zg _ _) (by assumption),Zc (Zg _ _) (by assumption),Zc (Zg _ _) (by assumption),Zc (Zg _ _) (by assumption)⟩))
  (first
  | (go_at_call 192;refine (Fk _ _ _).mono ?_;rintro e w' ⟨rfl,rfl⟩)
  | (go_at_call 191;refine (Zmw (Lx a c) (Lx b d) _ 2 _ ?_ ?_).mono ?_;exact (Yo _ _ _ _).1;exact (Yo _ _ _ _).2;rintro e w' ⟨rfl,rfl⟩))
 rename_i O;have HH:=Zb (Ze HB O.1);clear O;go_wp2;go_ret;exact⟨by rw[<-Za ac];rfl,Za HH⟩
theorem Qa(h:Int)(b:Bool)(w)(z:okH h=b) :
  Calls aB 167 #[E J h] w λe w'=>e = dX (eA b)/\w=w':=by
 have C:=Zb (Xc h 1 1000 b w (by rw[<-z];rfl));clear z;go_enter func167,ntmps167;go_wp2_with fail;refine C.mono ?_;rintro e w' ⟨rfl,rfl⟩;go_wp2;go_ret;exact⟨rfl,rfl⟩
theorem Zdu(a len cap l)(x:Int)(w:World)(z:chk l=x)(h:OpsAt w a len l) :
  ZH 185 #[F a len cap] w (E J x):=by
 subst z;exact Qj a len cap l w h
theorem Cz(x:Zf)(a)(n c:Nat)(bc:Int)(w:World)(hO:OpsAt w a n (ck x))(hz:ck1 x=bc) :
  ZH 164 #[cnV x a n c] w (E J bc):=by
 obtain⟨x1,x2,x3,k,x4,x5⟩:=x;unfold cnV;simp only[cv,ck,ch,cr] at hO ⊢;obtain⟨X,O⟩:=ZG (w.alloc (dW #[E J x1,E J x2,E J x3,F a n c,E J x4,eA x5] 103));obtain⟨n0,n1,n2,n3,n4,n5⟩:=T8 w (E J x1) (E J x2) (E J x3) (F a n c) (E J x4) (eA x5) 103;rw[<-O] at n0 n1 n2 n3 n4 n5;have hb:ZD w X:=by rw[O];exact Zg _ _
 have HB:=Zb hb;have HO:=Zb (hO.later hb);have N2:=Zb n2;have N3:=Zb n3;have N4:=Zb n4;clear hO hb n5;cases hp:Zoi (x1,x2) with
 | false=>
  have e:bc=3:=by rw[<-hz];unfold ck1;rw[if_pos (by unfold okC pt;rw[hp];rfl)]
  subst e;have C1:=Zb (Rq x1 x2 false X hp);clear hp hz;go_enter func164,ntmps164;go_wp2_with fail;rw[<-O];clear O;go_wp2_with fail;refine C1.mono ?_;rintro e w2 ⟨rfl,z⟩;have ab:=Zb (Ze HB z);clear z;go_wp2;go_ret;exact⟨rfl,Za ab⟩
 | true=>
  have C1:=Zb (Rq x1 x2 true X hp);cases hv:okV x3 with
  | false=>
   have e:bc=3:=(by rw[<-hz];unfold ck1;rw[if_pos (by unfold okC pt;rw[hp];simp only[cv];rw[hv];rfl)]);subst e;have C2:=Zb (λw=>Xc x3 1 1000000000 false w (by rw[<-hv];rfl));clear hp hz hv;go_enter func164,ntmps164;go_wp2_with fail;rw[<-O];clear O;go_wp2_with fail;refine C1.mono ?_;rintro e w2 ⟨rfl,z⟩;have m2:=Zc z N2;have aq:w.heap.size<w2.heap.size:=aC _ _ m2;have ab:=Zb (Ze HB z);clear z;go_wp2_with fail;refine (C2 _).mono ?_;rintro e w3 ⟨rfl,rfl⟩;go_wp2;go_ret;exact⟨rfl,Za ab⟩
  | true=>
   have C2:=Zb (λw=>Xc x3 1 1000000000 true w (by rw[<-hv];rfl));cases hh:okH x4 with
   | false=>
    have e:bc=3:=(by rw[<-hz];unfold ck1;rw[if_pos (by unfold okC pt;rw[hp];simp only[cv,ch];rw[hv,hh];rfl)]);subst e;have C3:=Zb (λw=>Qa x4 false w hh);clear hp hz hv hh;go_enter func164,ntmps164;go_wp2_with fail;rw[<-O];clear O;go_wp2_with fail;refine C1.mono ?_;rintro e w2 ⟨rfl,z⟩;have m2:=Zc z N2;have m4:=Zc z N4;have aq:w.heap.size<w2.heap.size:=aC _ _ m2;have ab:=Zb (Ze HB z);clear z;go_wp2_with fail;refine (C2 _).mono ?_;rintro e w3 ⟨rfl,rfl⟩;go_wp2_with fail;refine (C3 _).mono ?_;rintro e w3 ⟨rfl,rfl⟩;go_wp2;go_ret;exact⟨rfl,Za ab⟩
   | true=>
    have e:chk k=bc:=(by rw[<-hz];unfold ck1;rw[if_neg (by unfold okC pt;rw[hp];simp only[cv,ch];rw[hv,hh];decide)];rfl);have C3:=Zb (λw=>Qa x4 true w hh);have ax:=Zb e;clear hp hz hv hh e;go_enter func164,ntmps164;go_wp2_with fail;rw[<-O];clear O;go_wp2_with fail;refine C1.mono ?_;rintro e w2 ⟨rfl,z⟩;have m2:=Zc z N2;have m3:=Zc z N3;have m4:=Zc z N4;have aq:w.heap.size<w2.heap.size:=aC _ _ m2;have C4:=Zb (Zdu a n c k bc w2 ax (HO.later z));have ab:=Zb (Ze HB z);clear z;go_wp2_with fail;refine (C2 _).mono ?_;rintro e w3 ⟨rfl,rfl⟩;go_wp2_with fail;refine (C3 _).mono ?_;rintro e w3 ⟨rfl,rfl⟩;go_wp2_with fail;refine C4.mono ?_;rintro e w4 ⟨rfl,ap⟩;have ay:=Zb (Ze ab ap);clear ap;go_wp2;go_ret;exact⟨rfl,Za ay⟩
theorem H8(w:World)(n:Nat):ZD w (w.drewN n):=⟨rfl,rfl,rfl,aE _,λ_ _=>rfl⟩
theorem CoinAt.val{w:World}{b o}{x:Zf}(h:CoinAt w b o x):∃ a n c,w.cell? ⟨b,o,none⟩=some (E J x.1)/\w.cell? ⟨b,o+1,none⟩=some (E J x.2.1)/\w.cell? ⟨b,o+2,none⟩=some (E J (cv x)) /\
  w.cell? ⟨b,o+3,none⟩=some (F a n c)/\w.cell? ⟨b,o+4,none⟩=some (E J (ch x))/\w.cell? ⟨b,o+5,none⟩=some (eA (cr x))/\OpsAt w a n (ck x)/\SlOk a n c:=by
 obtain⟨h1,h2,h3,⟨a,n,c,h4,h5,h6⟩,h7,h8⟩:=h;exact⟨a,n,c,h1,h2,h3,h4,h7,h8,h5,h6⟩
theorem Eh(b off n c:Nat)(L:List Zf)(w:World)(hn:n<=720)(hz:L.length=n)(hc:∀ i (h:i<L.length),CoinAt w b (off+i*6) L[i]) :
  ZH 137 #[F (some ⟨b,off,none⟩) n c] w (E J (Yv none 0 L)):=by
 have HC:=Zb hc;have HZ:=Zb hz;clear hc hz;go_enter func137,ntmps137;go_wp2
 go_loopw [3,12] (λsv i wr=>∃ (k:Nat) (S:Int),k<=n/\i = E J k/\sv = E J S/\0<=S/\S<=1000000000/\Hid (Yv none 0 L=Yv (Vs L k) S (L.drop k))/\ZD w wr) (λ_ i _=>n - (intOf i).toNat)
 case atStart=>exact⟨0,0,aP _,rfl,rfl,by decide,by decide,rfl,Below.refl _ _⟩
 case round=>
  obtain⟨k,S,hk,rfl,rfl,ct,cu,A,hb⟩:=hrel;have HB:=Zb hb;by_cases cm:k<n
  ·have au:k<L.length:=(by rw[Za HZ];exact cm);have ar:=CoinAt.kept _ _ _ _ _ hb (HC k au);have ST:=Zb (Zgk L k au (Vs L k) S)
   have HL:Hid (∀ j,k=j+1->∃ q,Vs L k=some (pt q)/\CoinAt wr b (off+j*6) q):=λj hj=>by
    have bb:j<L.length:=(by omega);exact⟨L[j],by rw[hj];exact Ri L j bb,CoinAt.kept _ _ _ _ _ hb (HC j bb)⟩
   have HN:Hid (k+1<=L.length->Vs L (k+1)=some (pt L[k])):=λ_=>Ri L k au;obtain⟨x,hx⟩:=ZF (L[k]);rw[hx] at ar ST HN;have A2:Hid (Yv none 0 L=if ck1 x≠0 then ck1 x else if Tw (Vs L k) x=false then 6 else if 1000000000<S+cv x then 12 else Yv (some (pt x)) (S+cv x) (L.drop (k+1))):=(by show _=_;rw[Za A,Za ST]);have PN:Hid (Vs L (k+1)=some (pt x)):=HN au;obtain⟨a,m,d,g1,g2,g3,g4,g5,g6,hO,_⟩:=ar.val;obtain⟨X,hX⟩:=ZG (wr.alloc (dW #[E J x.1,E J x.2.1,E J (cv x),F a m d,E J (ch x),eA (cr x)] 103));obtain⟨n0,n1,n2,n3,n4,n5⟩:=T8 wr (E J x.1) (E J x.2.1) (E J (cv x)) (F a m d) (E J (ch x)) (eA (cr x)) 103;rw[<-hX] at n0 n1 n2 n3 n4 n5;have aq:ZD wr X:=(by rw[hX];exact Zg _ _);have dd:wr.heap.size<X.heap.size:=aC _ _ n0;have ao:=Zb aq;have HO:=Zb (hO.later aq);have N0:=Zb n0;have N1:=Zb n1;have N2:=Zb n2;obtain⟨dh,hz⟩:=ZF (ck1 x);have C1:=Zb (Cz x a m d dh X HO hz);rw[hz] at A2;have HX:=Zb hX;by_cases av:dh=0
   ·subst av;have K:=Wp hz;have cn:1<=cv x:=K.2.2.2.2.1;have co:cv x<=1000000000:=K.2.2.2.2.2.1
    have A3:Hid (Yv none 0 L=if Tw (Vs L k) x=false then 6 else if 1000000000<S+cv x then 12 else Yv (some (pt x)) (S+cv x) (L.drop (k+1))):=by
     have h:=Za A2;rw[if_neg (by decide)] at h;exact h
    clear K A hx ar hO hb hz n3 n4 n5 hX;obtain⟨v,hv⟩:=ZF (cv x);rw[hv] at cn co A3 n2 N2 g3 HX;unfold cnV at C1;rw[hv] at C1;by_cases ag:k=0
    ·have A4:Hid (Yv none 0 L=if 1000000000<S+v then 12 else Yv (some (pt x)) (S+v) (L.drop (k+1))):=by
      have h:=Za A3;rw[ag] at h;rw[if_neg (by show ¬true=false;decide)] at h;rw[ag];exact h
     have hg:decide ((0:Int)<(k:Int))=false:=(by rw[ag];decide);have cx:decide (0<k)=false:=(by rw[ag];decide);clear ag;go_wp2_with fail;rw[<-Za HX];go_wp2_with fail;refine C1.mono ?_;rintro e w2 ⟨rfl,z⟩;have m2:=Zc z N2;have cb:wr.heap.size<w2.heap.size:=aC _ _ m2;have aa:=Zb (Ze (Ze HB ao) z);clear z;go_wp2_with fail
     go_quiet (fail)
     by_cases hf:1000000000<S+v
     ·have R:Hid (Yv none 0 L=12):=(by show _=_;rw[Za A4,if_pos hf]);go_wp2;go_ret;exact⟨by rw[Za R];rfl,Ze aa (H8 _ _)⟩
     ·have R:Hid (Yv none 0 L=Yv (Vs L (k+1)) (S+v) (L.drop (k+1))):=(by show _=_;rw[Za A4,if_neg hf,Za PN]);go_wp2;go_roundw
      case rel=>exact⟨k+1,S+v,by omega,by go_num,rfl,by omega,by omega,R,Ze aa (H8 _ _)⟩
      case measure=>simp[intOf];omega
    ·obtain⟨j,rfl⟩:∃ j,k=j+1:=⟨k - 1,by omega⟩;obtain⟨q,hq,ca⟩:=HL j rfl;obtain⟨_,_,_,q1,q2,_,_,_,_,_,_⟩:=ca.val
     have A5:Hid (Yv none 0 L=if lt (pt q) (pt x)=false then 6 else if 1000000000<S+v then 12 else Yv (some (pt x)) (S+v) (L.drop (j+1+1))):=by
      have h:=Za A3;rw[hq] at h;exact h
     have Q1:=Zb (Zc aq q1);have Q2:=Zb (Zc aq q2);have G:Hid (decide ((0:Int)<((j+1:Nat):Int))=true):=(by show _=_;simp);have cz:(j:Int)<(n:Int):=(by omega);have df:IntKind.i64.wrap (j:Int)=(j:Int):=(by rw[bF];omega);have dg:IntKind.i64.wrap ((j:Int)+1 - 1)=(j:Int):=(by rw[bF];omega);have bb:j<n:=(by omega);have cy:(0:Int)<=(j:Int):=(by omega);have de:IntKind.i64.wrap (((j+1:Nat):Int) - 1)=(j:Int):=(by rw[bF];omega);clear ag hq ca q1 q2;cases hl:lt (pt q) (pt x) with
     | false=>
      have R:Hid (Yv none 0 L=6):=(by show _=_;rw[Za A5,if_pos hl]);obtain⟨y,hy⟩:=ZF (Lw (pt q) (pt x))
      have cp:0<=y:=by
       rw[<-hy];refine Int.not_lt.1 λh=>?_;rw[Cq,hl] at h;exact dE h
      have CC:=Zb (λw=>Pq (pt q) (pt x) y w hy);unfold pt at CC;clear hl hy;go_wp2_with fail;rw[<-Za HX];go_wp2_with fail;refine C1.mono ?_;rintro e w2 ⟨rfl,z⟩;have m0:=Zc z N0;have m1:=Zc z N1;have p0:=Zc z Q1;have p1:=Zc z Q2;have cb:wr.heap.size<w2.heap.size:=aC _ _ m0;have aa:=Zb (Ze (Ze HB ao) z);clear z n0 n1 n2 g1 g2 g3 g4 g5 g6;have hG:=Za G;go_wp2_with fail
      go_region_held3 (λw'=>ZD w2 w'/\w'.cell? ⟨wr.heap.size,0,none⟩=some (E J x.1)/\w'.cell? ⟨wr.heap.size,1,none⟩=some (E J x.2.1)/\w'.cell? ⟨b,off+j*6,none⟩=some (E J q.1)/\w'.cell? ⟨b,off+j*6+1,none⟩=some (E J q.2.1))
       (first
       | exact⟨Zh _,m0,m1,p0,p1⟩
       | (go_split_ands;refine⟨Ze (by assumption) O,Zc O (by assumption),Zc O (by assumption),Zc O (by assumption),Zc O (by assumption)⟩))
       (first|(go_at_call 165;refine (CC _).mono ?_;rintro e w' ⟨rfl,O⟩))
      rename_i hH;have HH:=Zb (Ze aa hH.1);clear hH;go_wp2;go_ret;exact⟨by rw[Za R];rfl,Za HH⟩
     | true=>
      have A4:Hid (Yv none 0 L=if 1000000000<S+v then 12 else Yv (some (pt x)) (S+v) (L.drop (j+1+1))):=by
       have h:=Za A5;rw[if_neg (by rw[hl];decide)] at h;exact h
      obtain⟨y,hy⟩:=ZF (Lw (pt q) (pt x));have cp:y<0:=(by rw[<-hy,Cq];exact hl);have CC:=Zb (λw=>Pq (pt q) (pt x) y w hy);unfold pt at CC;clear hl hy;go_wp2_with fail;rw[<-Za HX];go_wp2_with fail;refine C1.mono ?_;rintro e w2 ⟨rfl,z⟩;have m0:=Zc z N0;have m1:=Zc z N1;have M2:=Zb (Zc z N2);have p0:=Zc z Q1;have p1:=Zc z Q2;have cb:wr.heap.size<w2.heap.size:=aC _ _ m0;have aa:=Zb (Ze (Ze HB ao) z);clear z n0 n1 n2 g1 g2 g3 g4 g5 g6;have hG:=Za G;go_wp2_with fail
      go_region_held3 (λw'=>ZD w2 w'/\w'.cell? ⟨wr.heap.size,0,none⟩=some (E J x.1)/\w'.cell? ⟨wr.heap.size,1,none⟩=some (E J x.2.1)/\w'.cell? ⟨b,off+j*6,none⟩=some (E J q.1)/\w'.cell? ⟨b,off+j*6+1,none⟩=some (E J q.2.1))
       (first
       | exact⟨Zh _,m0,m1,p0,p1⟩
       | (go_split_ands;refine⟨Ze (by assumption) O,Zc O (by assumption),Zc O (by assumption),Zc O (by assumption),Zc O (by assumption)⟩))
       (first|(go_at_call 165;refine (CC _).mono ?_;rintro e w' ⟨rfl,O⟩))
      rename_i hH;have HH:=Zb (Ze aa hH.1);have m2:=Zc hH.1 M2;have dc:=aC _ _ m2;clear hH;by_cases hf:1000000000<S+v
      ·have R:Hid (Yv none 0 L=12):=(by show _=_;rw[Za A4,if_pos hf]);go_wp2;go_ret;exact⟨by rw[Za R];rfl,Za HH⟩
      ·have R:Hid (Yv none 0 L=Yv (Vs L (j+1+1)) (S+v) (L.drop (j+1+1))):=(by show _=_;rw[Za A4,if_neg hf,Za PN]);go_wp2;go_roundw
       case rel=>exact⟨j+1+1,S+v,by omega,by go_num,rfl,by omega,by omega,R,Za HH⟩
       case measure=>simp[intOf];omega
   ·have R:Hid (Yv none 0 L=dh):=(by show _=_;rw[Za A2,if_pos av]);have gz:(dh != 0)=true:=(by simp[av]);unfold cnV at C1;clear A hx ar hO hb hz n3 n4 n5 hX av;go_wp2_with fail;rw[<-Za HX];go_wp2_with fail;refine C1.mono ?_;rintro e w2 ⟨rfl,z⟩;have aa:=Zb (Ze (Ze HB ao) z);clear z;go_wp2;go_ret;exact⟨by rw[Za R];rfl,Za aa⟩
  ·have R:Hid (Yv none 0 L=0):=(by show _=_;rw[Za A,Zch L k (by rw[Za HZ];omega)]);clear A hb;go_wp2;go_ret;exact⟨by rw[Za R];rfl,Za HB⟩
theorem Ej(a)(n c:Nat)(w)(h:720<n) :
  Calls aB 137 #[F a n c] w λe w'=>e = dX (E J 2)/\w=w':=by
 go_enter func137,ntmps137;go_wp2;go_ret;exact⟨rfl,rfl⟩
theorem Ei(a c)(w) :
  Calls aB 137 #[F a 0 c] w λe w'=>e = dX (E J 0)/\w=w':=by
 go_enter func137,ntmps137;go_wp2;refine aQ 1 ?_;rw[aL];go_wp2;go_ret;exact⟨rfl,rfl⟩
theorem Rc(a n c L)(ad:Int)(w:World)(h:CoinsAt w a n L)(hz:Zo L=ad) :
  ZH 137 #[F a n c] w (E J ad):=by
 subst hz;obtain⟨z,hc⟩:=h;unfold Zo;rw[z];by_cases h1:720<n
 ·rw[if_pos h1];exact (Ej a n c w h1).mono λe w' ⟨x,y⟩=>⟨x,y ▸ Below.refl _ _⟩
 ·rw[if_neg h1];by_cases h2:n=0
  ·subst h2;have e:L=[]:=aJ.1 z;subst e;exact (Ei a c w).mono λe w' ⟨x,y⟩=>⟨x,y ▸ Below.refl _ _⟩
  ·obtain⟨b,off,rfl,_,ab⟩:=hc (by omega);exact Eh b off n c L w (by omega) z ab
def laid(L:List Value)(off:Nat)(cs:List Value):List Value:=L.take off++cs++L.drop (off+cs.length)
theorem Qv(L:List Value)(off:Nat)(cs:List Value)(h:off+cs.length<=L.length):(laid L off cs).length=L.length:=by simp[laid];omega
variable {P : Program}
theorem Wq(w:World)(dT sT ty elem:bO)(g o aa af:Nat)(a:Addr)(z ae k:Nat)(O:Array Value)(t:bO)(cs:List Value)
  (hu:P.underlying dT=some (.slice elem)) (hs:(P.info? elem).map (·.size)=some k)
  (hg:w.heap[g]? = some (dW O t (0,0))) (hn:cs.length=Nat.min z aa*k)
  (ak:∀ j v,cs[j]? = some v->w.cell? (a.add j)=some v) (ag:o+cs.length<=O.size) (h1:∀ v∈cs,v.oneCell'=true) :
  (Builtin.copy_ #[dT,sT] ty #[F (some ⟨g,o,none⟩) aa af,F (some a) z ae]).run P w =
   .ok (goInt (Nat.min z aa)) (w.setRow g (laid O.toList o cs).toArray):=by
 have ad:=run_storeCells_at P g o t cs 0 O w hg (by simpa using ag) h1;cases hq:P.info? elem with
 | none=>simp[hq] at hs
 | some i=>
  have hi:i.size=k:=by simpa[hq] using hs
  have hl:=run_firstCells_some (P:=P) w k (Nat.min z aa) a z ae cs hn ak;simp only[Nat.add_zero] at ad;simp[Builtin.copy_,run_underlying hu,Builtin.lenOf,sizeOf,typeInfo,hq,hi,hl,ad,laid]
theorem Ms(w:World)(t e ty:bO)(aj:Value)(ht:P.underlying t=some (.slice e))(hv:∀ w,(zeroValue e).run P w = .ok aj w)(g o n c k:Nat)(z:Array Value)(te:bO)(cs:List Value)(hn:0<n)
  (ac:(Builtin.zeroCells aj.cells n).toList=cs) (hg:w.heap[g]? = some (dW z te (0,0))) (hk:cs.length=n*k) (ad:o+n*k<=z.size) (h1:∀ v∈cs,v.oneCell'=true) :
  (Builtin.clear_ #[t] ty #[F (some ⟨g,o,none⟩) n c]).run P w = .ok (dY #[]) (w.setRow g (laid z.toList o cs).toArray):=by
 have O:=run_storeCells_at P g o te cs 0 z w hg (by simpa[hk] using ad) h1;simp only[Nat.add_zero] at O;obtain⟨m,rfl⟩:∃ m,n=m+1:=⟨n - 1,by omega⟩;simp[Builtin.clear_,run_underlying ht,hv,ac,O,laid]
theorem Pc{ops}{o:Oper}{a:Act}{w:World}{K:Act->World->Prop}{Q:Exit->Act->World->Prop}{ac:Prop}
  (hg:o.guard=none) (s x:Operand) (t:bO) (ak:o.op=Op.call { callee:=Callee.builtin Builtin.append,args:=#[s,x],argTypes:=#[t,t] })
  (e:bO) (i:TypeInfo) (size:Nat) (h1:P.underlying t=some (.slice e)) (h2:P.info? e=some i) (h4:i.size=size)
  (b n cap:Nat) (hs:a.eval s = F (some ⟨b,0,none⟩) n cap)
  (O:Addr) (m c:Nat) (news:List Value) (hx:a.eval x = F (some O) m c) (hn:news.length=m*size) (hc:∀ j u,news[j]? = some u->w.cell? (O.add j)=some u) (ad:∀ u∈news,u.oneCell'=true)
  (al:n+m<=cap) (z:Array Value) (te:bO) (am:w.heap[b]? = some (dW z te (0,0))) (ah:n*size+news.length<=z.size)
  (hK:K (a.put o.dst (F (some ⟨b,0,none⟩) (n+m) cap)) (w.setRow b (laid z.toList (n*size) news).toArray)) :
  if Region.wanted o (yielded ops a.tmps)=true then Oper.wp P o a w K Q else ac:=by
 have hw:Region.wanted o (yielded ops a.tmps)=true:=by simp[Region.wanted,hg]
 rw[if_pos hw];subst h4;have ag:=run_firstCells_some (P:=P) w i.size m O m c news hn hc;have aa:=run_storeCells_at P b (n*i.size) te news 0 z w am (by simpa using ah) ad;simp only[Nat.add_zero] at aa
 have an:(Builtin.append_ #[t,t] o.type #[F (some ⟨b,0,none⟩) n cap,F (some O) m c]).run P w = .ok (F (some ⟨b,0,none⟩) (n+m) cap) (w.setRow b (laid z.toList (n*i.size) news).toArray):=by
  simp[Builtin.append_,run_underlying h1,sizeOf,typeInfo,h2,Builtin.lenOf,al,ag,Addr.add_lit,aa,laid]
 unfold Oper.wp;simp[execOp,ak,resolve,invoke,builtin,hs,hx,an,Result.andThen];exact hK
theorem U7(w){ops rest}{o:Oper}{a:Act}{Q:Exit->Act->World->Prop}(ac:o.guard=none)(d s:Operand)(t z:bO)
  (ho:o.op = .call { callee:=.builtin .append,args:=#[d,s],argTypes:=#[t,z] }) (v u) (hd:a.eval d=v) (hs:a.eval s=u) {O w'}
  (hr:(Builtin.append_ #[t,z] o.type #[v,u]).run P w = .ok O w') (h:wpList P ops Q rest (a.put o.dst O) w'):wpList P ops Q (o :: rest) a w:=by
 refine wpList_plain ac λK hK=>?_;unfold Oper.wp;simp[execOp,ho,resolve,invoke,builtin,hd,hs,hr,Result.andThen];exact hK _ _ h
abbrev CV:=Zf×Option Addr×Nat×Nat
def Zk:List CV->List Value
 | []=>[]
 | x :: r=>E J x.1.1 :: E J x.1.2.1 :: E J (cv x.1) :: .slice x.2.1 x.2.2.1 x.2.2.2 :: E J (ch x.1) :: eA (cr x.1) :: Zk r
theorem Z9:∀ l:List CV,(Zk l).length=l.length*6
 | []=>rfl
 | _ :: r=>by simp only[Zk,List.length_cons,Z9 r];omega
theorem Z0:∀ l m:List CV,Zk (l++m)=Zk l++Zk m
 | [],_=>rfl
 | _ :: r,m=>by simp only[List.cons_append,Zk,Z0 r m]
theorem Qy:∀ (l:List CV) (i:Nat) (h:i<l.length),(Zk l)[i*6]? = some (E J (l[i]).1.1)/\(Zk l)[i*6+1]? = some (E J (l[i]).1.2.1)/\(Zk l)[i*6+2]? = some (E J (cv (l[i]).1))/\(Zk l)[i*6+3]? = some (.slice (l[i]).2.1 (l[i]).2.2.1 (l[i]).2.2.2)/\(Zk l)[i*6+4]? = some (E J (ch (l[i]).1))/\(Zk l)[i*6+5]? = some (eA (cr (l[i]).1))
 | [],_,h=>absurd h (by simp)
 | x :: r,0,_=>⟨rfl,rfl,rfl,rfl,rfl,rfl⟩
 | x :: r,i+1,h=>by
  have:=Qy r i (by simpa using h);have e:(i+1)*6=i*6+6:=by omega
  rw[e];exact this
theorem Xs:∀ (l:List CV) (u:Value),u∈Zk l->u.oneCell'=true
 | [],u,h=>by cases h
 | x :: r,u,h=>by
  simp only[Zk,bU] at h
  rcases h with rfl|rfl|rfl|rfl|rfl|rfl|h
  ·rfl
  ·rfl
  ·rfl
  ·rfl
  ·rfl
  ·rfl
  ·exact Xs r u h
theorem Uk:∀ (l:List CV) (i:Nat),(Zk l).take (i*6)=Zk (l.take i)
 | [],i=>by simp[Zk]
 | x :: r,0=>by simp[Zk]
 | x :: r,i+1=>by
  rw[show (i+1)*6=i*6+6 by omega,dK];simp only[Zk,dK,Uk r i]
theorem Ul:∀ (l:List CV) (i:Nat),(Zk l).drop (i*6)=Zk (l.drop i)
 | [],i=>by simp[Zk]
 | x :: r,0=>by simp[Zk]
 | x :: r,i+1=>by
  rw[show (i+1)*6=i*6+6 by omega,List.drop_succ_cons];simp only[Zk,List.drop_succ_cons,Ul r i]
def LkAt(w:World)(x:CV):Prop:=OpsAt w x.2.1 x.2.2.1 (ck x.1)/\SlOk x.2.1 x.2.2.1 x.2.2.2
theorem LkAt.later{w w':World}{x:CV}(h:LkAt w x)(z:ZD w w'):LkAt w' x:=⟨h.1.later z,h.2⟩
theorem Zx{w:World}{base:Nat}{v}{K:List CV}(h:w.ownsRow base 103 6 v K.length (Zk K))(z:∀ x∈K,LkAt w x):∃ a c,v = F a K.length c/\CoinsAt w a K.length (K.map (·.1))/\SlOk a K.length c:=by
 rcases h.2 with ⟨rfl,O⟩|⟨g,cap,ag,rfl,hg,hh,h1,h2,h3,h4⟩
 ·rw[O];have e:K=[]:=aJ.1 O;subst e;exact⟨none,0,rfl,RowsAt.nil _ _,aE _,aP _,λ_=>⟨rfl,rfl⟩⟩
 ·refine⟨_,cap,rfl,⟨by simp,λ_=>⟨g,0,rfl,lt_of_block hh,λi hi=>?_⟩⟩,h1,h2,λe=>by cases e⟩;rw[List.length_map] at hi;obtain⟨f0,f1,f2,f3,f4,f5⟩:=Qy K i hi;rw[List.getElem_map];refine⟨?_,?_,?_,⟨_,_,_,?_,(z _ (bK hi)).1,(z _ (bK hi)).2⟩,?_,?_⟩
  all_goals rw[Nat.zero_add,World.ownsRow.cellAt h _ (by omega)]
  ·exact f0
  ·exact f1
  ·exact f2
  ·exact f3
  ·exact f4
  ·exact f5
theorem Qx{w:World}{b off:Nat}:∀ {L:List Zf},(∀ i (h:i<L.length),CoinAt w b (off+i*6) L[i])->∃ K:List CV,K.map (·.1)=L/\(∀ x∈K,LkAt w x)/\∀ j u,(Zk K)[j]? = some u->w.cell? ⟨b,off+j,none⟩=some u:=by
 intro L h
 have h2:∀ k,k<=L.length->∃ K:List CV,K.map (·.1)=L.take k/\(∀ x∈K,LkAt w x)/\∀ j u,(Zk K)[j]? = some u->w.cell? ⟨b,off+j,none⟩=some u:=by
  intro k
  induction k with
  | zero=>intro _;exact⟨[],by simp,λx O=>(by cases O),λj u z=>by simp[Zk] at z⟩
  | succ k ih=>
   intro hk;obtain⟨K,h1,h2,h3⟩:=ih (by omega);obtain⟨a,n,c,g1,g2,g3,g4,g5,g6,h5,h6⟩:=(h k (by omega)).val;have aa:K.length=k:=(by have:=congrArg List.length h1;simpa[Nat.min_eq_left (show k<=L.length by omega)] using this);refine⟨K++[(L[k],a,n,c)],by rw[bW,h1,aM (by omega)];rfl,λx O=>?_,λj u z=>?_⟩
   ·rcases cI.1 O with O|O
    ·exact h2 x O
    ·rw[List.mem_singleton.1 O];exact⟨h5,h6⟩
   ·rw[Z0] at z
    rcases Nat.lt_or_ge j (k*6) with q|q
    ·rw[List.getElem?_append_left (by rw[Z9,aa];exact q)] at z;exact h3 j u z
    ·rw[List.getElem?_append_right (by rw[Z9,aa];exact q),Z9,aa] at z;obtain⟨r,rfl⟩:∃ r,j=k*6+r:=⟨j - k*6,by omega⟩;rw[Nat.add_sub_cancel_left] at z;rw[show off+(k*6+r)=off+k*6+r by omega]
     match r,z with
     | 0,z=>simp only[Zk,List.getElem?_cons_zero,bE] at z;subst z;exact g1
     | 1,z=>simp only[Zk,List.getElem?_cons_zero,List.getElem?_cons_succ,bE] at z;subst z;exact g2
     | 2,z=>simp only[Zk,List.getElem?_cons_zero,List.getElem?_cons_succ,bE] at z;subst z;exact g3
     | 3,z=>simp only[Zk,List.getElem?_cons_zero,List.getElem?_cons_succ,bE] at z;subst z;exact g4
     | 4,z=>simp only[Zk,List.getElem?_cons_zero,List.getElem?_cons_succ,bE] at z;subst z;exact g5
     | 5,z=>simp only[Zk,List.getElem?_cons_zero,List.getElem?_cons_succ,bE] at z;subst z;exact g6
     | r+6,z=>simp[Zk] at z
 obtain⟨K,h1,h3⟩:=h2 L.length (aE _);exact⟨K,by rw[h1,List.take_length],h3⟩
