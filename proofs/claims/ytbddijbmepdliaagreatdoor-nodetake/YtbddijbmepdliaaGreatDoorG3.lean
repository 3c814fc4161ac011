import Derived.Test.YtbddijbmepdliaaGreatDoorH
import Derived.Test.YtbddijbmepdliaaGreatDoorG2
import Derived.Deep.WholeRow
import Derived.Test.YtbddijbmepdliaaGreatDoorG1
import Derived.Lib.AppendIntMem
import Derived.Lib.ItoaLen
import Derived.Lib.SmallJoins
import Derived.Lib.AtoiAll
open Option renaming none->aD,some->dG
open Go.Proofs.Tryz
open Bool renaming and_eq_true->aX
open Go renaming TypeId->aY,heap_alloc_new->aG,lt_of_block->aA,bodyPost_ret->aL,wp_loop_rounds->bB,rounds_succ->aS,maxLen->aT,info_parts->bX
open Go.Ending renaming returned->dB
open Go.Exit renaming inBlock->bQ
open Go.IntKind renaming i64->J
open Go.Obj renaming cells->dA
open Go.Proofs.Tryz renaming prog->aB,underlying22->cU
open Go.RowKit.Below renaming heap_alloc->bJ
open Go.Value renaming slice->bW,int->aU,string->cF,int->E,slice->F,tuple->dC,pointer->dE,bool->dF
open Go.World renaming block_lt_of_cell?->aC,cell?_of_block->bU,cell?_alloc_at->bG
open Go.World.ownsRow renaming cellAt->bH
open List renaming length_map->cO,map_append->bN,getElem_mem->aQ,mem_append->bM,length_append->bL,length_take->aV,drop_eq_getElem_cons->aK,drop_of_length_le->bA,length_cons->cK,mem_cons->aW,take_succ_eq_append_getElem->aH,length_eq_zero_iff->aJ,replicate->bP,mem_singleton->cT
open Nat renaming lt_of_lt_of_le->aF,le_trans->aO,le_refl->aE,zero_le->aI,zero_add->bO
set_option maxHeartbeats 12800000
namespace Go.Proofs.YtbddijbmepdliaaGreatDoor
open Go.RowKit
theorem Zo{fn:Func}{p u:Tmp}{ty:aY}(h:fn.results=#[.cell p ty,.tmp u])(tmps:Array Value)(P:Program)(w) :
  (results fn tmps).run P w =
   ((asAddr (tmps.getD p undef)).run P w).andThen λa w₁=>((loadVar ty a).run P w₁).andThen λx w₂=>.ok (dC #[x,tmps.getD u undef]) w₂:=by
 simp only[results,h];simp[Sem.run_bind,Result.andThen]
set_option maxRecDepth 10000 in
theorem Zck(w0 w:World)(p:Nat)(v)(K:List CV)(q:PtD)(h:Pu w0 w p v K)(hs:Srt (K.map (·.1)))(hn:K.length<=4096)(hf:We q (K.map (·.1))=false) :
  ZH 202 #[dE (dG ⟨p,0,aD⟩),.agg #[E J q.1,E J q.2]] w (dC #[zeroC,dF false]):=by
 obtain⟨a,c,rfl,hC,hS⟩:=h.coins;obtain⟨n,am⟩:=ZF (K.length);obtain⟨k,hk⟩:=ZF (pos q (K.map (·.1)));have af:=h.box;rw[am] at hC af hn;obtain⟨X,hX⟩:=ZG ((w.alloc (dA #[E J q.1,E J q.2] 87)).alloc (dA #[E J 0,E J 0,E J 0,F aD 0 0,E J 0,dF false] 162));have ab:ZD w X:=by rw[hX];exact Zf (Zh _ _) (Zh _ _)
 have ah:X.heap[w.heap.size+1]? = dG (dA zeroCs.toArray 162 (0,0)):=by
  rw[hX];have:=aG (w.alloc (dA #[E J q.1,E J q.2] 87)) (dA zeroCs.toArray 162);rw[show (w.alloc (dA #[E J q.1,E J q.2] 87)).heap.size=w.heap.size+1 by simp] at this;exact this
 have x0:X.cell? ⟨w.heap.size,0,aD⟩=dG (E J q.1):=by rw[hX];exact Ze (Zh _ _) (Yo w _ _ _).1
 have x1:X.cell? ⟨w.heap.size,1,aD⟩=dG (E J q.2):=by rw[hX];exact Ze (Zh _ _) (Yo w _ _ _).2
 have xp:X.cell? ⟨p,0,aD⟩=dG (F a n c):=Ze ab (Zd (X:=[F a n c]) af 0 _ rfl);have PL:=Zb (λw' (hb:ZD X w')=>Rt a n c (K.map (·.1)) q k false w' hs (by omega) ((hC.later ab).later hb) hk hf);obtain⟨aq,ag⟩:=kh2 ab ah;clear hk hf hC hS hs af ab ah h am;go_enter func202,ntmps202;go_wp2_with fail;rw[<-hX];clear hX
 go_region_held3 (λw'=>ZD X w'/\w'.cell? ⟨w.heap.size,0,aD⟩=dG (E J q.1)/\w'.cell? ⟨w.heap.size,1,aD⟩=dG (E J q.2)/\w'.cell? ⟨p,0,aD⟩=dG (F a n c))
  (first
  | exact⟨Zj _,x0,x1,xp⟩
  | (go_split_ands;refine⟨Zf (by assumption) ac,Ze ac (by assumption),Ze ac (by assumption),Ze ac (by assumption)⟩))
  (first|(go_at_call 247;go_split_ands;refine (PL _ (by assumption)).mono ?_;rintro e w' ⟨rfl,ac⟩))
 rename_i hH;have hh:=(hH.1.block _ (aA ag)).trans ag;have HB:=Zb (Zf aq hH.1);obtain⟨c0,c1,c2,c3,c4,c5,f0,f1,f2,f3,f4,f5,-⟩:=kf6 hh;clear hh hH;go_wp2;(try simp only[bQ,Exit.then]);refine aL (v:=dC #[zeroC,dF false]) ?_ rfl ⟨rfl,?_⟩
 ·rw[Zo rfl];unfold zeroC;go_simp
 ·exact (((((HB.setCell (Nat.le_succ _) _).setCell (Nat.le_succ _) _).setCell (Nat.le_succ _) _).setCell (Nat.le_succ _) _).setCell (Nat.le_succ _) _).setCell (Nat.le_succ _) _
theorem Uf{w:World}{p:Nat}{v u}{t:aY}(h:w.heap[p]? = dG (dA #[v] t (0,0))):(w.setCell ⟨p,0,aD⟩ u).heap[p]? = dG (dA #[u] t (0,0)):=by
 rw[setCell_eq_setRow w p 0 #[v] t (0,0) u h];exact setRow_heap w p _ _ t _ h
theorem Zqd(K:List CV)(k:Nat)(h:k<K.length):(K.map (·.1))[k]'(by simpa using h)=K[k].1:=by simp
theorem Vk(w:World)(a b c d e f)(t:aY):(w.alloc (dA #[a,b,c,d,e,f] t)).heap[w.heap.size]? = dG (dA [a,b,c,d,e,f].toArray t (0,0)):=aG w _
set_option maxRecDepth 10000 in
theorem Zcj(w0 w)(p:Nat)(v:Value)(K:List CV)(q:PtD)(h:Pu w0 w p v K)(hs:Srt (K.map (·.1)))(hn:K.length<=4096)(hf:We q (K.map (·.1))=true) :
  Calls aB 202 #[dE (dG ⟨p,0,aD⟩),.agg #[E J q.1,E J q.2]] w λe w'=>∃ (x:CV) (v':Value) (K':List CV),e = dB (dC #[cnV x.1 x.2.1 x.2.2.1 x.2.2.2,dF true])/\Ve q (K.map (·.1))=dG (x.1,K'.map (·.1))/\x∈K/\(∀ y∈K',y∈K)/\K'.length+1=K.length /\
   Pu w0 w' p v' K'/\Gr w w' (PuS p v)/\v'.ownBlock=v.ownBlock:=by
 have hO:=h.own;obtain⟨k,hk⟩:=ZF (pos q (K.map (·.1)));have hp:=Zaf (p:=q) hs;rw[hf,hk] at hp;have cb:=Eq.symm hp;rw[aX,decide_eq_true_eq,decide_eq_true_eq,cO] at cb;obtain⟨ac,bg⟩:=cb
 have ca:pt ((K.map (·.1))[k]'(by simpa using ac))=q:=by
  rw[List.getElem?_eq_getElem (by simpa using ac),Option.map_some,Option.some.injEq] at bg;exact bg
 have hT:=Zjt (p:=q) hs (by rw[hk];simpa using ac) (by simp only[hk];exact ca);simp only[hk] at hT;rw[Zqd K k ac,<-List.map_take,<-List.map_drop,<-bN] at hT;obtain⟨a,c,rfl,hC,hS⟩:=h.coins
 obtain⟨g,rfl⟩:∃ g,a=dG ⟨g,0,aD⟩:=by
  rcases hO.2 with ⟨_,e⟩|⟨g,_,_,e,_⟩
  ·omega
  ·simp only[Value.slice.injEq] at e;exact⟨g,e.1⟩
 obtain⟨n,bh⟩:=ZF (K.length);have al:=h.box;have bf:g≠p:=λe=>h.ne (by rw[e];rfl);have df:w0.heap.size<=g:=Xz hO g rfl;obtain⟨x,hx⟩:=ZF (K[k]);have cc:x∈K:=by rw[<-hx];exact aQ ac
 obtain⟨f0,f1,f2,f3,f4,f5⟩:=Q7 K k ac;rw[hx] at f0 f1 f2 f3 f4 f5 hT;rw[bh] at hC al hn ac hO;have cg:∀ j u,j<n*6->(Zl K)[j]? = dG u->w.cell? ⟨g,j,aD⟩=dG u:=λj u hj hu=>by rw[bH hO j hj];exact hu
 obtain⟨X,hX⟩:=ZG ((w.alloc (dA #[E J q.1,E J q.2] 87)).alloc (dA #[E J 0,E J 0,E J 0,F aD 0 0,E J 0,dF false] 162));have ah:ZD w X:=by rw[hX];exact Zf (Zh _ _) (Zh _ _)
 have bx:X.heap[w.heap.size+1]? = dG (dA zeroCs.toArray 162 (0,0)):=by
  rw[hX];have:=aG (w.alloc (dA #[E J q.1,E J q.2] 87)) (dA zeroCs.toArray 162);rw[show (w.alloc (dA #[E J q.1,E J q.2] 87)).heap.size=w.heap.size+1 by simp] at this;exact this
 have x0:X.cell? ⟨w.heap.size,0,aD⟩=dG (E J q.1):=by rw[hX];exact Ze (Zh _ _) (Yo w _ _ _).1
 have x1:X.cell? ⟨w.heap.size,1,aD⟩=dG (E J q.2):=by rw[hX];exact Ze (Zh _ _) (Yo w _ _ _).2
 have xp:X.cell? ⟨p,0,aD⟩=dG (F (dG ⟨g,0,aD⟩) n c):=Ze ah (Zd (X:=[F (dG ⟨g,0,aD⟩) n c]) al 0 _ rfl);have PL:=Zb (λw' (hb:ZD X w')=>Rt (dG ⟨g,0,aD⟩) n c (K.map (·.1)) q k true w' hs (by omega) ((hC.later ah).later hb) hk hf);obtain⟨D0,D1,D2,D3,D4,D5,ct,bv⟩:=kh8 (cg _ _ (by omega) f0) (cg _ _ (by omega) f1) (cg _ _ (by omega) f2) (cg _ _ (by omega) f3) (cg _ _ (by omega) f4) (cg _ _ (by omega) f5) ah bx;obtain⟨HO,HT,HP,cq,da⟩:=kh5 hO hT h al cc;have aq:=Zb bh;have dj:p<w.heap.size:=h.lt;have dy:g<w.heap.size:=(hO.lt g rfl).2;clear hk hf hC hS hs al ah bx h hO hT bg ca hp f0 f1 f2 f3 f4 f5 cg hx cc bh;go_enter func202,ntmps202;go_wp2_with fail;rw[<-hX];clear hX
 go_region_held3 (λw'=>ZD X w'/\w'.cell? ⟨w.heap.size,0,aD⟩=dG (E J q.1)/\w'.cell? ⟨w.heap.size,1,aD⟩=dG (E J q.2)/\w'.cell? ⟨p,0,aD⟩=dG (F (dG ⟨g,0,aD⟩) n c))
  (first
  | exact⟨Zj _,x0,x1,xp⟩
  | (go_split_ands;refine⟨Zf (by assumption) ak,Ze ak (by assumption),Ze ak (by assumption),Ze ak (by assumption)⟩))
  (first|(go_at_call 247;go_split_ands;refine (PL _ (by assumption)).mono ?_;rintro e w' ⟨rfl,ak⟩))
 rename_i hH;have ab:=Zf ct hH.1;have bz:=(hH.1.block _ (aA bv)).trans bv;have d0:=Ze ab D0;have d1:=Ze ab D1;have d2:=Ze ab D2;have d3:=Ze ab D3;have d4:=Ze ab D4;have d5:=Ze ab D5;have ce:=hH.2.2.2;have ec:=aC _ _ ce;have dz:(k:Int)<(n:Int):=by omega
 have ef:IntKind.i64.wrap ((k:Int)+1)=(k:Int)+1:=by rw[IntKind.wrap_i64];omega
 obtain⟨Y,hY⟩:=ZG (w'.alloc (dA #[E J x.1.1,E J x.1.2.1,E J (cv x.1),.slice x.2.1 x.2.2.1 x.2.2.2,E J (ch x.1),dF (cr x.1)] 162));have aj:ZD w' Y:=by rw[hY];exact Zh _ _
 have hy:Y.heap[w'.heap.size]? = dG (dA [E J x.1.1,E J x.1.2.1,E J (cv x.1),.slice x.2.1 x.2.2.1 x.2.2.2,E J (ch x.1),dF (cr x.1)].toArray 162 (0,0)):=by rw[hY];exact Vk _ _ _ _ _ _ _ _
 have dc:Y.ownsRow w0.heap.size 162 6 (F (dG ⟨g,0,aD⟩) n c) n (Zl K):=(Gr.of (S:=λ_=>False) (Zf ab aj)).own HO (λ_ _ q=>q);have bo:=N6 w0.heap.size g n c k (k+1) K Y ac rfl aq dc;rw[show ((k+1:Nat):Int)=(k:Int)+1 by omega] at bo;have cu:=Zb bo;have yp:=Ze aj ce;have ed:=aC _ _ yp;obtain⟨br,bs,bw⟩:=kh3 (Zf ab aj) (ZE aj bz) hy;have ee:w.heap.size+1<w'.heap.size:=aA bz;go_wp2_with fail;rw[<-hY];go_wp2_with fail;refine cu.mono ?_;rintro e w4 ⟨rfl,di,am⟩;have an:=(am.block p (by omega) (by simp;exact λe=>bf e.symm)).trans ((br.block p dj).trans cq);have dm:=(am.block (w.heap.size+1) (aA bs) (by simp;omega)).trans bs;have cd:=(am.block w'.heap.size (aA bw) (by simp;omega)).trans bw;have p4:=Zd (X:=[F (dG ⟨g,0,aD⟩) n c]) an 0 _ rfl;have ek:=Zg an 0;obtain⟨e0,e1,e2,e3,e4,e5,-⟩:=kc6 cd;obtain⟨z0,z1,z2,z3,z4,z5,y0,y1,y2,y3,y4,y5,-⟩:=kf6 dm;have n1:¬(w'.heap.size=p):=by omega
 have n2:¬(p=w'.heap.size):=by omega
 have n3:¬(w.heap.size+1=p):=by omega
 have n4:¬(p=w.heap.size+1):=by omega
 have n5:¬(w'.heap.size=w.heap.size+1):=by omega
 have n6:¬(w.heap.size+1=w'.heap.size):=by omega
 have GA:Hid (Gr w w4 (PuS p (F (dG ⟨g,0,aD⟩) n c))):=(Gr.of br).grown am (λk hk=>.inl (.inr hk))
 have GS:Hid (∀ k,PuS p (F (dG ⟨g,0,aD⟩) n c) k->w0.heap.size<=k):=λk hk=>by
  rcases hk with rfl|hk
  ·exact HP.ge
  ·cases hk;exact df
 have GO:Hid (∀ k,(bW (dG ⟨g,0,aD⟩) (n - 1) c).ownBlock=dG k->¬(k=p\/k=w.heap.size+1)):=λk hk=>by
  cases hk;rintro (e|e)
  ·exact bf e
  ·have e2:g=w.heap.size+1:=e;omega
 obtain⟨cx,cy⟩:=kh2 di an;have ea:=aA cd;have eb:p<w4.heap.size:=aA an;go_wp2;refine aL (v:=dC #[cnV x.1 x.2.1 x.2.2.1 x.2.2.2,dF true]) ?_ rfl ⟨x,F (dG ⟨g,0,aD⟩) (n - 1) c,K.take k++K.drop (k+1),rfl,Za HT,Za da,?_,?_,?_,?_,rfl⟩
 ·rw[Zo rfl];unfold cnV;go_simp
 ·exact λy hy=>(bM.1 hy).elim List.mem_of_mem_take List.mem_of_mem_drop
 ·have:=Za aq;simp only[bL,aV,List.length_drop];omega
 ·have hl:(K.take k++K.drop (k+1)).length=n - 1:=by
   have:=Za aq;simp only[bL,aV,List.length_drop];omega
  have hp:=Za HP;refine⟨?_,hp.ge,?_,?_,λe=>bf (by cases e;rfl),λy hy=>hp.lk y ((bM.1 hy).elim List.mem_of_mem_take List.mem_of_mem_drop)⟩
  ·exact ((GA.one p 0 (.inl (.inl rfl)) _).six (w.heap.size+1) (.inr (Nat.le_succ _)) _ _ _ _ _ _).below hp.bel hp.bel.size GS
  ·exact ((Gr.refl _ (λk=>k=w.heap.size+1)).six (w.heap.size+1) (.inl rfl) _ _ _ _ _ _).heap (Uf cy) n4
  ·rw[hl];exact (((Gr.refl w4 (λk=>k=p\/k=w.heap.size+1)).one p 0 (.inl (.inl rfl)) _).six (w.heap.size+1) (.inl (.inr rfl)) _ _ _ _ _ _).own cx GO
 ·exact (GA.one p 0 (.inl (.inl rfl)) _).six (w.heap.size+1) (.inr (Nat.le_succ _)) _ _ _ _ _ _
abbrev Zk:=Int×Int×Int×Int×List TxD
def TxAt(w:World)(b o:Nat)(t:TxD):Prop:=
 w.cell? ⟨b,o,aD⟩=dG (E J t.1)/\(∃ a n c,w.cell? ⟨b,o+1,aD⟩=dG (F a n c)/\InsAt w a n t.2.1/\SlOk a n c)/\(∃ a n c,w.cell? ⟨b,o+2,aD⟩=dG (F a n c)/\OutsAt w a n t.2.2/\SlOk a n c)
theorem TxAt.kept:Aa TxAt:=λ_ _ _ _ _ hb h=>by
 obtain⟨h1,⟨a,n,c,h2,h3,h4⟩,a',n',c',h5,h6,h7⟩:=h;exact⟨Ze hb h1,⟨a,n,c,Ze hb h2,h3.later hb,h4⟩,a',n',c',Ze hb h5,h6.later hb,h7⟩
def TxsAt(w:World)(a:Option Addr)(len:Nat)(l:List TxD):Prop:=RowsAt TxAt 3 w a len l
theorem TxsAt.later{w w':World}{a len l}(h:TxsAt w a len l)(hb:ZD w w'):TxsAt w' a len l:=RowsAt.later TxAt.kept h hb
def Xp(p h k n:Int):Bool:=(decide (0<=p) && decide (p<=120)) && ((decide (1<=h) && decide (h<=1000)) && ((decide (1<=k) && decide (k<=1000)) && (decide (0<=n) && decide (n<=1000000000))))
def Uz(t:TxD)(i h:Int):Bool:=if 0<i then !decide (t.2.1.length=0) else decide (t.2.1.length=0) && decide (t.1=h)
def Yx(h:Int):Nat->List TxD->Int
 | _,[]=>0
 | i,t :: r=>if Zp t≠0 then Zp t else if Uz t i h=false then 4 else Yx h (i+1) r
def Yu(b:Zk):Int:=if Xp b.1 b.2.1 b.2.2.1 b.2.2.2.1=false then 3 else if 4<b.2.2.2.2.length then 2 else if b.2.2.2.2.length=0 then 4 else Yx b.2.1 0 b.2.2.2.2
theorem Zbe(h:Int)(T:List TxD)(k:Nat)(hk:k<T.length):Yx h k (T.drop k)=if Zp T[k]≠0 then Zp T[k] else if Uz T[k] k h=false then 4 else Yx h (k+1) (T.drop (k+1)):=by
 rw[aK hk];rfl
theorem Ft(h:Int)(T:List TxD)(k:Nat)(hk:T.length<=k):Yx h k (T.drop k)=0:=by
 rw[bA hk];rfl
theorem Zw(w:World)(a b c d e)(t:aY):(w.alloc (dA #[a,b,c,d,e] t)).heap[w.heap.size]? = dG (dA [a,b,c,d,e].toArray t (0,0)):=aG w _
theorem Yb{fn:Func}{p:Tmp}{ty:aY}(h:fn.results=#[.cell p ty])(tmps:Array Value)(P:Program)(w) :
  (results fn tmps).run P w=((asAddr (tmps.getD p undef)).run P w).andThen λa w₁=>(loadVar ty a).run P w₁:=by
 simp only[results,h];simp[Sem.run_bind,Result.andThen]
set_option maxRecDepth 10000 in
theorem Fj(p h k n:Int)(a m c)(w:World) :
  ZH 112 #[.agg #[E J p,E J h,E J k,E J n,F a m c]] w (.agg #[E J p,E J h,E J k,E J n]):=by
 have HB:=Zb (Zf (Zh w (dA #[E J p,E J h,E J k,E J n,F a m c] 33)) (Zh _ (dA #[E J p,E J h,E J k,E J n] 183)));go_enter func112,ntmps112;go_wp2;refine aL (v:=.agg #[E J p,E J h,E J k,E J n]) ?_ rfl ⟨rfl,?_⟩
 ·rw[Yb rfl];go_simp
 ·exact Za HB
theorem Zgm(h:Int)(ai ao)(ni ci no co:Nat)(I:List InD)(O)(i:Nat)(ht:Int)(o:Bool)(w:World)(hI:I.length=ni)(ho:Uz (h,I,O) i ht=o) :
  ZH 151 #[.agg #[E J h,F ai ni ci,F ao no co],E J i,E J ht] w (dF o):=by
 have HB:=Zb (Zh w (dA #[E J h,F ai ni ci,F ao no co] 50));unfold Uz at ho;simp only at ho;rw[hI] at ho;by_cases h1:i=0
 ·subst h1;rw[if_neg (by decide)] at ho;by_cases h2:ni=0
  ·subst h2;by_cases h3:h=ht
   ·subst h3;obtain rfl:true=o:=(by rw[<-ho];simp);go_enter func151,ntmps151;go_wp2;go_ret;exact⟨rfl,Za HB⟩
   ·obtain rfl:false=o:=(by rw[<-ho];simp[h3]);have g:(h == ht)=false:=(by simp[h3]);go_enter func151,ntmps151;go_wp2;go_ret;exact⟨by rw[<-g];rfl,Za HB⟩
  ·obtain rfl:false=o:=(by rw[<-ho];simp[h2]);have g:((ni:Int) == 0)=false:=(by simp[h2]);go_enter func151,ntmps151;go_wp2;go_ret;exact⟨rfl,Za HB⟩
 ·have hi:0<(i:Int):=by omega
  rw[if_pos hi] at ho;by_cases h2:ni=0
  ·subst h2;obtain rfl:false=o:=(by rw[<-ho];simp);go_enter func151,ntmps151;go_wp2;go_ret;exact⟨rfl,Za HB⟩
  ·obtain rfl:true=o:=(by rw[<-ho];simp[h2]);have g:((ni:Int) == 0)=false:=(by simp[h2]);go_enter func151,ntmps151;go_wp2;go_ret;exact⟨rfl,Za HB⟩
theorem Zde(a b c d)(j:Nat)(hj:j<4)(w):(Instr.index 183 (.agg #[a,b,c,d]) (E J (j:Int))).run aB w = .ok ([a,b,c,d].getD j undef) w:=by
 obtain rfl|rfl|rfl|rfl:j=0\/j=1\/j=2\/j=3:=by omega
 all_goals kernel_rfl
def okF(V:List (Int×Int×Int)):Bool:=V.all λx=>decide (x.2.1<=x.1) && decide (x.1<=x.2.2)
theorem Ja(n lo hi:Int)(b:Bool)(w:World)(hb:(decide (lo<=n) && decide (n<=hi))=b) :
  ZH 117 #[E J n,E J lo,E J hi] w (dF b):=
 (Y3 n lo hi b w hb.symm).mono λ_ _ ⟨h1,h2⟩=>⟨h1,h2 ▸ Below.refl _ _⟩
theorem Rw(w:World)(a b c d)(t:aY):(w.alloc (dA #[a,b,c,d] t)).heap[w.heap.size]? = dG (dA [a,b,c,d].toArray t (0,0)):=aG w _
set_option maxRecDepth 100000 in
theorem Hf(p h k n:Int)(a m c)(o:Bool)(w:World)(ho:Xp p h k n=o) :
  ZH 149 #[.agg #[E J p,E J h,E J k,E J n,F a m c]] w (dF o):=by
 obtain⟨X,hX⟩:=ZG (((w.alloc (dA #[E J p,E J h,E J k,E J n,F a m c] 33)).alloc (dA #[E J 0,E J 1,E J 1,E J 0] 183)).alloc (dA #[E J 120,E J 1000,E J 1000,E J 1000000000] 183));have bi:ZD w X:=by rw[hX];exact Zf (Zf (Zh _ _) (Zh _ _)) (Zh _ _)
 have hL:X.heap[w.heap.size+1]? = dG (dA [E J 0,E J 1,E J 1,E J 0].toArray 183 (0,0)):=by
  rw[hX,bJ _ _ _ (by simp)];have:=Rw (w.alloc (dA #[E J p,E J h,E J k,E J n,F a m c] 33)) (E J 0) (E J 1) (E J 1) (E J 0) 183;rw[show (w.alloc (dA #[E J p,E J h,E J k,E J n,F a m c] 33)).heap.size=w.heap.size+1 by simp] at this;exact this
 have hH:X.heap[w.heap.size+2]? = dG (dA [E J 120,E J 1000,E J 1000,E J 1000000000].toArray 183 (0,0)):=by
  rw[hX];have:=Rw ((w.alloc (dA #[E J p,E J h,E J k,E J n,F a m c] 33)).alloc (dA #[E J 0,E J 1,E J 1,E J 0] 183)) (E J 120) (E J 1000) (E J 1000) (E J 1000000000) 183;rw[show ((w.alloc (dA #[E J p,E J h,E J k,E J n,F a m c] 33)).alloc (dA #[E J 0,E J 1,E J 1,E J 0] 183)).heap.size=w.heap.size+2 by simp] at this;exact this
 obtain⟨C,aw,HL,HH⟩:=kh4 (Fj p h k n a m c X) bi hL hH;have IX:=Zb (λ(j:Nat) (hj:j<4) w=>Zde (E J p) (E J h) (E J k) (E J n) j hj w);have HO:Hid (okF (([(p,0,120),(h,1,1000),(k,1,1000),(n,0,1000000000)]:List (Int×Int×Int)).drop 0)=o):=by show _=_;rw[<-ho];simp[okF,Xp,Bool.and_assoc]
 go_enter func149,ntmps149;go_wp2_with fail;rw[<-hX];go_wp2_with fail;refine C.mono ?_;rintro e w1 ⟨rfl,ac⟩;have af:=Zb (Zf aw ac);have ar:=ZE ac HL;have ap:=ZE ac HH;obtain⟨bd,ay⟩:=kh2 ar ap;have bx:=aA ar;have bw:=aA ap;go_wp2;obtain⟨V,hV⟩:∃ V:List (Int×Int×Int),V=[(p,0,120),(h,1,1000),(k,1,1000),(n,0,1000000000)]:=⟨_,rfl⟩;rw[<-hV] at HO;have HV:=Zb hV
 go_loopw [11] (λi wr=>∃ j:Nat,j<=4/\i = E J j/\Hid (okF (V.drop j)=o)/\Hid (ZD w1 wr)) (λi _=>4 - (intOf i).toNat)
 case atStart=>exact⟨0,by omega,rfl,HO,Below.refl _ _⟩
 case round=>
  obtain⟨j,hj,rfl,HJ,HB⟩:=hrel;by_cases bo:j<4
  ·obtain⟨x,lo,hi,e,ix,lc,hc⟩:∃ x lo hi:Int,V.drop j=(x,lo,hi) :: V.drop (j+1)/\(∀ w,(Instr.index 183 (.agg #[E J p,E J h,E J k,E J n]) (E J (j:Int))).run aB w = .ok (E J x) w)/\w1.cell? ⟨w.heap.size+1,j,aD⟩=dG (E J lo)/\w1.cell? ⟨w.heap.size+2,j,aD⟩=dG (E J hi):=by
    have e:=IX j bo;rw[Za HV];obtain rfl|rfl|rfl|rfl:j=0\/j=1\/j=2\/j=3:=by omega
    all_goals exact⟨_,_,_,rfl,e,Zd bd _ _ rfl,Zd ay _ _ rfl⟩
   obtain⟨b,hb⟩:=ZF ((decide (lo<=x) && decide (x<=hi)));have HS:Hid ((b && okF (V.drop (j+1)))=o):=(by have q:=Za HJ;rw[e] at q;simp only[okF,List.all_cons] at q;rw[hb] at q;exact q);have CC:=Zb (λW=>Ja x lo hi b W hb);have l1:=Ze HB lc;have h1:=Ze HB hc;have ll:=aC _ _ l1;have lh:=aC _ _ h1;go_wp2_with fail
   go_region_held3 (λW'=>ZD wr W'/\W'.cell? ⟨w.heap.size+1,j,aD⟩=dG (E J lo)/\W'.cell? ⟨w.heap.size+2,j,aD⟩=dG (E J hi))
    (first
    | exact⟨Zj _,l1,h1⟩
    | (go_split_ands;refine⟨Zf (by assumption) ad,Ze ad (by assumption),Ze ad (by assumption)⟩))
    (first|(go_at_call 117;refine (CC _).mono ?_;rintro e w' ⟨rfl,ad⟩))
   rename_i hq;have ag:=Zb (Zf HB hq.1);cases b with
   | false=>
    obtain rfl:false=o:=HS;go_wp2;go_ret;exact⟨rfl,Zf af ag⟩
   | true=>
    have be:Hid (okF (V.drop (j+1))=o):=Za HS;go_wp2;go_roundw
    case rel=>exact⟨j+1,by omega,by go_num,be,ag⟩
    case measure=>simp[intOf];omega
  ·obtain rfl:j=4:=(by omega);obtain rfl:true=o:=(by have q:=Za HJ;rw[Za HV] at q;exact q);go_wp2;go_ret;exact⟨rfl,Zf af HB⟩
theorem Yw{w:World}{base:Nat}{e:aY}{size:Nat}{v}{n:Nat}{xs}(h:w.ownsRow base e size v n xs):∃ a c,v = F a n c:=by
 rcases h.2 with ⟨rfl,rfl⟩|⟨g,cap,aa,rfl,_⟩
 ·exact⟨aD,0,rfl⟩
 ·exact⟨_,_,rfl⟩
def Ce(y:CV):List Value:=[E J y.1.1,E J y.1.2.1,E J (cv y.1),.slice y.2.1 y.2.2.1 y.2.2.2,E J (ch y.1),dF (cr y.1)]
theorem Zmq(y:CV):Zl [y]=Ce y:=rfl
set_option maxRecDepth 10000 in
theorem Zpl(w0 w:World)(p:Nat)(v)(K:List CV)(y:CV)(h:Pu w0 w p v K)(hs:Srt (K.map (·.1)))(hn:K.length<=4096)(hf:We (pt y.1) (K.map (·.1))=true) :
  ZH 204 #[dE (dG ⟨p,0,aD⟩),cnV y.1 y.2.1 y.2.2.1 y.2.2.2] w (dF false):=by
 obtain⟨a,c,rfl,hC,hS⟩:=h.coins;obtain⟨n,ak⟩:=ZF (K.length);obtain⟨k,hk⟩:=ZF (pos (pt y.1) (K.map (·.1)));have ae:=h.box;rw[ak] at hC ae hn;unfold cnV;obtain⟨X,hX⟩:=ZG (w.alloc (dA #[E J y.1.1,E J y.1.2.1,E J (cv y.1),.slice y.2.1 y.2.2.1 y.2.2.2,E J (ch y.1),dF (cr y.1)] 162));have ab:ZD w X:=by rw[hX];exact Zh _ _
 have ag:X.heap[w.heap.size]? = dG (dA (Ce y).toArray 162 (0,0)):=by rw[hX];exact Vk _ _ _ _ _ _ _ _
 obtain⟨x0,x1,-⟩:=kc2 ag;have xp:X.cell? ⟨p,0,aD⟩=dG (F a n c):=Ze ab (Zd (X:=[F a n c]) ae 0 _ rfl);have PL:=Zb (λw' (hb:ZD X w')=>Rt a n c (K.map (·.1)) (pt y.1) k true w' hs (by omega) ((hC.later ab).later hb) hk hf);unfold pt at PL;have an:=Zb ab;clear hk hf hC hS hs ae ab ag h ak;go_enter func204,ntmps204;go_wp2_with fail;rw[<-hX];clear hX
 go_region_held3 (λw'=>ZD X w'/\w'.cell? ⟨w.heap.size,0,aD⟩=dG (E J y.1.1)/\w'.cell? ⟨w.heap.size,1,aD⟩=dG (E J y.1.2.1)/\w'.cell? ⟨p,0,aD⟩=dG (F a n c))
  (first
  | exact⟨Zj _,x0,x1,xp⟩
  | (go_split_ands;refine⟨Zf (by assumption) ac,Ze ac (by assumption),Ze ac (by assumption),Ze ac (by assumption)⟩))
  (first|(go_at_call 247;go_split_ands;refine (PL _ (by assumption)).mono ?_;rintro e w' ⟨rfl,ac⟩))
 rename_i hH;have HB:=Zb (Zf an hH.1);clear hH;go_wp2;go_ret;exact⟨rfl,Za HB⟩
set_option maxRecDepth 10000 in
theorem Zlg(w0 w:World)(p:Nat)(v:Value)(K:List CV)(y:CV)(h:Pu w0 w p v K)(hs:Srt (K.map (·.1)))(hn:K.length<=4096)(hf:We (pt y.1) (K.map (·.1))=false)(hy:LkAt w0 y) :
  Calls aB 204 #[dE (dG ⟨p,0,aD⟩),cnV y.1 y.2.1 y.2.2.1 y.2.2.2] w λe w'=>∃ (v':Value) (K':List CV),e = dB (dF true)/\K'.map (·.1)=J2 y.1 (K.map (·.1))/\(∀ z∈K',z=y\/z∈K)/\K'.length=K.length+1 /\
   Pu w0 w' p v' K'/\Gr w w' (PuS p v)/\(v'.ownBlock=v.ownBlock\/∀ k,v'.ownBlock=dG k->w.heap.size<=k):=by
 obtain⟨a,c,rfl,hC,hS⟩:=h.coins;obtain⟨n,ap⟩:=ZF (K.length);obtain⟨k,hk⟩:=ZF (pos (pt y.1) (K.map (·.1)));have am:=h.box;have hO:=h.own;have bg:=h.ne;have cw:k<=n:=by rw[<-hk,<-ap];have:=Zlh (pt y.1) (K.map (·.1));simpa using this
 have ax:=Zex hs hf;rw[hk,<-List.map_take,<-List.map_drop,show y.1 :: (K.drop k).map (·.1)=(y :: K.drop k).map (·.1) from rfl,<-bN] at ax;rw[ap] at hC am hn hO bg;unfold cnV;obtain⟨X,hX⟩:=ZG (w.alloc (dA #[E J y.1.1,E J y.1.2.1,E J (cv y.1),.slice y.2.1 y.2.2.1 y.2.2.2,E J (ch y.1),dF (cr y.1)] 162));have al:ZD w X:=by rw[hX];exact Zh _ _
 have az:X.heap[w.heap.size]? = dG (dA (Ce y).toArray 162 (0,0)):=by rw[hX];exact Vk _ _ _ _ _ _ _ _
 obtain⟨x0,x1,-⟩:=kc2 az;have xp:X.cell? ⟨p,0,aD⟩=dG (F a n c):=Ze al (Zd (X:=[F a n c]) am 0 _ rfl);have PL:=Zb (λw' (hb:ZD X w')=>Rt a n c (K.map (·.1)) (pt y.1) k false w' hs (by omega) ((hC.later al).later hb) hk hf);unfold pt at PL;obtain⟨ce,bu,HO,br,cf,HP,HY,bq⟩:=kh8 al az hO bg ax h hy am;have ae:=Zb ap;have bh:p<w.heap.size:=h.lt;clear hk hf hC hS hs am al az h ap hO bg ax hy;go_enter func204,ntmps204;go_wp2_with fail;rw[<-hX];clear hX
 go_region_held3 (λw'=>ZD X w'/\w'.cell? ⟨w.heap.size,0,aD⟩=dG (E J y.1.1)/\w'.cell? ⟨w.heap.size,1,aD⟩=dG (E J y.1.2.1)/\w'.cell? ⟨p,0,aD⟩=dG (F a n c))
  (first
  | exact⟨Zj _,x0,x1,xp⟩
  | (go_split_ands;refine⟨Zf (by assumption) ag,Ze ag (by assumption),Ze ag (by assumption),Ze ag (by assumption)⟩))
  (first|(go_at_call 247;go_split_ands;refine (PL _ (by assumption)).mono ?_;rintro e w' ⟨rfl,ag⟩))
 rename_i hH;have af:=Zf ce hH.1;have bf:=(hH.1.block _ (aA bu)).trans bu;obtain⟨c0,c1,c2,c3,c4,c5,-⟩:=kc6 bf;have cy:=hH.2.2.2;have de:=aC _ _ cy;have cu:=(af.block p bh).trans bq;have cz:=Zb af
 have cj:Hid (∀ W,W.heap=(w'.alloc (dA #[E J y.1.1,E J y.1.2.1,E J (cv y.1),.slice y.2.1 y.2.2.1 y.2.2.2,E J (ch y.1),dF (cr y.1)] 162)).heap->W.os=w'.os->W.tape=w'.tape->W.output=w'.output ->
   Calls aB 251 #[F a n c,E J k,F (dG ⟨w'.heap.size,0,aD⟩) 1 1] W λe w4=>∃ a' c',e = dB (F a' (n+1) c')/\w4.cell? ⟨p,0,aD⟩=dG (F a n c)/\w4.frozen? ⟨p,0,aD⟩=false/\p<w4.heap.size/\Hid (w4.ownsRow w0.heap.size 162 6 (F a' (n+1) c') (n+1) (Zl (K.take k++y :: K.drop k))/\Gr w w4 (PuS p (F a n c))/\((bW a' (n+1) c').ownBlock=(bW a n c).ownBlock\/∀ k,(bW a' (n+1) c').ownBlock=dG k->w.heap.size<=k)/\w4.heap[p]? = dG (dA #[F a n c] 242 (0,0)))):=by
  intro W ay cn cp cq;have bv:ZD w' W:=⟨cn,cp,cq,by rw[ay];simp,λi hi=>by rw[ay];exact bJ w' _ i hi⟩;have bd:=Zf af bv;have cl:W.ownsRow w0.heap.size 162 6 (F a n c) n (Zl K):=(Gr.of (S:=λ_=>False) bd).own HO (λ_ _ q=>q);have cx:W.heap[w'.heap.size]? = dG (dA (Zl [y]).toArray 162 (0,0)):=by rw[ay];exact Vk _ _ _ _ _ _ _ _
  have bj:w.heap.size<W.heap.size:=aF (aA bf) bv.size;refine (Ml w0.heap.size a n c k w'.heap.size K y W cw hn ae (aO HP.bel.size (Nat.le_of_lt bj)) cl cx ?_).mono ?_
  ·intro e;have:=HO.lt _ e;have h3:=af.size;omega
  ·rintro e w4 ⟨v',rfl,ar,an,aq⟩;obtain⟨a',c',rfl⟩:=Yw ar
   have ad:w4.heap[p]? = dG (dA #[F a n c] 242 (0,0)):=by
    rw[an.block p (Nat.lt_trans bh bj) (λe=>br e.symm),bd.block p bh];exact Za bq
   refine⟨a',c',rfl,Zd (X:=[F a n c]) ad 0 _ rfl,Zg ad 0,aA ad,ar,(Gr.of bd).grown an (λk hk=>.inl (.inr hk)),?_,ad⟩
   ·rcases aq with q|q
    ·exact .inl q
    ·exact .inr λk hk=>aO (Nat.le_of_lt bj) (q k hk)
 clear hH ag af bf xp x0 x1 cu;go_wp2_with fail
 go_region_with (go_at_call 251;refine (cj _ ?_ ?_ ?_ ?_).mono ?_;rfl;rfl;rfl;rfl;rintro e w4 ⟨a',c',rfl,p4,dg,dh,H4⟩)
 all_goals
  go_wp2;go_ret;obtain⟨ar,an,aq,ad⟩:=Za H4;have hp:=Za HP
  have hl:(K.take k++y :: K.drop k).length=n+1:=by
   have:=Za ae;simp only[bL,aV,cK,List.length_drop];omega
  have bz:(bW a' (n+1) c').ownBlock≠dG p:=λe=>by
   rcases aq with q|q
   ·rw[q] at e;exact br e
   ·have:=q p e;omega
  have ca:∀ z∈K.take k++y :: K.drop k,z=y\/z∈K:=λz hz=>by
   rcases bM.1 hz with q|q
   ·exact .inr (List.mem_of_mem_take q)
   ·rcases aW.1 q with q|q
    ·exact .inl q
    ·exact .inr (List.mem_of_mem_drop q)
  have bw:=an.one p 0 (.inl (.inl rfl)) (F a' (n+1) c');refine⟨F a' (n+1) c',K.take k++y :: K.drop k,rfl,cf.symm,ca,by rw[hl,Za ae],⟨?_,hp.ge,Uf ad,?_,bz,?_⟩,?_,?_⟩
  ·refine bw.below hp.bel hp.bel.size (λk hk=>?_)
   rcases hk with rfl|hk
   ·exact hp.ge
   ·exact Xz HO k hk
  ·rw[hl];exact ((Gr.refl w4 (λk=>k=p)).one p 0 (.inl rfl) _).own ar (λk hk e=>bz (by rw[hk,e]))
  ·intro z hz
   rcases ca z hz with rfl|q
   ·exact Za HY
   ·exact hp.lk z q
  ·rw[Za ae];exact bw
  ·rw[Za ae];exact aq
def Zs(h:Int):List InD->List Zi->List Zi->Int×List Zi×List Zi
 | [],S,L=>(0,S,L)
 | x :: r,S,L=>match Ve (x.1,x.2.1) L with
  | none=>(7,[],[])
  | some (c,M)=>if cr c=true/\h<ch c+2 then (10,[],[]) else if Xb (ck c) x.2.2 h=false then (8,[],[]) else Zs h r (S++[c]) M
def R6(name:Int)(i:Nat)(o:Yd)(h:Int)(r:Bool):Zi:=(name,(i:Int),o.1,o.2,h,r)
def Yp(name h:Int)(r:Bool):Nat->List Yd->List Zi->Int×List Zi
 | _,[],L=>(0,L)
 | i,o :: q,L=>if We (name,(i:Int)) L=true then (6,[]) else Yp name h r (i+1) q (J2 (R6 name i o h r) L)
def Ua(name:Int):Nat->List Yd->List Zi->Int×List Zi
 | _,[],L=>(0,L)
 | i,o :: q,L=>match Ve (name,(i:Int)) L with
  | none=>(7,[])
  | some (c,M)=>if (cv c,ck c)=o then Ua name (i+1) q M else (7,[])
def Qd:List InD->List Zi->List Zi->Int×List Zi
 | x :: r,c :: q,L=>if pt c≠(x.1,x.2.1)\/We (pt c) L=true then (6,[]) else Qd r q (J2 c L)
 | _,_,L=>(0,L)
def okN(n:Int):Bool:=decide (1<=n) && decide (n<=120)
def isR(t:TxD):Bool:=decide (t.2.1.length=0)
def Vq(L:List Zi)(t:TxD):Int:=if Zz L≠0 then Zz L else Zp t
def Xu(L:List Zi)(t:TxD)(name h:Int):Int:=
 if Vq L t≠0 then Vq L t else if (okN name && okH h)=false then 3 else if isR t=true/\t.1≠h then 4 else 0
def N7(S:List Zi)(t:TxD):Int:=if Zm S - Yk t.2.2<0/\isR t=false then 9 else 0
def apD(L:List Zi)(t:TxD)(name h:Int):Int×List Zi×List Zi:=
 if Xu L t name h≠0 then (Xu L t name h,[],[])
 else
  if (Zs h t.2.1 [] L).1≠0 then ((Zs h t.2.1 [] L).1,[],[])
  else if N7 (Zs h t.2.1 [] L).2.1 t≠0 then (N7 (Zs h t.2.1 [] L).2.1 t,[],[])
  else if (Yp name h (isR t) 0 t.2.2 (Zs h t.2.1 [] L).2.2).1≠0 then ((Yp name h (isR t) 0 t.2.2 (Zs h t.2.1 [] L).2.2).1,[],[])
  else if Zz (Yp name h (isR t) 0 t.2.2 (Zs h t.2.1 [] L).2.2).2≠0 then (Zz (Yp name h (isR t) 0 t.2.2 (Zs h t.2.1 [] L).2.2).2,[],[])
  else (0,(Yp name h (isR t) 0 t.2.2 (Zs h t.2.1 [] L).2.2).2,(Zs h t.2.1 [] L).2.1)
def rvD(L:List Zi)(t:TxD)(name:Int)(S:List Zi):Int×List Zi:=
 if Vq L t≠0 then (Vq L t,[])
 else if S.length≠t.2.1.length then (4,[])
 else if (Ua name 0 t.2.2 L).1≠0 then ((Ua name 0 t.2.2 L).1,[])
 else if (Qd t.2.1 S (Ua name 0 t.2.2 L).2).1≠0 then ((Qd t.2.1 S (Ua name 0 t.2.2 L).2).1,[])
 else if Zz (Qd t.2.1 S (Ua name 0 t.2.2 L).2).2≠0 then (Zz (Qd t.2.1 S (Ua name 0 t.2.2 L).2).2,[])
 else (0,(Qd t.2.1 S (Ua name 0 t.2.2 L).2).2)
def MS.cells(s:MS):Array Value:=(s.cs.map (aU .i64)++([aU .i64 s.n,aU .i64 s.h,Value.bool s.f]:List Value)).toArray
theorem MS.cells_stack{s:MS}(hs:s.ok)(i:Nat)(hi:i<16):s.cells[i]? = dG (E J (s.cs.getD i 0)):=by
 have hl:i<s.cs.length:=by rw[hs.1];exact hi
 simp[MS.cells,List.getElem?_append_left,hl]
theorem MS.cells_n{s:MS}(hs:s.ok):s.cells[16]? = dG (E J s.n):=by
 have hl:=hs.1;simp[MS.cells,hl]
theorem MS.cells_h{s:MS}(hs:s.ok):s.cells[17]? = dG (E J s.h):=by
 have hl:=hs.1;simp[MS.cells,hl]
theorem MS.cells_f{s:MS}(hs:s.ok):s.cells[18]? = dG (dF s.f):=by
 have hl:=hs.1;simp[MS.cells,hl]
theorem MS.set_stack{s:MS}(hs:s.ok)(i:Nat)(hi:i<16)(x:Int):s.cells.setIfInBounds i (E J x)=MS.cells { s with cs:=s.cs.set i x }:=by
 have hl:i<(s.cs.map (aU .i64)).length:=by rw[cO,hs.1];exact hi
 simp only[MS.cells,List.setIfInBounds_toArray,List.set_append_left _ _ hl,List.map_set]
theorem MS.set_n{s:MS}(hs:s.ok)(n:Nat):s.cells.setIfInBounds 16 (E J n)=MS.cells { s with n:=n }:=by
 have hl:(s.cs.map (aU .i64)).length=16:=by rw[cO,hs.1]
 simp only[MS.cells,List.setIfInBounds_toArray];rw[List.set_append_right _ _ (by omega),hl];rfl
theorem MS.set_f{s:MS}(hs:s.ok)(b:Bool):s.cells.setIfInBounds 18 (dF b)=MS.cells { s with f:=b }:=by
 have hl:(s.cs.map (aU .i64)).length=16:=by rw[cO,hs.1]
 simp only[MS.cells,List.setIfInBounds_toArray];rw[List.set_append_right _ _ (by omega),hl];rfl
structure Mach(p:Nat)(s:MS)(W w:World):Prop where
 good:s.ok
 block:w.heap[p]? = dG (dA s.cells 356 (0,0))
 old:∀ k,k≠p->k<W.heap.size->w.heap[k]? = W.heap[k]?
 size:W.heap.size<=w.heap.size
 os:w.os=W.os
 tape:w.tape=W.tape
 output:w.output=W.output
theorem Mach.lt{p:Nat}{s:MS}{W w:World}(h:Mach p s W w):p<w.heap.size:=aA h.block
theorem Mach.cell{p:Nat}{s:MS}{W w:World}(h:Mach p s W w)(i:Nat):w.cell? ⟨p,i,aD⟩=s.cells[i]?:=by simp[World.cell?,h.block]
theorem Mach.cell_n{p:Nat}{s:MS}{W w:World}(h:Mach p s W w):w.cell? ⟨p,16,aD⟩=dG (E J s.n):=by rw[h.cell,MS.cells_n h.good]
theorem Mach.cell_h{p:Nat}{s:MS}{W w:World}(h:Mach p s W w):w.cell? ⟨p,17,aD⟩=dG (E J s.h):=by rw[h.cell,MS.cells_h h.good]
theorem Mach.cell_f{p:Nat}{s:MS}{W w:World}(h:Mach p s W w):w.cell? ⟨p,18,aD⟩=dG (dF s.f):=by rw[h.cell,MS.cells_f h.good]
theorem Mach.cell_s{p:Nat}{s:MS}{W w:World}(h:Mach p s W w)(i:Nat)(hi:i<16):w.cell? ⟨p,i,aD⟩=dG (E J (s.cs.getD i 0)):=by rw[h.cell,MS.cells_stack h.good i hi]
theorem Mach.free{p:Nat}{s:MS}{W w:World}(h:Mach p s W w)(i:Nat):w.frozen? ⟨p,i,aD⟩=false:=by simp[World.frozen?,h.block]
theorem Mach.store{p:Nat}{s s':MS}{W w:World}(h:Mach p s W w)(i:Nat)(v)(e:s.cells.setIfInBounds i v=s'.cells)(g:s'.ok):Mach p s' W (w.setCell ⟨p,i,aD⟩ v) where
 good:=g
 block:=by
  rw[heap_setCell_same w p i s.cells 356 v h.block,e]
 old:=λk hk hl=>by rw[heap_setCell_other w ⟨p,i,aD⟩ k v hk];exact h.old k hk hl
 size:=by rw[World.size_setCell];exact h.size
 os:=h.os
 tape:=h.tape
 output:=h.output
theorem Mach.drew{p:Nat}{s:MS}{W w:World}(h:Mach p s W w):Mach p s W w.drew:=⟨h.good,h.block,h.old,h.size,h.os,h.tape,h.output⟩
theorem Mach.drewN{p:Nat}{s:MS}{W w:World}(h:Mach p s W w)(n:Nat):Mach p s W (w.drewN n):=⟨h.good,h.block,h.old,h.size,h.os,h.tape,h.output⟩
theorem Mach.alloc{p:Nat}{s:MS}{W w:World}(h:Mach p s W w)(o:Obj):Mach p s W (w.alloc o) where
 good:=h.good
 block:=by rw[bJ w o p h.lt];exact h.block
 old:=λk hk hl=>by rw[bJ w o k (aF hl h.size)];exact h.old k hk hl
 size:=by have:=h.size;simp;omega
 os:=h.os
 tape:=h.tape
 output:=h.output
theorem Mach.past{p:Nat}{s:MS}{W w:World}(h:Mach p s W w)(q:Addr)(hq:q.block≠p)(hl:q.block<W.heap.size):w.cell? q=W.cell? q:=bU (w:=W) (h.old q.block hq hl)
theorem Mach.below{p:Nat}{s:MS}{W w:World}(h:Mach p s W w)(hp:W.heap.size<=p):ZD W w:=
 ⟨h.os,h.tape,h.output,h.size,λk hk=>h.old k (by omega) hk⟩
theorem Mach.trans{p:Nat}{s s':MS}{W V w}(h:Mach p s W V)(k:Mach p s' V w):Mach p s' W w where
 good:=k.good
 block:=k.block
 old:=λj hj hl=>by rw[k.old j hj (aF hl h.size)];exact h.old j hj hl
 size:=aO h.size k.size
 os:=k.os.trans h.os
 tape:=k.tape.trans h.tape
 output:=k.output.trans h.output
theorem Mach.self{p:Nat}{s:MS}{W w}(h:Mach p s W w):Mach p s w w:=⟨h.good,h.block,λ_ _ _=>rfl,aE _,rfl,rfl,rfl⟩
theorem Vh(n:Int)(b:Bool)(w)(hb:b=hOk n) :
  Calls aB 249 #[E J n] w λe w'=>e = dB (dF b)/\w=w':=by
 have HB:=Zb hb;clear hb;go_enter func249,ntmps249
 go_wp2_with (go_at_call 117;refine (Y3 _ _ _ b _ HB).mono ?_;rintro e w' ⟨rfl,rfl⟩)
 go_ret;exact⟨rfl,rfl⟩
theorem Po(p:Nat)(s:MS)(W w)(hm:Mach p s W w) :
  Calls aB 277 #[dE (dG ⟨p,0,aD⟩)] w λe w'=>e = dB (dC #[])/\Mach p s.fail W w':=by
 have c1:=hm.cell_f;have c2:=hm.free 18;have HM:=Zb hm;go_enter func277,ntmps277;go_wp2;go_end0;exact⟨rfl,HM.store 18 _ (MS.set_f HM.good true) HM.good.fail_ok⟩
theorem Eb{s:MS}{x:Int}(h:s.n=16\/fit x=false):s.put x=s.fail:=by unfold MS.put;rw[if_pos h];rfl
theorem Ea{s:MS}{x:Int}(h1:s.n≠16)(h2:fit x=true):s.put x={ s with cs:=s.cs.set s.n x,n:=s.n+1 }:=by unfold MS.put;rw[if_neg (by simp[h1,h2])]
theorem Uc(p:Nat)(s:MS)(x:Int)(W w)(hm:Mach p s W w) :
  Calls aB 274 #[dE (dG ⟨p,0,aD⟩),E J x] w λe w'=>e = dB (dC #[])/\Mach p (s.put x) W w':=by
 have hn:=hm.good.2.1;have c1:=hm.cell_n;have HM:=Zb hm;by_cases h1:s.n=16
 ·rw[Eb (Or.inl h1)];rw[h1] at c1;go_enter func274,ntmps274
  go_wp2_with (go_at_call 277;refine (Po p s W _ HM).mono ?_;rintro e w' ⟨rfl,ag⟩)
  first|go_end0|(simp only[bQ,Exit.then];refine aL (results_none rfl _ _ _) rfl ?_)|refine aL (results_none rfl _ _ _) rfl ?_
  exact⟨rfl,by assumption⟩
 ·have g1:((s.n:Int) == 16)=false:=by simp;omega
  by_cases h2:fit x=true
  ·rw[Ea h1 h2];have c2:=hm.cell_s s.n (by omega);have c3:=hm.free s.n;have c4:=hm.free 16
   have c5:((w.setCell ⟨p,s.n,aD⟩ (E J x))).cell? ⟨p,16,aD⟩=dG (E J s.n):=by
    rw[World.cell?_setCell_other]
    ·exact c1
    ·exact λe=>h1 (congrArg Addr.off e)
   have g2:(s.n:Int)<16:=(by omega);obtain⟨H1,H2⟩:=kh2 h1 h2;go_enter func274,ntmps274
   go_wp2_with (go_at_call 273;refine (Pn _ true _ H2.symm).mono ?_;rintro e w' ⟨rfl,rfl⟩)
   go_region
   all_goals go_wp2
   all_goals go_end0
   all_goals
    refine⟨rfl,Mach.drew ?_⟩;have hm:=Za HM;have g:=hm.good.put_ok x;rw[Ea H1 H2] at g;have ad:MS.ok { s with cs:=s.cs.set s.n x }:=⟨g.1,hm.good.2.1,g.2.2⟩;exact (hm.store s.n _ (MS.set_stack hm.good s.n (by omega) x) ad).store 16 _ (MS.set_n ad (s.n+1)) g
  ·have h3:fit x=false:=(by simpa using h2);rw[Eb (Or.inr h3)];have H3:=Zb h3;go_enter func274,ntmps274
   go_wp2_with (first|(go_at_call 273;refine (Pn _ false _ H3.symm).mono ?_;rintro e w' ⟨rfl,rfl⟩)|(go_at_call 277;refine (Po p s W _ HM).mono ?_;rintro e w' ⟨rfl,ag⟩))
   first|go_end0|(simp only[bQ,Exit.then];refine aL (results_none rfl _ _ _) rfl ?_)|refine aL (results_none rfl _ _ _) rfl ?_
   exact⟨rfl,by assumption⟩
theorem Zgb{s:MS}(h:s.n=0):s.take=s.fail:=by unfold MS.take;rw[if_pos h];rfl
theorem Zfz{s:MS}(h:s.n≠0):s.take={ s with n:=s.n - 1 }:=by unfold MS.take;rw[if_neg h]
theorem Zjq{s:MS}(h:s.n=0):s.top=0:=by unfold MS.top;rw[if_pos h]
theorem Zjp{s:MS}(h:s.n≠0):s.top=s.cs.getD (s.n - 1) 0:=by unfold MS.top;rw[if_neg h]
theorem Wu(p:Nat)(s:MS)(W w)(hm:Mach p s W w) :
  Calls aB 294 #[dE (dG ⟨p,0,aD⟩)] w λe w'=>e = dB (E J s.top)/\Mach p s.take W w':=by
 have hn:=hm.good.2.1;have c1:=hm.cell_n;have HM:=Zb hm;by_cases h1:s.n=0
 ·rw[Zgb h1,Zjq h1];rw[h1] at c1;clear hm hn;go_enter func294,ntmps294
  go_wp2_with (go_at_call 277;refine (Po p s W _ HM).mono ?_;rintro e w' ⟨rfl,al⟩)
  go_ret;exact⟨rfl,by assumption⟩
 ·obtain⟨m,ab⟩:∃ m,s.n=m+1:=⟨s.n - 1,by omega⟩;have e1:s.take={ s with n:=m }:=by rw[Zfz h1,ab];rfl
  have e2:s.top=s.cs.getD m 0:=by rw[Zjp h1,ab];rfl
  rw[e1,e2];have g1:(((m:Int)+1) == 0)=false:=by simp;omega
  rw[ab] at c1
  have c2:(w.setCell ⟨p,16,aD⟩ (E J m)).cell? ⟨p,m,aD⟩=dG (E J (s.cs.getD m 0)):=by
   rw[World.cell?_setCell_other]
   ·exact hm.cell_s m (by omega)
   ·exact λe=>absurd (congrArg Addr.off e) (by show ¬(16=m);omega)
  have c3:(w.setCell ⟨p,16,aD⟩ (E J m)).cell? ⟨p,16,aD⟩=dG (E J m):=World.cell?_setCell_same _ _ _ hm.cell_n;have c4:=hm.free 16;have g2:(m:Int)<16:=by omega
  have H1:=Zb ab;obtain⟨t,ht⟩:=ZG (s.cs.getD m 0);rw[<-ht] at c2 ⊢;clear hm h1 ab hn e1 e2 ht;go_enter func294,ntmps294;go_wp2
  go_quiet (fail)
  go_wp2;go_ret;refine⟨rfl,Mach.drewN ?_ _⟩;have hm:=Za HM;have h1:=Za H1;exact hm.store 16 _ (MS.set_n hm.good m) ⟨hm.good.1,by show m<=16;omega,hm.good.2.2⟩
theorem Ed(p:Nat)(s:MS)(a cap W w)(hm:Mach p s W w) :
  Calls aB 266 #[dE (dG ⟨p,0,aD⟩),F a 0 cap] w λe w'=>e = dB (dC #[])/\Mach p s W w':=by
 have HM:=Zb hm;go_enter func266,ntmps266;go_wp2;refine bB 1 ?_;rw[aS];go_wp2;go_end0;exact⟨rfl,Za HM⟩
theorem Ec(p:Nat)(s:MS)(b off len cap:Nat)(Z:List Int)(W w:World)(hm:Mach p s W w)(hp:W.heap.size<=p)(hz:Z.length=len)(hl:len<=aT)
  (hb:b<W.heap.size) (hc:∀ i,i<len->W.cell? ⟨b,off+i,aD⟩=dG (E J (Z.getD i 0))) :
  Calls aB 266 #[dE (dG ⟨p,0,aD⟩),F (dG ⟨b,off,aD⟩) len cap] w λe w'=>e = dB (dC #[])/\∃ s',Mach p s' W w'/\s'.h=s.h/\s'.rep=s.rep.bind (λL=>Yf L Z):=by
 obtain⟨HM,HC,HZ⟩:=kh3 hm hc hz;unfold aT at hl;go_enter func266,ntmps266;go_wp2
 go_loopw [8] (λi wr=>∃ (k:Nat) (s':MS),k<=len/\i = E J k/\Mach p s' W wr/\s'.h=s.h/\s'.rep=s.rep.bind (λL=>Yf L (Z.take k))) (λi _=>len - (intOf i).toNat)
 case atStart=>exact⟨0,s,aI _,rfl,Za HM,rfl,by cases s.rep <;> rfl⟩
 case round=>
  obtain⟨k,s',hk,rfl,hm,hh,hr⟩:=hrel;have ac:=Zb hm;obtain⟨HH,HR⟩:=kh2 hh hr;clear hh hr;by_cases ak:k<len
  ·have c1:wr.cell? ⟨b,off+k,aD⟩=dG (E J (Z.getD k 0)):=(hm.past ⟨b,off+k,aD⟩ (by show b≠p;omega) hb).trans (HC k ak);obtain⟨x,hx⟩:=ZG (Z.getD k 0);rw[<-hx] at c1;have HX:=Zb hx;clear hm hx;go_wp2_with fail;refine (Uc p s' x W _ ac).mono ?_;rintro e w1 ⟨rfl,aw⟩;have ap:=Zb aw;go_wp2;go_roundw
   case rel=>
    refine⟨k+1,s'.put x,by omega,by go_num,Za ap,(MS.put_h _ _).trans HH,?_⟩;have aj:k<Z.length:=(by rw[Za HZ];exact ak);have ex:x=Z[k]:=(by rw[Za HX];simp[aj]);rw[MS.rep_put ac.good,Za HR,aH aj,ex];cases s.rep with
    | none=>rfl
    | some L=>exact (Ls _ _ _).symm
   case measure=>simp[intOf];omega
  ·skip
   go_wp2;go_end0;have e:k=len:=(by omega);subst e;refine⟨rfl,s',Za ac,Za HH,?_⟩;rw[Za HR,<-Za HZ,List.take_length]
theorem Zci(p:Nat)(s:MS)(a len cap Z)(W w:World)(hm:Mach p s W w)(hp:W.heap.size<=p)(hR:RowAt W a len Z) :
  Calls aB 266 #[dE (dG ⟨p,0,aD⟩),F a len cap] w λe w'=>e = dB (dC #[])/\∃ s',Mach p s' W w'/\s'.h=s.h/\s'.rep=s.rep.bind (λL=>Yf L Z):=by
 obtain⟨hz,hl,hc⟩:=hR;by_cases h:len=0
 ·subst h;have e:Z=[]:=aJ.1 hz;subst e;exact (Ed p s a cap W w hm).mono λe w' ⟨x,y⟩=>⟨x,s,y,rfl,by cases s.rep <;> rfl⟩
 ·obtain⟨b,off,rfl,ab⟩:=hc (by omega);exact Ec p s b off len cap Z W w hm hp hz hl (aC _ _ (ab 0 (by omega))) ab
theorem Q0(b:Bool)(w) :
  Calls aB 285 #[dF b] w λe w'=>e = dB (E J (b01 b))/\w=w':=by
 cases b
 all_goals
  go_enter func285,ntmps285;go_wp2;go_ret;exact⟨rfl,rfl⟩
theorem Zsk(a b:Int)(w)(ha:fit a=true)(hb:fit b=true) :
  Calls aB 282 #[E J a,E J b] w λe w'=>e = dB (E J (g2 5 a b))/\w=w':=by
 have h1:=(Xt a).1 ha;have h2:=(Xt b).1 hb;clear ha hb;go_enter func282,ntmps282;go_wp2;go_ret;exact⟨rfl,rfl⟩
theorem Zsj(a b:Int)(w)(ha:fit a=true)(hb:fit b=true) :
  Calls aB 283 #[E J a,E J b] w λe w'=>e = dB (E J (g2 6 a b))/\w=w':=by
 have h1:=(Xt a).1 ha;have h2:=(Xt b).1 hb;clear ha hb;go_enter func283,ntmps283;go_wp2;go_ret;exact⟨rfl,rfl⟩
theorem Zsi(a b:Int)(w) :
  Calls aB 284 #[E J a,E J b] w λe w'=>e = dB (E J (g2 7 a b))/\w=w':=by
 go_enter func284,ntmps284
 go_wp2_with (go_at_call 285;refine (Q0 _ _).mono ?_;rintro e w' ⟨rfl,rfl⟩)
 go_ret;exact⟨rfl,rfl⟩
theorem Zsh(a b:Int)(w) :
  Calls aB 286 #[E J a,E J b] w λe w'=>e = dB (E J (g2 8 a b))/\w=w':=by
 go_enter func286,ntmps286
 go_wp2_with (go_at_call 285;refine (Q0 _ _).mono ?_;rintro e w' ⟨rfl,rfl⟩)
 go_ret;exact⟨rfl,rfl⟩
theorem Zsf(a b:Int)(w) :
  Calls aB 289 #[E J a,E J b] w λe w'=>e = dB (E J (g2 10 a b))/\w=w':=by
 by_cases h:a=0
 ·have h1:(a != 0)=false:=by simp[h]
  have e:g2 10 a b=b01 false:=by simp[g2,h]
  rw[e];clear h e;go_enter func289,ntmps289
  go_wp2_with (go_at_call 285;refine (Q0 _ _).mono ?_;rintro e w' ⟨rfl,rfl⟩)
  go_ret;exact⟨rfl,rfl⟩
 ·have h1:(a != 0)=true:=by simp[h]
  have e:g2 10 a b=b01 (b != 0):=by simp[g2,h1]
  rw[e];clear h e;go_enter func289,ntmps289
  go_wp2_with (go_at_call 285;refine (Q0 _ _).mono ?_;rintro e w' ⟨rfl,rfl⟩)
  go_ret;exact⟨rfl,rfl⟩
theorem Zsg(a:Int)(w) :
  Calls aB 288 #[E J a] w λe w'=>e = dB (E J (g1 9 a))/\w=w':=by
 go_enter func288,ntmps288
 go_wp2_with (go_at_call 285;refine (Q0 _ _).mono ?_;rintro e w' ⟨rfl,rfl⟩)
 go_ret;exact⟨rfl,rfl⟩
theorem Zpi{k:IntKind}{a b:Int}(h:a=b):Ending.returned (.int k a) = dB (.int k b):=by rw[h]
theorem Zqa(a:Int)(w)(ha:fit a=true) :
  Calls aB 292 #[E J a] w λe w'=>e = dB (E J (g1 13 a))/\w=w':=by
 have af:=Zb (Zfe a ha);have h1:=(Xt a).1 ha;clear ha;go_enter func292,ntmps292;go_wp2
 go_loop [3,6] (λr i=>∃ k:Nat,k<=3/\i = E J k/\r = E J (Hz a k)) (λ_ i=>3 - (intOf i).toNat)
 case atStart=>exact⟨0,aI _,rfl,rfl⟩
 case round=>
  obtain⟨k,hk,rfl,rfl⟩:=hrel;obtain⟨b1,b2⟩:=af k;obtain⟨m,hm⟩:=ZG (Hz a k);rw[<-hm] at b1 b2 ⊢;have HM:=Zb hm;clear hm;by_cases ah:k<3
  ·go_wp2
   go_round
   case rel=>
    refine⟨k+1,by omega,by go_num,?_⟩;have:=Za HM;simp only[Hz,<-this]
   case measure=>simp[intOf];omega
  ·go_wp2;go_ret;have e:k=3:=(by omega);subst e;refine⟨Zpi ?_,rfl⟩;have:=Za HM;simp only[g1,Ez,<-this];simp
theorem Zmy(p:Nat)(s:MS)(n:Int)(W w)(hm:Mach p s W w) :
  Calls aB 280 #[dE (dG ⟨p,0,aD⟩),E J n] w λe w'=>e = dB (dC #[])/\Mach p (s.step 4 n) W w':=by
 have HM:=Zb hm;go_enter func280,ntmps280
 go_wp2_with (go_at_call 294;refine (Wu p s W _ HM).mono ?_;rintro e w' ⟨rfl,ac⟩)
 go_end0;exact⟨rfl,by assumption⟩
theorem Ny(p:Nat)(s:MS)(n:Int)(W w)(hm:Mach p s W w) :
  Calls aB 291 #[dE (dG ⟨p,0,aD⟩),E J n] w λe w'=>e = dB (dC #[])/\Mach p (s.step 12 n) W w':=by
 have c1:=hm.cell_h;have HM:=Zb hm;go_enter func291,ntmps291
 go_wp2_with (go_at_call 274;refine (Uc p s _ W _ HM).mono ?_;rintro e w' ⟨rfl,ac⟩)
 go_end0;exact⟨rfl,by assumption⟩
theorem Zqu(p:Nat)(s:MS)(n:Int)(W w)(hm:Mach p s W w) :
  Calls aB 278 #[dE (dG ⟨p,0,aD⟩),E J n] w λe w'=>e = dB (dC #[])/\Mach p (s.step 2 n) W w':=by
 have HM:=Zb hm;go_enter func278,ntmps278;go_wp2_with fail;refine (Wu p s W _ HM).mono ?_;rintro e w1 ⟨rfl,af⟩;have ab:=Zb af;go_wp2_with fail;refine (Uc p s.take _ W _ ab).mono ?_;rintro e w2 ⟨rfl,ag⟩;have ac:=Zb ag;go_wp2_with fail;refine (Uc p (s.take.put s.top) _ W _ ac).mono ?_;rintro e w3 ⟨rfl,ah⟩;have ad:=Zb ah;go_wp2;go_end0;exact⟨rfl,Za ad⟩
theorem Zju(p:Nat)(s:MS)(n:Int)(W w)(hm:Mach p s W w) :
  Calls aB 279 #[dE (dG ⟨p,0,aD⟩),E J n] w λe w'=>e = dB (dC #[])/\Mach p (s.step 3 n) W w':=by
 have HM:=Zb hm;go_enter func279,ntmps279;go_wp2_with fail;refine (Wu p s W _ HM).mono ?_;rintro e w1 ⟨rfl,ag⟩;have ab:=Zb ag;go_wp2_with fail;refine (Wu p s.take W _ ab).mono ?_;rintro e w2 ⟨rfl,ah⟩;have ac:=Zb ah;go_wp2_with fail;refine (Uc p s.take.take _ W _ ac).mono ?_;rintro e w3 ⟨rfl,aj⟩;have ad:=Zb aj;go_wp2_with fail;refine (Uc p (s.take.take.put s.top) _ W _ ad).mono ?_;rintro e w4 ⟨rfl,ak⟩;have ae:=Zb ak;go_wp2;go_end0;exact⟨rfl,Za ae⟩
theorem Zbr(p:Nat)(s:MS)(n:Int)(W w)(hm:Mach p s W w) :
  Calls aB 290 #[dE (dG ⟨p,0,aD⟩),E J n] w λe w'=>e = dB (dC #[])/\Mach p (s.step 11 n) W w':=by
 have HM:=Zb hm;by_cases h:s.top=0
 ·have e0:s.step 11 n=s.take.fail:=by simp[MS.step,h]
  have h1:(s.top == 0)=true:=by simp[h]
  rw[e0];go_enter func290,ntmps290;go_wp2_with fail;refine (Wu p s W _ HM).mono ?_;rintro e w1 ⟨rfl,ac⟩;have aa:=Zb ac;go_wp2_with fail;refine (Po p s.take W _ aa).mono ?_;rintro e w2 ⟨rfl,ag⟩;have ae:=Zb ag;go_wp2;go_end0;exact⟨rfl,Za ae⟩
 ·have e0:s.step 11 n=s.take:=by simp[MS.step,h]
  have h1:(s.top == 0)=false:=by simp[h]
  rw[e0];go_enter func290,ntmps290;go_wp2_with fail;refine (Wu p s W _ HM).mono ?_;rintro e w1 ⟨rfl,ac⟩;have aa:=Zb ac;go_wp2;go_end0;exact⟨rfl,Za aa⟩
theorem Sn{k:Int}{f:Nat}(hk:k=5/\f=282\/k=6/\f=283\/k=7/\f=284\/k=8/\f=286\/k=10/\f=289)(p bm bf:Nat)(s:MS)(n:Int)(W w:World)(hm:Mach p s W w)(h1:bm≠p)(h2:bf≠p)(l1:bm<W.heap.size)(l2:bf<W.heap.size)
  (b1:W.cell? ⟨bm,0,aD⟩=dG (dE (dG ⟨p,0,aD⟩))) (b2:W.cell? ⟨bf,0,aD⟩=dG (.func (.func f) #[] #[])) :
  Calls aB 295 #[E J n,dE (dG ⟨bm,0,aD⟩),dE (dG ⟨bf,0,aD⟩)] w λe w'=>e = dB (dC #[])/\Mach p (s.step k n) W w':=by
 have c0:w.cell? ⟨bm,0,aD⟩=dG (dE (dG ⟨p,0,aD⟩)):=(hm.past _ h1 l1).trans b1;obtain⟨F0,F1,HM⟩:=kh3 hm.good.top_fit hm.good.take_ok.top_fit hm;clear hm
 have hC:∀ a b w,fit a=true->fit b=true->Calls aB f #[E J a,E J b] w λe w'=>e = dB (E J (g2 k a b))/\w=w':=λa b w ha hb=>by
  rcases hk with ⟨rfl,rfl⟩|⟨rfl,rfl⟩|⟨rfl,rfl⟩|⟨rfl,rfl⟩|⟨rfl,rfl⟩
  ·exact Zsk a b w ha hb
  ·exact Zsj a b w ha hb
  ·exact Zsi a b w
  ·exact Zsh a b w
  ·exact Zsf a b w
 go_enter func295,ntmps295;go_wp2_with fail;refine (Wu p s W _ HM).mono ?_;rintro e w1 ⟨rfl,af⟩;have c1:w1.cell? ⟨bm,0,aD⟩=dG (dE (dG ⟨p,0,aD⟩)):=(af.past _ h1 l1).trans b1;have aq:=Zb af;clear af;go_wp2_with fail;refine (Wu p s.take W _ aq).mono ?_;rintro e w2 ⟨rfl,ad⟩;have c2:w2.cell? ⟨bm,0,aD⟩=dG (dE (dG ⟨p,0,aD⟩)):=(ad.past _ h1 l1).trans b1;have c3:w2.cell? ⟨bf,0,aD⟩=dG (.func (.func f) #[] #[]):=(ad.past _ h2 l2).trans b2;have ae:=Zb ad;clear ad c0 c1 b1 b2
 rcases hk with ⟨rfl,rfl⟩|⟨rfl,rfl⟩|⟨rfl,rfl⟩|⟨rfl,rfl⟩|⟨rfl,rfl⟩
 all_goals
  go_wp2
  go_region_with (first|(refine (hC _ _ _ F1 F0).mono ?_;rintro e w' ⟨rfl,rfl⟩)|(go_at_call 274;refine (Uc p s.take.take _ W _ ?_).mono ?_;(first|exact Za ae|exact ae.drew|exact ae.drewN _);rintro e w' ⟨rfl,ay⟩))
  all_goals go_wp2
  all_goals go_end0
  all_goals exact⟨rfl,by assumption⟩
theorem Zsd(p bm bf:Nat)(s:MS)(n:Int)(W w:World)(hm:Mach p s W w)(h1:bm≠p)(h2:bf≠p)(l1:bm<W.heap.size)(l2:bf<W.heap.size)
  (b1:W.cell? ⟨bm,0,aD⟩=dG (dE (dG ⟨p,0,aD⟩))) (b2:W.cell? ⟨bf,0,aD⟩=dG (.func (.func 288) #[] #[])) :
  Calls aB 296 #[E J n,dE (dG ⟨bm,0,aD⟩),dE (dG ⟨bf,0,aD⟩)] w λe w'=>e = dB (dC #[])/\Mach p (s.step 9 n) W w':=by
 have c0:w.cell? ⟨bm,0,aD⟩=dG (dE (dG ⟨p,0,aD⟩)):=(hm.past _ h1 l1).trans b1;have c1:w.cell? ⟨bf,0,aD⟩=dG (.func (.func 288) #[] #[]):=(hm.past _ h2 l2).trans b2;obtain⟨F0,HM,B1,B2⟩:=kh4 hm.good.top_fit hm b1 b2;clear hm b1 b2;go_enter func296,ntmps296
 go_region_with (first|(go_at_call 294;refine (Wu p s W _ ?_).mono ?_;(first|exact Za HM|exact HM.drew|exact HM.drewN _);rintro e w1 ⟨rfl,ac⟩;have c2:=(ac.past ⟨bm,0,aD⟩ h1 l1).trans B1;have c3:=(ac.past ⟨bf,0,aD⟩ h2 l2).trans B2;replace ac:=Zb ac)|(go_at_call 288;refine (Zsg _ _).mono ?_;rintro e w' ⟨rfl,rfl⟩)|(go_at_call 274;refine (Uc p s.take _ W _ ?_).mono ?_;exact Za ac;rintro e w' ⟨rfl,ap⟩))
 all_goals go_wp2
 all_goals go_end0
 all_goals exact⟨rfl,by assumption⟩
theorem Zpv(p bm bf:Nat)(s:MS)(n:Int)(W w:World)(hm:Mach p s W w)(h1:bm≠p)(h2:bf≠p)(l1:bm<W.heap.size)(l2:bf<W.heap.size)
  (b1:W.cell? ⟨bm,0,aD⟩=dG (dE (dG ⟨p,0,aD⟩))) (b2:W.cell? ⟨bf,0,aD⟩=dG (.func (.func 292) #[] #[])) :
  Calls aB 296 #[E J n,dE (dG ⟨bm,0,aD⟩),dE (dG ⟨bf,0,aD⟩)] w λe w'=>e = dB (dC #[])/\Mach p (s.step 13 n) W w':=by
 have c0:w.cell? ⟨bm,0,aD⟩=dG (dE (dG ⟨p,0,aD⟩)):=(hm.past _ h1 l1).trans b1;have c1:w.cell? ⟨bf,0,aD⟩=dG (.func (.func 292) #[] #[]):=(hm.past _ h2 l2).trans b2;obtain⟨F0,HM,B1,B2⟩:=kh4 hm.good.top_fit hm b1 b2;clear hm b1 b2;go_enter func296,ntmps296
 go_region_with (first|(go_at_call 294;refine (Wu p s W _ ?_).mono ?_;(first|exact Za HM|exact HM.drew|exact HM.drewN _);rintro e w1 ⟨rfl,ac⟩;have c2:=(ac.past ⟨bm,0,aD⟩ h1 l1).trans B1;have c3:=(ac.past ⟨bf,0,aD⟩ h2 l2).trans B2;replace ac:=Zb ac)|(go_at_call 292;refine (Zqa _ _ F0).mono ?_;rintro e w' ⟨rfl,rfl⟩)|(go_at_call 274;refine (Uc p s.take _ W _ ?_).mono ?_;exact Za ac;rintro e w' ⟨rfl,ap⟩))
 all_goals go_wp2
 all_goals go_end0
 all_goals exact⟨rfl,by assumption⟩
structure Boxed(p b:Nat)(f:Value)(w:World):Prop where
 lt:b+1<w.heap.size
 n0:b≠p
 n1:b+1≠p
 c0:w.cell? ⟨b,0,aD⟩=dG (dE (dG ⟨p,0,aD⟩))
 c1:w.cell? ⟨b+1,0,aD⟩=dG f
theorem Boxed.later{p b:Nat}{f w w'}(h:Boxed p b f w){B:Nat}(hb:Below B w w')(hB:b+1<B):Boxed p b f w':=
 ⟨aF h.lt hb.size,h.n0,h.n1,(hb.cell (p:=⟨b,0,aD⟩) (Nat.lt_of_succ_lt hB)).trans h.c0,(hb.cell (p:=⟨b+1,0,aD⟩) hB).trans h.c1⟩
theorem F3(p:Nat)(f)(w:World)(t u:aY)(hp:p<w.heap.size):Boxed p w.heap.size f ((w.alloc (dA #[dE (dG ⟨p,0,aD⟩)] t)).alloc (dA #[f] u)) where
 lt:=by simp
 n0:=by omega
 n1:=by omega
 c0:=by
  rw[World.cell?_alloc_past _ _ _ (by simp),bG _ _ _ _ rfl];rfl
 c1:=by
  rw[bG _ _ _ _ (by simp)];rfl
theorem Di(w:World)(o u:Obj):ZD w ((w.alloc o).alloc u):=
 ((Below.refl _ _).alloc (aE _) _).alloc (by simp) _
def Zdx(b:Nat):Value:=.func (.func 295) #[] #[dE (dG ⟨b,0,aD⟩),dE (dG ⟨b+1,0,aD⟩)]
def Zqy(b:Nat):Value:=.func (.func 296) #[] #[dE (dG ⟨b,0,aD⟩),dE (dG ⟨b+1,0,aD⟩)]
def met(p:Nat)(k:Nat):Value:=.func (.func k) #[dE (dG ⟨p,0,aD⟩)] #[]
theorem Ky(p b:Nat)(f:Fn)(w:World)(hp:p<w.heap.size)(hb:w.heap.size=b) :
  Calls aB 281 #[dE (dG ⟨p,0,aD⟩),.func f #[] #[]] w λe w'=>e = dB (.func (.func 295) #[] #[dE (dG ⟨b,0,aD⟩),dE (dG ⟨b+1,0,aD⟩)])/\Boxed p b (.func f #[] #[]) w'/\w'.heap.size=b+2/\Below b w w':=by
 subst hb;have HP:=Zb hp;have ad:∀ (fn:Fn) (first cap:Array Value) (w:World),(Instr.makeFunc fn first cap).run aB w = .ok (.func fn first cap) w:=λ_ _ _ _=>rfl;go_enter func281,ntmps281;go_wp2;go_ret;exact⟨rfl,F3 p _ w _ _ HP,by simp,Di _ _ _⟩
theorem Zlv(p b:Nat)(f:Fn)(w:World)(hp:p<w.heap.size)(hb:w.heap.size=b) :
  Calls aB 287 #[dE (dG ⟨p,0,aD⟩),.func f #[] #[]] w λe w'=>e = dB (.func (.func 296) #[] #[dE (dG ⟨b,0,aD⟩),dE (dG ⟨b+1,0,aD⟩)])/\Boxed p b (.func f #[] #[]) w'/\w'.heap.size=b+2/\Below b w w':=by
 subst hb;have HP:=Zb hp;have ad:∀ (fn:Fn) (first cap:Array Value) (w:World),(Instr.makeFunc fn first cap).run aB w = .ok (.func fn first cap) w:=λ_ _ _ _=>rfl;go_enter func287,ntmps287;go_wp2;go_ret;exact⟨rfl,F3 p _ w _ _ HP,by simp,Di _ _ _⟩
def Tv(p b:Nat):Array Value:=#[.nilFunc,met p 274,met p 278,met p 279,met p 280,Zdx b,Zdx (b+2),Zdx (b+4),Zdx (b+6),Zqy (b+8),Zdx (b+10),met p 290,met p 291,Zqy (b+12)]
structure Boxes(p b:Nat)(w:World):Prop where
 x5:Boxed p b (.func (.func 282) #[] #[]) w
 x6:Boxed p (b+2) (.func (.func 283) #[] #[]) w
 x7:Boxed p (b+4) (.func (.func 284) #[] #[]) w
 x8:Boxed p (b+6) (.func (.func 286) #[] #[]) w
 x9:Boxed p (b+8) (.func (.func 288) #[] #[]) w
 x10:Boxed p (b+10) (.func (.func 289) #[] #[]) w
 x13:Boxed p (b+12) (.func (.func 292) #[] #[]) w
def Mw(g:Nat):List Value->Nat->World->World
 | [],_,w=>w
 | v :: r,i,w=>Mw g r (i+1) (w.setCell ⟨g,i,aD⟩ v)
def Zmt:List Value->Nat->Array Value->Array Value
 | [],_,c=>c
 | v :: r,i,c=>Zmt r (i+1) (c.setIfInBounds i v)
theorem Hi(g:Nat)(t:aY):∀ (vs:List Value) (i:Nat) (w:World) (c:Array Value),w.heap[g]? = dG (dA c t (0,0))->(Mw g vs i w).heap[g]? = dG (dA (Zmt vs i c) t (0,0))
 | [],_,_,_,h=>h
 | v :: r,i,w,c,h=>Hi g t r (i+1) _ _ (heap_setCell_same w g i c t v h)
theorem Rh(g k:Nat)(hk:k≠g):∀ (vs:List Value) (i:Nat) (w:World),(Mw g vs i w).heap[k]? = w.heap[k]?
 | [],_,_=>rfl
 | v :: r,i,w=>(Rh g k hk r (i+1) _).trans (heap_setCell_other w ⟨g,i,aD⟩ k v hk)
theorem Hj(g:Nat):∀ (vs:List Value) (i:Nat) (B:Nat) (W w:World),Below B W w->B<=g->Below B W (Mw g vs i w)
 | [],_,_,_,_,h,_=>h
 | v :: r,i,B,W,_,h,hg=>Hj g r (i+1) B W _ (h.setCell (p:=⟨g,i,aD⟩) hg v) hg
theorem Mv(g:Nat):∀ (vs:List Value) (i:Nat) (w:World),(Mw g vs i w).heap.size=w.heap.size
 | [],_,_=>rfl
 | _ :: r,i,_=>(Mv g r (i+1) _).trans (World.size_setCell _ _ _)
theorem Zct(g:Nat)(t:aY)(w:World)(v0 v1 v2 v3 v4 v5 v6 v7 v8 v9 aa ab ac ad)(h:w.heap[g]? = dG (dA #[.nilFunc,.nilFunc,.nilFunc,.nilFunc,.nilFunc,.nilFunc,.nilFunc,.nilFunc,.nilFunc,.nilFunc,.nilFunc,.nilFunc,.nilFunc,.nilFunc] t (0,0))) :
  (((((((((((((((w.setCell ⟨g,0,aD⟩ v0).setCell ⟨g,1,aD⟩ v1).setCell ⟨g,2,aD⟩ v2).setCell ⟨g,3,aD⟩ v3).setCell ⟨g,4,aD⟩ v4).setCell ⟨g,5,aD⟩ v5).setCell ⟨g,6,aD⟩ v6).setCell ⟨g,7,aD⟩ v7).setCell ⟨g,8,aD⟩ v8).setCell ⟨g,9,aD⟩ v9).setCell ⟨g,10,aD⟩ aa).setCell ⟨g,11,aD⟩ ab).setCell ⟨g,12,aD⟩ ac).setCell ⟨g,13,aD⟩ ad)).heap[g]? = dG (dA #[v0,v1,v2,v3,v4,v5,v6,v7,v8,v9,aa,ab,ac,ad] t (0,0)):=by
 have e:=Hi g t [v0,v1,v2,v3,v4,v5,v6,v7,v8,v9,aa,ab,ac,ad] 0 w _ h;simp only[Mw,Zmt,Nat.reduceAdd] at e;simpa using e
theorem Zcu(g:Nat)(W w:World)(v0 v1 v2 v3 v4 v5 v6 v7 v8 v9 aa ab ac ad)(B:Nat)(h:Below B W w)(hB:B<=g):Below B W (((((((((((((((w.setCell ⟨g,0,aD⟩ v0).setCell ⟨g,1,aD⟩ v1).setCell ⟨g,2,aD⟩ v2).setCell ⟨g,3,aD⟩ v3).setCell ⟨g,4,aD⟩ v4).setCell ⟨g,5,aD⟩ v5).setCell ⟨g,6,aD⟩ v6).setCell ⟨g,7,aD⟩ v7).setCell ⟨g,8,aD⟩ v8).setCell ⟨g,9,aD⟩ v9).setCell ⟨g,10,aD⟩ aa).setCell ⟨g,11,aD⟩ ab).setCell ⟨g,12,aD⟩ ac).setCell ⟨g,13,aD⟩ ad)):=Hj g [v0,v1,v2,v3,v4,v5,v6,v7,v8,v9,aa,ab,ac,ad] 0 B W w h hB
theorem Vb(g:Nat)(w:World)(v0 v1 v2 v3 v4 v5 v6 v7 v8 v9 aa ab ac ad){p b:Nat}{f}(h:Boxed p b f w)(hg:g<b):Boxed p b f (((((((((((((((w.setCell ⟨g,0,aD⟩ v0).setCell ⟨g,1,aD⟩ v1).setCell ⟨g,2,aD⟩ v2).setCell ⟨g,3,aD⟩ v3).setCell ⟨g,4,aD⟩ v4).setCell ⟨g,5,aD⟩ v5).setCell ⟨g,6,aD⟩ v6).setCell ⟨g,7,aD⟩ v7).setCell ⟨g,8,aD⟩ v8).setCell ⟨g,9,aD⟩ v9).setCell ⟨g,10,aD⟩ aa).setCell ⟨g,11,aD⟩ ab).setCell ⟨g,12,aD⟩ ac).setCell ⟨g,13,aD⟩ ad)):=
 have e0:=Rh g b (by omega) [v0,v1,v2,v3,v4,v5,v6,v7,v8,v9,aa,ab,ac,ad] 0 w;have e1:=Rh g (b+1) (by omega) [v0,v1,v2,v3,v4,v5,v6,v7,v8,v9,aa,ab,ac,ad] 0 w;have e2:=Mv g [v0,v1,v2,v3,v4,v5,v6,v7,v8,v9,aa,ab,ac,ad] 0 w
 by
 simp only[Mw,Nat.reduceAdd] at e0 e1 e2;refine⟨Nat.lt_of_lt_of_eq h.lt e2.symm,h.n0,h.n1,Eq.trans (b:=w.cell? ⟨b,0,aD⟩) ?_ h.c0,Eq.trans (b:=w.cell? ⟨b+1,0,aD⟩) ?_ h.c1⟩
 ·exact bU (w:=w) e0
 ·exact bU (w:=w) e1
theorem Tryz.size365:(Tryz.prog.info? 365).map (·.size)=dG 14:=by kernel_rfl
set_option maxRecDepth 100000 in
theorem L5(p:Nat)(w:World)(hp:p<w.heap.size) :
  Calls aB 275 #[dE (dG ⟨p,0,aD⟩)] w λe w'=>e = dB (.agg (Tv p (w.heap.size+1)))/\Boxes p (w.heap.size+1) w'/\ZD w w':=by
 have dn:∀ (fn:Fn) (first cap:Array Value) (w:World),(Instr.makeFunc fn first cap).run aB w = .ok (.func fn first cap) w:=λ_ _ _ _=>rfl;have HP:=Zb hp;go_enter func275,ntmps275;go_wp2_with fail;refine (Ky p (w.heap.size+1) _ _ (by have:=Za HP;simp;omega) (by simp)).mono ?_;rintro e w1 ⟨rfl,x5,s1,b1⟩;obtain⟨HB,S1,X5⟩:=kh3 b1 s1 x5;have H0:Hid (w1.heap[w.heap.size]? = dG (dA #[.nilFunc,.nilFunc,.nilFunc,.nilFunc,.nilFunc,.nilFunc,.nilFunc,.nilFunc,.nilFunc,.nilFunc,.nilFunc,.nilFunc,.nilFunc,.nilFunc] 365 (0,0))):=(HB.block _ (by omega)).trans (aG _ _);go_wp2_with fail;refine (Ky p (w.heap.size+3) _ _ (by have:=Za HP;have:=Za S1;omega) (by have:=Za S1;omega)).mono ?_;rintro e w2 ⟨rfl,x6,s2,b2⟩;obtain⟨B2,S2,X6⟩:=kh3 b2 s2 x6;go_wp2_with fail;refine (Ky p (w.heap.size+5) _ _ (by have:=Za HP;have:=Za S2;omega) (by have:=Za S2;omega)).mono ?_;rintro e w3 ⟨rfl,x7,s3,b3⟩;obtain⟨B3,S3,X7⟩:=kh3 b3 s3 x7;go_wp2_with fail;refine (Ky p (w.heap.size+7) _ _ (by have:=Za HP;have:=Za S3;omega) (by have:=Za S3;omega)).mono ?_;rintro e w4 ⟨rfl,x8,s4,b4⟩;obtain⟨B4,S4,X8⟩:=kh3 b4 s4 x8;go_wp2_with fail;refine (Zlv p (w.heap.size+9) _ _ (by have:=Za HP;have:=Za S4;omega) (by have:=Za S4;omega)).mono ?_;rintro e w5 ⟨rfl,x9,s5,b5⟩;obtain⟨B5,S5,X9⟩:=kh3 b5 s5 x9;go_wp2_with fail;refine (Ky p (w.heap.size+11) _ _ (by have:=Za HP;have:=Za S5;omega) (by have:=Za S5;omega)).mono ?_;rintro e w6 ⟨rfl,x10,s6,b6⟩;obtain⟨B6,S6,be⟩:=kh3 b6 s6 x10;go_wp2_with fail
 refine (Zlv p (w.heap.size+13) _ _ (by have:=Za HP;have:=Za S6;omega) (by have:=Za S6;omega)).mono ?_;rintro e w7 ⟨rfl,x13,s7,b7⟩;obtain⟨B7,S7,bf⟩:=kh3 b7 s7 x13
 have bs:Below (w.heap.size+1) (w.alloc (dA #[.nilFunc,.nilFunc,.nilFunc,.nilFunc,.nilFunc,.nilFunc,.nilFunc,.nilFunc,.nilFunc,.nilFunc,.nilFunc,.nilFunc,.nilFunc,.nilFunc] 365)) w7:=
  HB.trans ((B2.mono (by omega)).trans ((B3.mono (by omega)).trans ((B4.mono (by omega)).trans ((B5.mono (by omega)).trans ((B6.mono (by omega)).trans (B7.mono (by omega)))))))
 have BS:=Zb bs;have h0:w7.heap[w.heap.size]? = dG (dA #[.nilFunc,.nilFunc,.nilFunc,.nilFunc,.nilFunc,.nilFunc,.nilFunc,.nilFunc,.nilFunc,.nilFunc,.nilFunc,.nilFunc,.nilFunc,.nilFunc] 365 (0,0)):=(bs.block _ (by omega)).trans (aG _ _);have H7:=Zb h0;have dp:=λ(a:Addr) (fn:Fn) (fs cs:Array Value) (w:World)=>run_store aB w a (.func fn fs cs) .plain rfl;have dq:=λ(a:Addr) (w:World)=>run_store aB w a .nilFunc .plain rfl;have z0:w7.cell? ⟨w.heap.size,0,aD⟩=dG .nilFunc:=cell_of_row _ _ 0 _ _ _ H7;have f0:w7.frozen? ⟨w.heap.size,0,aD⟩=false:=frozen_of_row _ _ 0 _ _ H7;have z1:w7.cell? ⟨w.heap.size,1,aD⟩=dG .nilFunc:=cell_of_row _ _ 1 _ _ _ H7;have f1:w7.frozen? ⟨w.heap.size,1,aD⟩=false:=frozen_of_row _ _ 1 _ _ H7;have z2:w7.cell? ⟨w.heap.size,2,aD⟩=dG .nilFunc:=cell_of_row _ _ 2 _ _ _ H7;have f2:w7.frozen? ⟨w.heap.size,2,aD⟩=false:=frozen_of_row _ _ 2 _ _ H7;have z3:w7.cell? ⟨w.heap.size,3,aD⟩=dG .nilFunc:=cell_of_row _ _ 3 _ _ _ H7;have f3:w7.frozen? ⟨w.heap.size,3,aD⟩=false:=frozen_of_row _ _ 3 _ _ H7;have z4:w7.cell? ⟨w.heap.size,4,aD⟩=dG .nilFunc:=cell_of_row _ _ 4 _ _ _ H7;have f4:w7.frozen? ⟨w.heap.size,4,aD⟩=false:=frozen_of_row _ _ 4 _ _ H7;have z5:w7.cell? ⟨w.heap.size,5,aD⟩=dG .nilFunc:=cell_of_row _ _ 5 _ _ _ H7;have f5:w7.frozen? ⟨w.heap.size,5,aD⟩=false:=frozen_of_row _ _ 5 _ _ H7;have z6:w7.cell? ⟨w.heap.size,6,aD⟩=dG .nilFunc:=cell_of_row _ _ 6 _ _ _ H7
 have f6:w7.frozen? ⟨w.heap.size,6,aD⟩=false:=frozen_of_row _ _ 6 _ _ H7;have z7:w7.cell? ⟨w.heap.size,7,aD⟩=dG .nilFunc:=cell_of_row _ _ 7 _ _ _ H7;have f7:w7.frozen? ⟨w.heap.size,7,aD⟩=false:=frozen_of_row _ _ 7 _ _ H7;have z8:w7.cell? ⟨w.heap.size,8,aD⟩=dG .nilFunc:=cell_of_row _ _ 8 _ _ _ H7;have f8:w7.frozen? ⟨w.heap.size,8,aD⟩=false:=frozen_of_row _ _ 8 _ _ H7;have z9:w7.cell? ⟨w.heap.size,9,aD⟩=dG .nilFunc:=cell_of_row _ _ 9 _ _ _ H7;have f9:w7.frozen? ⟨w.heap.size,9,aD⟩=false:=frozen_of_row _ _ 9 _ _ H7;have dv:w7.cell? ⟨w.heap.size,10,aD⟩=dG .nilFunc:=cell_of_row _ _ 10 _ _ _ H7;have db:w7.frozen? ⟨w.heap.size,10,aD⟩=false:=frozen_of_row _ _ 10 _ _ H7;have dw:w7.cell? ⟨w.heap.size,11,aD⟩=dG .nilFunc:=cell_of_row _ _ 11 _ _ _ H7;have dc:w7.frozen? ⟨w.heap.size,11,aD⟩=false:=frozen_of_row _ _ 11 _ _ H7;have dx:w7.cell? ⟨w.heap.size,12,aD⟩=dG .nilFunc:=cell_of_row _ _ 12 _ _ _ H7;have dd:w7.frozen? ⟨w.heap.size,12,aD⟩=false:=frozen_of_row _ _ 12 _ _ H7;have dy:w7.cell? ⟨w.heap.size,13,aD⟩=dG .nilFunc:=cell_of_row _ _ 13 _ _ _ H7;have de:w7.frozen? ⟨w.heap.size,13,aD⟩=false:=frozen_of_row _ _ 13 _ _ H7;go_wp2;refine aL (v:=.agg (Tv p (w.heap.size+1))) (results_cell_row rfl _ _ w.heap.size 365 (Tv p (w.heap.size+1)) (0,0) _ rfl (Zct _ _ _ _ _ _ _ _ _ _ _ _ _ _ _ _ _ H7) underlying365 rfl Tryz.size365) rfl ⟨rfl,?_,?_⟩
 ·have t2:=Za B2;have t3:=Za B3;have t4:=Za B4;have t5:=Za B5;have t6:=Za B6;have t7:=Za B7;have y5:=(((((X5.later t2 (by omega)).later t3 (by omega)).later t4 (by omega)).later t5 (by omega)).later t6 (by omega)).later t7 (by omega);have y6:=((((X6.later t3 (by omega)).later t4 (by omega)).later t5 (by omega)).later t6 (by omega)).later t7 (by omega);have y7:=(((X7.later t4 (by omega)).later t5 (by omega)).later t6 (by omega)).later t7 (by omega);have y8:=((X8.later t5 (by omega)).later t6 (by omega)).later t7 (by omega);have y9:=(X9.later t6 (by omega)).later t7 (by omega);have cm:=be.later t7 (by omega);have cn:=Za bf;exact⟨Vb _ _ _ _ _ _ _ _ _ _ _ _ _ _ _ _ y5 (by omega),Vb _ _ _ _ _ _ _ _ _ _ _ _ _ _ _ _ y6 (by omega),Vb _ _ _ _ _ _ _ _ _ _ _ _ _ _ _ _ y7 (by omega),Vb _ _ _ _ _ _ _ _ _ _ _ _ _ _ _ _ y8 (by omega),Vb _ _ _ _ _ _ _ _ _ _ _ _ _ _ _ _ y9 (by omega),Vb _ _ _ _ _ _ _ _ _ _ _ _ _ _ _ _ cm (by omega),Vb _ _ _ _ _ _ _ _ _ _ _ _ _ _ _ _ cn (by omega)⟩
 ·exact Zcu _ _ _ _ _ _ _ _ _ _ _ _ _ _ _ _ _ _ (((Below.refl _ w).alloc (aE _) _).trans (BS.mono (by omega))) (aE _)
theorem Boxes.alloc{p b:Nat}{w:World}(h:Boxes p b w)(o:Obj):Boxes p b (w.alloc o):=
 have hb:=(Below.refl w.heap.size w).alloc (aE _) o
 ⟨h.x5.later hb h.x5.lt,h.x6.later hb h.x6.lt,h.x7.later hb h.x7.lt,h.x8.later hb h.x8.lt,h.x9.later hb h.x9.lt,h.x10.later hb h.x10.lt,h.x13.later hb h.x13.lt⟩
structure Ready(p g b bl off len:Nat)(l:List (Int×Int))(V:World):Prop where
 arr:V.heap[g]? = dG (dA (Tv p b) 365 (0,0))
 ng:g≠p
 box:Boxes p b V
 nl:bl≠p
 ll:bl<V.heap.size
 cells:∀ i,i<len->V.cell? ⟨bl,off+i*2,aD⟩=dG (E J (l.getD i (0,0)).1)/\V.cell? ⟨bl,off+i*2+1,aD⟩=dG (E J (l.getD i (0,0)).2)
theorem Ready.fn{p g b bl off len:Nat}{l}{V wr:World}{s:MS}(h:Ready p g b bl off len l V)(hm:Mach p s V wr)(j:Nat):wr.cell? ⟨g,j,aD⟩=(Tv p b)[j]?:=
 (hm.past ⟨g,j,aD⟩ h.ng (aA h.arr)).trans (cell_of_row _ _ _ _ _ _ h.arr)
theorem Ready.lt{p g b bl off len:Nat}{l}{V wr:World}{s:MS}(h:Ready p g b bl off len l V)(hm:Mach p s V wr):g<wr.heap.size:=aF (aA h.arr) hm.size
theorem Zit{k n:Int}(h:Xd (k,n)=0):k=1\/k=2\/k=3\/k=4\/k=5\/k=6\/k=7\/k=8\/k=9\/k=10\/k=11\/k=12\/k=13:=by
 unfold Xd at h;split at h
 ·cases h
 ·rename_i h1;simp only[not_or] at h1;omega
theorem Zgp(h:Int)(l)(o:Int×Int)(L):Y9 h (l++[o]) L=(Y9 h l L).bind (Ym h o.1 o.2):=by
 rw[Uj];cases Y9 h l L with
 | none=>rfl
 | some M=>simp[Y9]
theorem Zkz{s s':MS}{h:Int}{l:List (Int×Int)}{k:Nat}{q:Int×Int}(hk:k<l.length)(hq:q=l[k])(ad:s'.ok)(hh:s'.h=h)
  (hr:s'.rep=s.rep.bind (Y9 h (l.take k))):(s'.step q.1 q.2).rep=s.rep.bind (Y9 h (l.take (k+1))):=by
 rw[MS.rep_step ad,hr,hh,aH hk,<-hq];cases s.rep with
 | none=>rfl
 | some L=>exact (Zgp h _ q L).symm
theorem Zla{s s':MS}{h:Int}{l:List (Int×Int)}{k:Nat}(hf:s'.f=true)(hr:s'.rep=s.rep.bind (Y9 h (l.take k))):s'.rep=s.rep.bind (Y9 h l):=by
 have e:s'.rep=aD:=by unfold MS.rep;rw[hf];rfl
 rw[e] at hr ⊢;cases hs:s.rep with
 | none=>rfl
 | some L=>
  rw[hs] at hr;have h1:Y9 h (l.take k) L=aD:=hr.symm;have h2:Y9 h (l.take k++l.drop k) L=aD:=by rw[Uj,h1];rfl
  rw[List.take_append_drop] at h2;exact h2.symm
set_option maxRecDepth 10000 in
theorem Zks(p:Nat)(s:MS)(bl off len cap:Nat)(l:List (Int×Int))(W w:World)(hm:Mach p s W w)(hp:W.heap.size<=p)(hz:l.length=len)(h16:len<=16)(bo:V8 l=0)
  (av:bl<W.heap.size) (hc:∀ i,i<len->W.cell? ⟨bl,off+i*2,aD⟩=dG (E J (l.getD i (0,0)).1)/\W.cell? ⟨bl,off+i*2+1,aD⟩=dG (E J (l.getD i (0,0)).2)) :
  Calls aB 267 #[dE (dG ⟨p,0,aD⟩),F (dG ⟨bl,off,aD⟩) len cap] w λe w'=>e = dB (dC #[])/\∃ s',Mach p s' W w'/\s'.h=s.h/\s'.rep=s.rep.bind (Y9 s.h l):=by
 obtain⟨HM,HC,HZ,HK⟩:=kh4 hm hc hz (Rj bo);have ay:=hm.lt;clear hm hc hz bo;go_enter func267,ntmps267;go_wp2_with fail;refine (L5 p w ay).mono ?_;rintro e w1 ⟨rfl,bj,ah⟩;have cm:=run_storeCells_new (P:=aB) w1 365 #[.nilFunc,.nilFunc,.nilFunc,.nilFunc,.nilFunc,.nilFunc,.nilFunc,.nilFunc,.nilFunc,.nilFunc,.nilFunc,.nilFunc,.nilFunc,.nilFunc] (Tv p (w.heap.size+1)) Tryz.size365 rfl (by simp[Tv,met,Zqy,Zdx,Value.oneCell']);have cn:(Tv p (w.heap.size+1)).size=14:=rfl;have cw:p<w1.heap.size:=aF ay ah.size
 have RD:Hid (Ready p w1.heap.size (w.heap.size+1) bl off len l (w1.alloc (dA (Tv p (w.heap.size+1)) 365))):={
  arr:=aG _ _
  ng:=by omega
  box:=bj.alloc _
  nl:=by omega
  ll:=by have:=ah.size;have:=HM.size;simp;omega
  cells:=λi hi=>by
   have al:bl<w.heap.size:=aF av HM.size;have bv:bl<w1.heap.size:=aF al ah.size;have hc:=HC i hi;refine⟨?_,?_⟩
   ·rw[World.cell?_alloc_past _ _ _ bv,ah.cell (p:=⟨bl,off+i*2,aD⟩) al,(Za HM).past ⟨bl,off+i*2,aD⟩ (by show bl≠p;omega) av];exact hc.1
   ·rw[World.cell?_alloc_past _ _ _ bv,ah.cell (p:=⟨bl,off+i*2+1,aD⟩) al,(Za HM).past ⟨bl,off+i*2+1,aD⟩ (by show bl≠p;omega) av];exact hc.2 }
 have bx:Mach p s W w1:=⟨HM.good,(ah.block p ay).trans HM.block,λk hk hl=>(ah.block k (aF hl HM.size)).trans (HM.old k hk hl),aO HM.size ah.size,ah.os.trans HM.os,ah.tape.trans HM.tape,ah.output.trans HM.output⟩;have ap:=Zb (bx.alloc (dA (Tv p (w.heap.size+1)) 365));clear bj ah bx;go_wp2;clear cm cn;obtain⟨g,hg⟩:=ZG (w1.heap.size);obtain⟨b,hb⟩:=ZG (w.heap.size+1);obtain⟨V,hV⟩:=ZG (w1.alloc (dA (Tv p (w.heap.size+1)) 365));rw[<-hV] at ap RD ⊢;rw[<-hg,<-hb] at RD;rw[<-hg];clear hg hb hV
 go_loopw [11] (λi wr=>∃ (k:Nat) (s':MS),k<=len/\i = E J k/\Mach p s' V wr/\s'.h=s.h/\s'.rep=s.rep.bind (Y9 s.h (l.take k))) (λi _=>len - (intOf i).toNat)
 case atStart=>exact⟨0,s,aI _,rfl,ap.self,rfl,by cases s.rep <;> rfl⟩
 case round=>
  obtain⟨k,s',hk,rfl,hm,hh,hr⟩:=hrel;have ad:=Zb hm;obtain⟨HH,HR⟩:=kh2 hh hr;have cu:=hm.lt;have cq:=RD.lt hm;have bg:=hm.cell_f;clear hh hr;by_cases al:k<len
  ·have ax:k<l.length:=(by rw[Za HZ];exact al);obtain⟨c1,c2⟩:=RD.cells k al;rw[<-hm.past ⟨bl,off+k*2,aD⟩ RD.nl RD.ll] at c1;rw[<-hm.past ⟨bl,off+k*2+1,aD⟩ RD.nl RD.ll] at c2;obtain⟨q,hq⟩:=ZG (l.getD k (0,0));rw[<-hq] at c1 c2;have bd:q=l[k]:=(by rw[hq];simp[ax]);have ar:=HK k ax;rw[<-bd] at ar;have HQ:=Zb bd;clear hm hq bd;obtain⟨kd,n⟩:=q;have aq:=Zb (ad.alloc (dA #[E J kd,E J n] 139));cases hf:s'.f with
   | true=>
    rw[hf] at bg;have HF:=Zb hf;clear hf ar;go_wp2
    first|go_end0|(simp only[bQ,Exit.then];refine aL (results_none rfl _ _ _) rfl ?_)|refine aL (results_none rfl _ _ _) rfl ?_
    exact⟨rfl,s',ap.trans aq,Za HH,Zla HF HR⟩
   | false=>
   rw[hf] at bg;clear hf;have cl:=Zit ar;obtain⟨k0,bs⟩:=ZG (kd);have cf:=Zb bs;clear bs;clear ar
   rcases cl with rfl|rfl|rfl|rfl|rfl|rfl|rfl|rfl|rfl|rfl|rfl|rfl|rfl
   focus
    have cx:wr.cell? ⟨g,1,aD⟩=dG (.func (.func 274) #[dE (dG ⟨p,0,aD⟩)] #[]):=RD.fn ad 1;have CA:=Zb λ(V':World) (hv:Mach p s' V V')=>Uc p s' n V V' hv
   rotate_left
   focus
    have cx:wr.cell? ⟨g,2,aD⟩=dG (.func (.func 278) #[dE (dG ⟨p,0,aD⟩)] #[]):=RD.fn ad 2;have CA:=Zb λ(V':World) (hv:Mach p s' V V')=>Zqu p s' n V V' hv
   rotate_left
   focus
    have cx:wr.cell? ⟨g,3,aD⟩=dG (.func (.func 279) #[dE (dG ⟨p,0,aD⟩)] #[]):=RD.fn ad 3;have CA:=Zb λ(V':World) (hv:Mach p s' V V')=>Zju p s' n V V' hv
   rotate_left
   focus
    have cx:wr.cell? ⟨g,4,aD⟩=dG (.func (.func 280) #[dE (dG ⟨p,0,aD⟩)] #[]):=RD.fn ad 4;have CA:=Zb λ(V':World) (hv:Mach p s' V V')=>Zmy p s' n V V' hv
   rotate_left
   focus
    have cx:wr.cell? ⟨g,5,aD⟩=dG (.func (.func 295) #[] #[dE (dG ⟨b,0,aD⟩),dE (dG ⟨b+1,0,aD⟩)]):=RD.fn ad 5;have CA:=Zb λ(V':World) (hv:Mach p s' V V')=>Sn (.inl ⟨rfl,rfl⟩) p b (b+1) s' n V V' hv RD.box.x5.n0 RD.box.x5.n1 (Nat.lt_of_succ_lt RD.box.x5.lt) RD.box.x5.lt RD.box.x5.c0 RD.box.x5.c1
   rotate_left
   focus
    have cx:wr.cell? ⟨g,6,aD⟩=dG (.func (.func 295) #[] #[dE (dG ⟨b+2,0,aD⟩),dE (dG ⟨b+2+1,0,aD⟩)]):=RD.fn ad 6;have CA:=Zb λ(V':World) (hv:Mach p s' V V')=>Sn (.inr (.inl ⟨rfl,rfl⟩)) p (b+2) ((b+2)+1) s' n V V' hv RD.box.x6.n0 RD.box.x6.n1 (Nat.lt_of_succ_lt RD.box.x6.lt) RD.box.x6.lt RD.box.x6.c0 RD.box.x6.c1
   rotate_left
   focus
    have cx:wr.cell? ⟨g,7,aD⟩=dG (.func (.func 295) #[] #[dE (dG ⟨b+4,0,aD⟩),dE (dG ⟨b+4+1,0,aD⟩)]):=RD.fn ad 7;have CA:=Zb λ(V':World) (hv:Mach p s' V V')=>Sn (.inr (.inr (.inl ⟨rfl,rfl⟩))) p (b+4) ((b+4)+1) s' n V V' hv RD.box.x7.n0 RD.box.x7.n1 (Nat.lt_of_succ_lt RD.box.x7.lt) RD.box.x7.lt RD.box.x7.c0 RD.box.x7.c1
   rotate_left
   focus
    have cx:wr.cell? ⟨g,8,aD⟩=dG (.func (.func 295) #[] #[dE (dG ⟨b+6,0,aD⟩),dE (dG ⟨b+6+1,0,aD⟩)]):=RD.fn ad 8;have CA:=Zb λ(V':World) (hv:Mach p s' V V')=>Sn (.inr (.inr (.inr (.inl ⟨rfl,rfl⟩)))) p (b+6) ((b+6)+1) s' n V V' hv RD.box.x8.n0 RD.box.x8.n1 (Nat.lt_of_succ_lt RD.box.x8.lt) RD.box.x8.lt RD.box.x8.c0 RD.box.x8.c1
   rotate_left
   focus
    have cx:wr.cell? ⟨g,9,aD⟩=dG (.func (.func 296) #[] #[dE (dG ⟨b+8,0,aD⟩),dE (dG ⟨b+8+1,0,aD⟩)]):=RD.fn ad 9;have CA:=Zb λ(V':World) (hv:Mach p s' V V')=>Zsd p (b+8) ((b+8)+1) s' n V V' hv RD.box.x9.n0 RD.box.x9.n1 (Nat.lt_of_succ_lt RD.box.x9.lt) RD.box.x9.lt RD.box.x9.c0 RD.box.x9.c1
   rotate_left
   focus
    have cx:wr.cell? ⟨g,10,aD⟩=dG (.func (.func 295) #[] #[dE (dG ⟨b+10,0,aD⟩),dE (dG ⟨b+10+1,0,aD⟩)]):=RD.fn ad 10;have CA:=Zb λ(V':World) (hv:Mach p s' V V')=>Sn (.inr (.inr (.inr (.inr ⟨rfl,rfl⟩)))) p (b+10) ((b+10)+1) s' n V V' hv RD.box.x10.n0 RD.box.x10.n1 (Nat.lt_of_succ_lt RD.box.x10.lt) RD.box.x10.lt RD.box.x10.c0 RD.box.x10.c1
   rotate_left
   focus
    have cx:wr.cell? ⟨g,11,aD⟩=dG (.func (.func 290) #[dE (dG ⟨p,0,aD⟩)] #[]):=RD.fn ad 11;have CA:=Zb λ(V':World) (hv:Mach p s' V V')=>Zbr p s' n V V' hv
   rotate_left
   focus
    have cx:wr.cell? ⟨g,12,aD⟩=dG (.func (.func 291) #[dE (dG ⟨p,0,aD⟩)] #[]):=RD.fn ad 12;have CA:=Zb λ(V':World) (hv:Mach p s' V V')=>Ny p s' n V V' hv
   rotate_left
   focus
    have cx:wr.cell? ⟨g,13,aD⟩=dG (.func (.func 296) #[] #[dE (dG ⟨b+12,0,aD⟩),dE (dG ⟨b+12+1,0,aD⟩)]):=RD.fn ad 13;have CA:=Zb λ(V':World) (hv:Mach p s' V V')=>Zpv p (b+12) ((b+12)+1) s' n V V' hv RD.box.x13.n0 RD.box.x13.n1 (Nat.lt_of_succ_lt RD.box.x13.lt) RD.box.x13.lt RD.box.x13.c0 RD.box.x13.c1
   rotate_left
   all_goals
    go_wp2
    go_region_with (refine (CA _ ?_).mono ?_;(first|exact aq|exact aq.drew|exact aq.drewN _);rintro e w' ⟨rfl,bw⟩)
    all_goals
     have cg:=Zb bw;clear bw;go_wp2;go_roundw
    all_goals try (simp[intOf];omega)
    all_goals
     refine⟨k+1,s'.step k0 n,by omega,by go_num,?_,(MS.step_h _ _ _).trans HH,?_⟩ <;> obtain rfl:=Za cf;exact Za cg;exact Zkz ax HQ ad.good HH HR
  ·clear hm;go_wp2;go_end0;have e:k=len:=(by omega);subst e;refine⟨rfl,s',ap.trans ad,Za HH,?_⟩;rw[Za HR,<-Za HZ,List.take_length]
theorem Lo{w:World}{base:Nat}{e:aY}{v}{n:Nat}{Z:List Int}(h:w.ownsRow base e 1 v n (Z.map (aU .i64))):∃ a cap,v = F a n cap/\RowAt w a n Z:=by
 have hl:Z.length=n:=by have:=h.1;simpa using this
 rcases h.2 with ⟨rfl,rfl⟩|⟨g,cap,ab,rfl,_,_,h1,h2,_,_⟩
 ·have e:Z=[]:=aJ.1 hl;subst e;exact⟨aD,0,rfl,RowAt.nil _ _⟩
 ·refine⟨_,cap,rfl,hl,aO h1 h2,λ_=>⟨g,0,rfl,λi hi=>?_⟩⟩;rw[bO,bH h i (by omega)];simp[hl,hi]
theorem Tryz.arr354:Tryz.prog.underlying 354=dG (.array (Tryz.prog.arrayLen 354) (Tryz.prog.elem 354)):=by kernel_rfl
theorem Tryz.len354:Tryz.prog.arrayLen 354=16:=by kernel_rfl
theorem Tryz.el354:Tryz.prog.elem 354=3:=by kernel_rfl
theorem Cd(p n:Nat)(h:n<=16)(w):(Instr.sliceAt 354 (dE (dG ⟨p,0,aD⟩)) aD (dG (E J n)) aD).run aB w = .ok (F (dG ⟨p,0,aD⟩) n 16) w:=by
 rw[run_sliceAt_array_h w 354 ⟨p,0,aD⟩ Tryz.arr354 .i64 n (by omega) (by rw[Tryz.len354];omega),Tryz.el354,Tryz.len354,Tryz.sizeOf3];simp[Result.andThen,slicedAt,Addr.add]
set_option maxRecDepth 100000 in
theorem Zmf(p:Nat)(s:MS)(W w:World)(hm:Mach p s W w) :
  Calls aB 268 #[dE (dG ⟨p,0,aD⟩)] w λe w'=>∃ a cap,e = dB (F a s.n cap)/\RowAt w' a s.n (s.cs.take s.n)/\ZD w w':=by
 have c1:=hm.cell_n;have hn:=hm.good.2.1;have hl:=hm.good.1;have HC:Hid (∀ j,j<s.cs.length->w.cell? ⟨p,0+j,aD⟩=dG (E J (s.cs.getD j 0))):=λj hj=>by rw[bO];exact hm.cell_s j (by omega)
 have al:=Cd p s.n hn;go_enter func268,ntmps268;go_wp2
 go_region_with (go_at_call 12;refine (Tryz.slices_Clone_int p 0 s.n 16 s.cs _ ?_ ?_ ?_).mono ?_;omega;omega;exact HC;rintro e w' ⟨v,rfl,af,ak,hb⟩)
 all_goals
  obtain⟨a,cap,rfl,ag⟩:=Lo af;have HR:=Zb ag;have HB:Hid (ZD w w'):=⟨hb.os,hb.tape,hb.output,hb.size,hb.block⟩;go_wp2;go_ret;exact⟨a,cap,rfl,Za HR,Za HB⟩
theorem Zku{l Z}{h:Int}(e:chk l≠0):Tq l Z h=chk l/\Hx l Z h=[]:=by
 have h1:Tq l Z h=chk l:=by unfold Tq;rw[if_neg e]
 exact⟨h1,by unfold Hx;rw[h1,if_neg e]⟩
theorem Lj{l Z}{h:Int}(e:chk l=0)(g:(Ye Z && hOk h)=false):Tq l Z h=3/\Hx l Z h=[]:=by
 have h1:Tq l Z h=3:=by unfold Tq;rw[if_pos e,g];rfl
 exact⟨h1,by unfold Hx;rw[h1];rfl⟩
theorem Lk{l Z}{h:Int}(e:chk l=0)(g:(Ye Z && hOk h)=true)(r:Y9 h l Z=aD):Tq l Z h=8/\Hx l Z h=[]:=by
 have h1:Tq l Z h=8:=by unfold Tq;rw[if_pos e,g,r];rfl
 exact⟨h1,by unfold Hx;rw[h1];rfl⟩
theorem P6{l Z}{h:Int}{L}(e:chk l=0)(g:(Ye Z && hOk h)=true)(r:Y9 h l Z=dG L):Tq l Z h=0/\Hx l Z h=L:=by
 have h1:Tq l Z h=0:=by unfold Tq;rw[if_pos e,g,r];rfl
 exact⟨h1,by unfold Hx;rw[h1,r];rfl⟩
theorem Zkt(p:Nat)(s:MS)(a cap W w)(hm:Mach p s W w) :
  Calls aB 267 #[dE (dG ⟨p,0,aD⟩),F a 0 cap] w λe w'=>e = dB (dC #[])/\∃ s',Mach p s' W w'/\s'.h=s.h/\s'.rep=s.rep.bind (Y9 s.h []):=by
 have HM:=Zb hm;have af:=hm.lt;go_enter func267,ntmps267;go_wp2_with fail;refine (L5 p w af).mono ?_;rintro e w1 ⟨rfl,al,ab⟩;have am:=run_storeCells_new (P:=aB) w1 365 #[.nilFunc,.nilFunc,.nilFunc,.nilFunc,.nilFunc,.nilFunc,.nilFunc,.nilFunc,.nilFunc,.nilFunc,.nilFunc,.nilFunc,.nilFunc,.nilFunc] (Tv p (w.heap.size+1)) Tryz.size365 rfl (by simp[Tv,met,Zqy,Zdx,Value.oneCell']);have an:(Tv p (w.heap.size+1)).size=14:=rfl;have ak:Mach p s W w1:=⟨HM.good,(ab.block p af).trans HM.block,λk hk hl=>(ab.block k (aF hl HM.size)).trans (HM.old k hk hl),aO HM.size ab.size,ab.os.trans HM.os,ab.tape.trans HM.tape,ab.output.trans HM.output⟩;have ah:=Zb (ak.alloc (dA (Tv p (w.heap.size+1)) 365));go_wp2;refine bB 1 ?_;rw[aS];go_wp2;go_end0;exact⟨rfl,s,Za ah,rfl,by cases s.rep <;> rfl⟩
theorem Zmc(p:Nat)(s:MS)(a len cap l)(W w:World)(hm:Mach p s W w)(hp:W.heap.size<=p)(hO:OpsAt W a len l)(aa:chk l=0) :
  Calls aB 267 #[dE (dG ⟨p,0,aD⟩),F a len cap] w λe w'=>e = dB (dC #[])/\∃ s',Mach p s' W w'/\s'.h=s.h/\s'.rep=s.rep.bind (Y9 s.h l):=by
 obtain⟨hz,hc⟩:=hO
 have h16:len<=16:=by
  unfold chk at aa;split at aa
  ·cases aa
  ·omega
 have ah:V8 l=0:=by
  unfold chk at aa;split at aa
  ·cases aa
  ·exact aa
 by_cases h:len=0
 ·subst h;have e:l=[]:=aJ.1 hz;subst e;exact Zkt p s a cap W w hm
 ·obtain⟨b,off,rfl,ac⟩:=hc (by omega);exact Zks p s b off len cap l W w hm hp hz h16 ah (aC _ _ (ac 0 (by omega)).1) ac
def Zfj(h:Int):MS:=⟨bP 16 0,0,h,false⟩
theorem Zmo(h:Int):(Zfj h).ok:=⟨rfl,aI _,λx hx=>by rw[List.eq_of_mem_replicate hx];rfl⟩
theorem Zdi(h:Int)(w:World):Mach w.heap.size (Zfj h) w (w.alloc (dA (Zfj h).cells 356)) where
 good:=Zmo h
 block:=aG _ _
 old:=λk _ hl=>bJ _ _ _ hl
 size:=by simp
 os:=rfl
 tape:=rfl
 output:=rfl
theorem Cp{s:MS}{L}(h:s.rep=dG L):s.f=false/\s.cs.take s.n=L:=by
 unfold MS.rep at h;cases hf:s.f with
 | true=>rw[hf] at h;cases h
 | false=>rw[hf] at h;exact⟨rfl,by simpa using h⟩
theorem Co{s:MS}(h:s.rep=aD):s.f=true:=by
 unfold MS.rep at h;cases hf:s.f with
 | true=>rfl
 | false=>rw[hf] at h;cases h
theorem Zpg(a az len cap lens caps l Z)(h:Int)(w:World)(hO:OpsAt w a len l)(hR:RowAt w az lens Z) :
  Calls aB 250 #[F a len cap,F az lens caps,E J h] w λe w'=>∃ a' bx,e = dB (dC #[.slice a' (Hx l Z h).length bx,E J (Tq l Z h)])/\RowAt w' a' (Hx l Z h).length (Hx l Z h)/\ZD w w':=by
 obtain⟨CK,HO,HR⟩:=kh3 (U9 a len cap l w hO) hO hR;by_cases ae:chk l=0
 ·rw[ae] at CK;have HK:=Zb ae;go_enter func250,ntmps250;go_wp2_with fail;refine CK.mono ?_;rintro e w1 ⟨rfl,ad⟩;obtain⟨ab,bq,bs⟩:=kh3 ad (HO.later ad) (HR.later ad);go_wp2_with fail;refine (Zci w1.heap.size (Zfj h) az lens caps Z w1 _ (Zdi h w1) (aE _) bs).mono ?_;rintro e w2 ⟨rfl,s',bd,cc,cf⟩;have ak:s'.rep=if Ye Z then dG Z else aD:=cf.trans (Zgz Z)
  have cd:s'.h=h:=cc;have cp:=bd.cell_f;have an:=Zb bd;cases hso:Ye Z with
  | false=>
   rw[hso] at ak;have hf:=Co ak;have e:=Lj (h:=h) HK (show (Ye Z && hOk h)=false by rw[hso];rfl);have EE:=Zb e;rw[hf] at cp;go_wp2;go_ret2;rw[(Za EE).1,(Za EE).2];exact⟨aD,0,rfl,RowAt.nil _ _,ab.trans ((an.below (aE _)).mono ab.size)⟩
  | true=>
   rw[hso] at ak;have hf:=Cp ak;rw[hf.1] at cp;have HF:=Zb hf.2;cases hho:hOk h with
   | false=>
    have e:=Lj HK (show (Ye Z && hOk h)=false by rw[hso,hho];rfl);obtain⟨EE,HH⟩:=kh2 e hho
    go_wp2_with (go_at_call 249;refine (Vh h false _ HH.symm).mono ?_;rintro e w' ⟨rfl,rfl⟩)
    go_ret2;rw[(Za EE).1,(Za EE).2];exact⟨aD,0,rfl,RowAt.nil _ _,ab.trans ((an.below (aE _)).mono ab.size)⟩
   | true=>
    obtain⟨HH,HS,bu,bj⟩:=kh4 hho hso ak cd
    go_wp2_with (go_at_call 249;refine (Vh h true _ HH.symm).mono ?_;rintro e w' ⟨rfl,rfl⟩)
    refine (Zmc w1.heap.size s' a len cap l w1 _ an (aE _) bq HK).mono ?_;rintro e w3 ⟨rfl,s3,be,cl,bf⟩;rw[Za bu,Za bj] at bf;have bg:s3.rep=Y9 h l Z:=bf;have ay:=be.cell_f;have ah:=Zb be;cases hrl:Y9 h l Z with
    | none=>
     have aj:=Co (bg.trans hrl);have e:=Lk HK (show (Ye Z && hOk h)=true by rw[Za HS,Za HH];rfl) hrl;have EE:=Zb e;rw[aj] at ay;go_wp2;go_ret2;rw[(Za EE).1,(Za EE).2];exact⟨aD,0,rfl,RowAt.nil _ _,ab.trans ((ah.below (aE _)).mono ab.size)⟩
    | some L=>
     have aj:=Cp (bg.trans hrl);have e:=P6 HK (show (Ye Z && hOk h)=true by rw[Za HS,Za HH];rfl) hrl;have EE:=Zb e
     have ce:s3.n=L.length:=by
      have h1:=ah.good.1;have h2:=ah.good.2.1;rw[<-aj.2,aV];omega
     rw[aj.1] at ay;have LF:=Zb (Zmf w1.heap.size s3 w1 w3 ah);rw[aj.2,ce] at LF;go_wp2_with fail;refine LF.mono ?_;rintro e w4 ⟨a4,bz,rfl,cg,cb⟩;obtain⟨bv,bi⟩:=kh2 cg cb;go_wp2;go_ret2;rw[(Za EE).1,(Za EE).2];have b3:=ah.below (aE _);exact⟨a4,bz,rfl,Za bv,ab.trans ((b3.trans (bi.mono b3.size)).mono ab.size)⟩
 ·have e:=Zku (Z:=Z) (h:=h) ae;rw[e.1,e.2];obtain⟨x,hx⟩:=ZG (chk l);rw[<-hx] at ae CK ⊢;have cm:(x != 0)=true:=by simp[ae]
  clear e ae hx;go_enter func250,ntmps250;go_wp2_with fail;refine CK.mono ?_;rintro e w1 ⟨rfl,ad⟩;have ab:=Zb ad;clear ad;go_wp2;go_ret2;exact⟨aD,0,rfl,RowAt.nil _ _,Za ab⟩
theorem Wm(a len cap l)(x:Int)(w:World)(hx:chk l=x)(h:OpsAt w a len l) :
  ZH 238 #[F a len cap] w (E J x):=by
 subst hx;exact U9 a len cap l w h
theorem Lg(a az len cap lens caps l Z)(h:Int)(x:Int)(L:List Int)(w:World)(hE:Tq l Z h=x)(hS:Hx l Z h=L)(hO:OpsAt w a len l)(hR:RowAt w az lens Z) :
  Calls aB 250 #[F a len cap,F az lens caps,E J h] w λe w'=>∃ a' ab,e = dB (dC #[F a' L.length ab,E J x])/\RowAt w' a' L.length L/\ZD w w':=by
 subst hE hS;exact Zpg a az len cap lens caps l Z h w hO hR
theorem Uh{w w1 w2:World}(h1:ZD w w1)(h2:ZD w1 w2):ZD w w2:=h1.trans (h2.mono h1.size)
theorem Cj{h:Int}(hh:hOk h=true):(Ye [] && hOk h)=true:=by rw[hh];rfl
theorem Fh(a b n c m d w) :
  (Instr.index 336 (.agg #[F a n c,F b m d]) (E J 0)).run aB w = .ok (F a n c) w /\
  (Instr.index 336 (.agg #[F a n c,F b m d]) (E J 1)).run aB w = .ok (F b m d) w:=by
 constructor <;> kernel_rfl
set_option maxRecDepth 100000 in
theorem Zhn(a ak len cap ad ae l k)(h:Int)(w:World)(hO:OpsAt w a len l)(hK:OpsAt w ak ad k) :
  ZH 203 #[F a len cap,F ak ad ae,E J h] w (dC #[dF (Xb l k h),E J (Vl l k h)]):=by
 obtain⟨HO,HK⟩:=kh2 hO hK;have cc:=λw=>(Fh a ak len cap ad ae w).1;have cd:=λw=>(Fh a ak len cap ad ae w).2;by_cases c1:chk l=0
 ·by_cases c2:chk k=0
  ·cases c3:hOk h with
   | false=>
    have eE:Vl l k h=3:=(by simp[Vl,c1,c2,c3]);have eB:Xb l k h=false:=(by simp[Xb,eE]);rw[eE,eB];obtain⟨C1,C2,C3⟩:=kh3 c1 c2 c3;go_enter func203,ntmps203;go_wp2;refine bB 3 ?_;rw[aS];go_wp2_with fail;refine (Wm a len cap l 0 _ C1 HO).mono ?_;rintro e w1 ⟨rfl,ah⟩;have aa:=Zb ah;go_wp2;rw[aS];go_wp2_with fail;refine (Wm ak ad ae k 0 _ C2 (HK.later aa)).mono ?_;rintro e w2 ⟨rfl,al⟩;have ab:=Zb (Uh aa al);go_wp2;rw[aS]
    go_wp2_with (go_at_call 249;refine (Vh h false _ C3.symm).mono ?_;rintro e w' ⟨rfl,rfl⟩)
    go_ret2;exact⟨rfl,Za ab⟩
   | true=>
    have eE:Vl l k h=0:=(by simp[Vl,c1,c2,c3]);obtain⟨C1,C2,C3⟩:=kh3 c1 c2 c3;rw[eE];cases r1:Y9 h k [] with
    | none=>
     have eB:Xb l k h=false:=(by simp[Xb,r1]);rw[eB];have R1:=Zb (Lk c2 (Cj c3) r1);go_enter func203,ntmps203;go_wp2;refine bB 3 ?_;rw[aS];go_wp2_with fail;refine (Wm a len cap l 0 _ C1 HO).mono ?_;rintro e w1 ⟨rfl,ah⟩;have aa:=Zb ah;go_wp2;rw[aS];go_wp2_with fail;refine (Wm ak ad ae k 0 _ C2 (HK.later aa)).mono ?_;rintro e w2 ⟨rfl,al⟩;have ab:=Zb (Uh aa al);go_wp2;rw[aS]
     go_wp2_with (go_at_call 249;refine (Vh h true _ C3.symm).mono ?_;rintro e w' ⟨rfl,rfl⟩)
     refine (Lg ak aD ad ae 0 0 k [] h 8 [] _ R1.1 R1.2 (HK.later ab) (RowAt.nil _ _)).mono ?_;rintro e w3 ⟨a3,bd,rfl,_,av⟩;have aq:=Zb (Uh ab av);go_wp2;go_ret2;exact⟨rfl,Za aq⟩
    | some L=>
     have sL:Ye L=true:=Ki (by rfl) r1;have gL:(Ye L && hOk h)=true:=(by rw[sL,c3];rfl);have R1:=Zb (P6 c2 (Cj c3) r1);cases r2:Y9 h l L with
     | none=>
      have eB:Xb l k h=false:=(by simp[Xb,r1,r2]);rw[eB];have R2:=Zb (Lk c1 gL r2);go_enter func203,ntmps203;go_wp2;refine bB 3 ?_;rw[aS];go_wp2_with fail;refine (Wm a len cap l 0 _ C1 HO).mono ?_;rintro e w1 ⟨rfl,ah⟩;have aa:=Zb ah;go_wp2;rw[aS];go_wp2_with fail;refine (Wm ak ad ae k 0 _ C2 (HK.later aa)).mono ?_;rintro e w2 ⟨rfl,al⟩;have ab:=Zb (Uh aa al);go_wp2;rw[aS]
      go_wp2_with (go_at_call 249;refine (Vh h true _ C3.symm).mono ?_;rintro e w' ⟨rfl,rfl⟩)
      refine (Lg ak aD ad ae 0 0 k [] h 0 L _ R1.1 R1.2 (HK.later ab) (RowAt.nil _ _)).mono ?_;rintro e w3 ⟨a3,bd,rfl,bh,av⟩;obtain⟨aq,be⟩:=kh2 (Uh ab av) bh;go_wp2_with fail;refine (Lg a a3 len cap L.length bd l L h 8 [] _ R2.1 R2.2 (HO.later aq) be).mono ?_;rintro e w4 ⟨a4,br,rfl,_,bg⟩;have ay:=Zb (Uh aq bg);go_wp2;go_ret2;exact⟨rfl,Za ay⟩
     | some M=>
      have eB:Xb l k h=Ph M:=(by simp[Xb,r1,r2,eE]);rw[eB];have R2:=Zb (P6 c1 gL r2);go_enter func203,ntmps203;go_wp2;refine bB 3 ?_;rw[aS];go_wp2_with fail;refine (Wm a len cap l 0 _ C1 HO).mono ?_;rintro e w1 ⟨rfl,ah⟩;have aa:=Zb ah;go_wp2;rw[aS];go_wp2_with fail;refine (Wm ak ad ae k 0 _ C2 (HK.later aa)).mono ?_;rintro e w2 ⟨rfl,al⟩;have ab:=Zb (Uh aa al);go_wp2;rw[aS]
      go_wp2_with (go_at_call 249;refine (Vh h true _ C3.symm).mono ?_;rintro e w' ⟨rfl,rfl⟩)
      refine (Lg ak aD ad ae 0 0 k [] h 0 L _ R1.1 R1.2 (HK.later ab) (RowAt.nil _ _)).mono ?_;rintro e w3 ⟨a3,bd,rfl,bh,av⟩;obtain⟨aq,be⟩:=kh2 (Uh ab av) bh;go_wp2_with fail;refine (Lg a a3 len cap L.length bd l L h 0 M _ R2.1 R2.2 (HO.later aq) be).mono ?_;rintro e w4 ⟨a4,br,rfl,bx,bg⟩;have ay:=Zb (Uh aq bg);have HE:Hid (∀ b:Bool,b=Ph M->Ending.returned (dC #[dF b,E J 0]) = dB (dC #[dF (Ph M),E J 0])):=λb hb=>by rw[hb]
      by_cases m1:M.length=1
      ·obtain⟨y,rfl⟩:=List.length_eq_one_iff.1 m1;obtain⟨b4,o4,rfl,bw⟩:=bx.2.2 (by simp);have c4:w4.cell? ⟨b4,o4,aD⟩=dG (E J y):=bw 0 (by simp);have HY:Hid ((y != 0)=Ph [y]):=(by simp[Ph,Jc,Hid]);go_wp2;go_ret2;exact⟨HE _ HY,Za ay⟩
      ·have m2:((M.length:Int) == 1)=false:=(by simp;omega);have HY:Hid (false=Ph M):=(by simp[Ph,m1,Hid]);go_wp2;go_ret2;exact⟨HE _ HY,Za ay⟩
  ·have eE:Vl l k h=chk k:=(by simp[Vl,c1,c2]);have eB:Xb l k h=false:=(by simp[Xb,eE,c2]);rw[eE,eB];obtain⟨x,hx⟩:=ZF (chk k);rw[hx] at c2 ⊢;have g2:(x != 0)=true:=(by simp[c2]);obtain⟨C1,C2⟩:=kh2 c1 hx;go_enter func203,ntmps203;go_wp2;refine bB 3 ?_;rw[aS];go_wp2_with fail;refine (Wm a len cap l 0 _ C1 HO).mono ?_;rintro e w1 ⟨rfl,ah⟩;have aa:=Zb ah;go_wp2;rw[aS];go_wp2_with fail;refine (Wm ak ad ae k x _ C2 (HK.later aa)).mono ?_;rintro e w2 ⟨rfl,al⟩;have ab:=Zb (Uh aa al);go_wp2;go_ret2;exact⟨rfl,Za ab⟩
 ·have eE:Vl l k h=chk l:=by simp[Vl,c1]
  have eB:Xb l k h=false:=by simp[Xb,eE,c1]
  rw[eE,eB];obtain⟨x,hx⟩:=ZF (chk l);rw[hx] at c1 ⊢;have g2:(x != 0)=true:=by simp[c1]
  have C1:=Zb hx;go_enter func203,ntmps203;go_wp2;refine bB 3 ?_;rw[aS];go_wp2_with fail;refine (Wm a len cap l x _ C1 HO).mono ?_;rintro e w1 ⟨rfl,ah⟩;have aa:=Zb ah;go_wp2;go_ret2;exact⟨rfl,Za aa⟩
def Qa:CV:=((0,0,0,[],0,false),aD,0,0)
theorem Jv(T R:List CV)(z:CV)(j:Nat)(hj:j<6):(Zl (T++z :: R))[T.length*6+j]? = (Ce z)[j]?:=by
 rw[Yi,List.getElem?_append_right (by rw[Z7];omega),Z7,Nat.add_sub_cancel_left,show z :: R=[z]++R from rfl,Yi,List.getElem?_append_left (by rw[Z7];simpa using hj),Zmq]
theorem Tf(T R:List CV)(z y:CV):((((((Zl (T++z :: R)).set (T.length*6) (E J y.1.1)).set (T.length*6+1) (E J y.1.2.1)).set (T.length*6+2) (E J (cv y.1))).set (T.length*6+3) (.slice y.2.1 y.2.2.1 y.2.2.2)).set (T.length*6+4) (E J (ch y.1))).set (T.length*6+5) (dF (cr y.1))=Zl (T++y :: R):=by
 rw[Yi,Yi];have e:=Z7 T;rw[<-e];simp only[Zl,List.set_append_right _ _ (aE _),List.set_append_right _ _ (Nat.le_add_right _ _),Nat.sub_self,Nat.add_sub_cancel_left,List.set_cons_zero,List.set_cons_succ]
theorem Zhu(n:Nat):(madeCells zeroC.cells (n*6)).toList=Zl (bP n Qa):=by
 apply List.ext_getElem?
 intro j;by_cases hj:j<n*6
 ·obtain⟨f0,f1,f2,f3,f4,f5⟩:=Q7 (bP n Qa) (j / 6) (by rw[List.length_replicate];omega);rw[List.getElem_replicate] at f0 f1 f2 f3 f4 f5;have hz:zeroC.cells=zeroCs.toArray:=rfl
  have hL:(madeCells zeroC.cells (n*6)).toList[j]? = zeroCs[j % 6]?:=by
   have hs:zeroCs.length=6:=rfl;have h6:j % 6<6:=(by omega);simp[madeCells,hj,hz,hs,h6]
  rw[hL];obtain⟨i,r,rfl,hr⟩:∃ i r,j=i*6+r/\r<6:=⟨j / 6,j % 6,by omega,by omega⟩;rw[show (i*6+r) / 6=i by omega] at f0 f1 f2 f3 f4 f5;rw[show (i*6+r) % 6=r by omega]
  match r,hr with
  | 0,_=>exact f0.symm
  | 1,_=>exact f1.symm
  | 2,_=>exact f2.symm
  | 3,_=>exact f3.symm
  | 4,_=>exact f4.symm
  | 5,_=>exact f5.symm
 ·rw[List.getElem?_eq_none (by simp[madeCells];omega),List.getElem?_eq_none (by rw[Z7,List.length_replicate];omega)]
theorem Zen{w:World}{base g n c:Nat}{xs:List Value}(h:w.ownsRow base 162 6 (F (dG ⟨g,0,aD⟩) n c) n xs)(b:Nat)(a0 a1 a2 a3 a4 a5) :
  ((((((w.setCell ⟨g,b,aD⟩ a0).setCell ⟨g,b+1,aD⟩ a1).setCell ⟨g,b+2,aD⟩ a2).setCell ⟨g,b+3,aD⟩ a3).setCell ⟨g,b+4,aD⟩ a4).setCell ⟨g,b+5,aD⟩ a5).ownsRow base 162 6 (F (dG ⟨g,0,aD⟩) n c) n ((((((xs.set b a0).set (b+1) a1).set (b+2) a2).set (b+3) a3).set (b+4) a4).set (b+5) a5):=
 ((((((h.stored b a0).1.stored (b+1) a1).1.stored (b+2) a2).1.stored (b+3) a3).1.stored (b+4) a4).1.stored (b+5) a5).1
theorem Gr.sixAt{w w1:World}{S:Nat->Prop}(h:Gr w w1 S)(b i:Nat)(hb:S b\/w.heap.size<=b)(a0 a1 a2 a3 a4 a5):Gr w ((((((w1.setCell ⟨b,i,aD⟩ a0).setCell ⟨b,i+1,aD⟩ a1).setCell ⟨b,i+2,aD⟩ a2).setCell ⟨b,i+3,aD⟩ a3).setCell ⟨b,i+4,aD⟩ a4).setCell ⟨b,i+5,aD⟩ a5) S:=
 (((((h.one b i hb a0).one b (i+1) hb a1).one b (i+2) hb a2).one b (i+3) hb a3).one b (i+4) hb a4).one b (i+5) hb a5
theorem Sq(h:Int)(I:List InD)(k:Nat)(hk:k<I.length)(S L)(ht:Ve (I[k].1,I[k].2.1) L=aD):Zs h (I.drop k) S L=(7,[],[]):=by
 rw[aK hk,Zs,ht]
theorem Ss(h:Int)(I:List InD)(k:Nat)(hk:k<I.length)(S L M)(c:Zi)(ht:Ve (I[k].1,I[k].2.1) L=dG (c,M))(hl:cr c=true/\h<ch c+2):Zs h (I.drop k) S L=(10,[],[]):=by
 rw[aK hk,Zs,ht];simp only;rw[if_pos hl]
theorem Gp(h:Int)(I:List InD)(k:Nat)(hk:k<I.length)(S L M)(c:Zi)(ht:Ve (I[k].1,I[k].2.1) L=dG (c,M))(hl:¬(cr c=true/\h<ch c+2))(ho:Xb (ck c) I[k].2.2 h=false):Zs h (I.drop k) S L=(8,[],[]):=by
 rw[aK hk,Zs,ht];simp only;rw[if_neg hl,if_pos ho]
theorem Ld(h:Int)(I:List InD)(k:Nat)(hk:k<I.length)(S L M)(c:Zi)(ht:Ve (I[k].1,I[k].2.1) L=dG (c,M))(hl:¬(cr c=true/\h<ch c+2))(ho:Xb (ck c) I[k].2.2 h=true):Zs h (I.drop k) S L=Zs h (I.drop (k+1)) (S++[c]) M:=by
 rw[aK hk,Zs,ht];simp only;rw[if_neg hl,if_neg (by rw[ho];decide)]
theorem Gq(h:Int)(I:List InD)(k:Nat)(hk:I.length<=k)(S L):Zs h (I.drop k) S L=(0,S,L):=by
 rw[bA hk,Zs]
theorem Dj{q:PtD}{L M}{c:Zi}(h:Ve q L=dG (c,M))(hs:Srt L):Srt M:=by
 rw[(Tn h).2.2];exact hs.filter _
theorem Zlt{l k}{h:Int}(q:Xb l k h=true):Vl l k h=0:=by
 unfold Xb at q;rw[aX,decide_eq_true_eq] at q;exact q.1
theorem Zls(a ak len cap ab ac l k)(h:Int)(b:Bool)(x:Int)(w:World)(hO:OpsAt w a len l)(hK:OpsAt w ak ab k)(hb:Xb l k h=b)(hx:Vl l k h=x) :
  ZH 203 #[F a len cap,F ak ab ac,E J h] w (dC #[dF b,E J x]):=by
 subst hb hx;exact Zhn a ak len cap ab ac l k h w hO hK
theorem Zu(w:World)(a b c)(t:aY):(w.alloc (dA #[a,b,c] t)).heap[w.heap.size]? = dG (dA [a,b,c].toArray t (0,0)):=aG w _
def Spent(w0 w':World)(p ni:Nat)(K:List CV)(S M:List Zi)(a':Option Addr)(n' c':Nat):Prop:=
 ∃ (v':Value) (K' T:List CV),T.map (·.1)=S/\K'.map (·.1)=M/\Srt M/\K'.length<=K.length/\n'=T.length/\T.length=ni/\w'.ownsRow w0.heap.size 162 6 (F a' n' c') n' (Zl T)/\(∀ z∈T,LkAt w0 z)/\(∀ z∈K',z∈K)/\(∀ z∈T,z∈K)/\Pu w0 w' p v' K'/\(∃ s,(bW a' n' c').ownBlock=dG s/\v'.ownBlock≠dG s/\s≠p)
set_option maxRecDepth 10000 in
theorem Zki(w0 w:World)(p:Nat)(v)(K:List CV)(ai ni ci I)(h:Int)(x:Int)(S M)(hP:Pu w0 w p v K)(hs:Srt (K.map (·.1)))(hn:K.length<=4096)(hr:∀ z∈K,ck1 z.1=0)(hI:InsAt w0 ai ni I)(iy:ni<=6)(hx:Zs h I [] (K.map (·.1))=(x,S,M)) :
  Calls aB 158 #[dE (dG ⟨p,0,aD⟩),F ai ni ci,E J h] w λe w'=>∃ a' n' c',e = dB (dC #[F a' n' c',E J x])/\ZD w0 w' /\
   (x=0->Spent w0 w' p ni K S M a' n' c'):=by
 obtain⟨i0,ga,gs,gu,gv⟩:=bX Tryz.infoCoin;have hB:w0.heap.size<=w.heap.size:=hP.bel.size;have ja:p<w.heap.size:=hP.lt;obtain⟨HP,HS,HR,HI,HZ,HX⟩:=kh6 hP hs hr hI hI.1 hx;go_enter func158,ntmps158
 go_wp2_with (at_make;refine wpList_make_full _ rfl _ _ 64 rfl w0.heap.size 162 i0 zeroC 6 underlying64 ga gs gu .i64 .i64 _ _ ni rfl rfl rfl rfl (by rw[gv];omega) (by unfold aT;omega) hB ?_;intro w2 cz fz)
 rw[Zhu] at cz;have fx:ZD w w2:=(Below.refl _ _).grown fz (aE _) (λk h=>by cases h);have gi:w.heap.size<w2.heap.size:=(cz.lt w.heap.size rfl).2
 have ST:Hid (Pu w0 w2 p v K/\w2.ownsRow w0.heap.size 162 6 (F (dG ⟨w.heap.size,0,aD⟩) ni ni) ni (Zl ([]++bP (ni - 0) Qa))/\v.ownBlock≠dG w.heap.size):=
  ⟨HP.kept fx,cz,λe=>by have:=(HP.own.lt _ e).2;omega⟩
 go_loopw [20] (λi wr=>∃ (k:Nat) (T K':List CV) (v':Value),k<=ni/\i = E J k/\Hid (Zs h I [] (K.map (·.1))=Zs h (I.drop k) (T.map (·.1)) (K'.map (·.1)))/\Hid (Srt (K'.map (·.1)))/\K'.length<=K.length/\Hid (T.length=k)/\Hid ((∀ z∈K',z∈K)/\(∀ z∈T,z∈K)) /\
  Hid (Pu w0 wr p v' K')/\Hid (wr.ownsRow w0.heap.size 162 6 (F (dG ⟨w.heap.size,0,aD⟩) ni ni) ni (Zl (T++bP (ni - k) Qa)))/\Hid (∀ z∈T,LkAt w0 z)/\Hid (v'.ownBlock≠dG w.heap.size)/\w.heap.size<wr.heap.size) (λi _=>ni - (intOf i).toNat)
 case atStart=>exact⟨0,[],K,v,aI _,rfl,rfl,HS,aE _,rfl,⟨λz hz=>hz,λz hz=>(by cases hz)⟩,ST.1,ST.2.1,(λz hz=>(by cases hz):∀ z∈([]:List CV),LkAt w0 z),ST.2.2,gi⟩
 case round=>
  obtain⟨k,T,K',v',hk,rfl,A,av,fo,HT,ap,ae,df,HL,bu,jb⟩:=hrel;by_cases gc:k<ni
  ·have ar:k<I.length:=(by rw[Za HZ];exact gc);obtain⟨b,off,rfl,it,fy⟩:=HI.2 (by omega);have dx:=fy k ar;obtain⟨E1,E2,E3,E4⟩:=kh4 (Sq h I k ar (T.map (·.1)) (K'.map (·.1))) (Ss h I k ar (T.map (·.1)) (K'.map (·.1))) (Gp h I k ar (T.map (·.1)) (K'.map (·.1))) (Ld h I k ar (T.map (·.1)) (K'.map (·.1)));obtain⟨y,hy⟩:=ZF (I[k]);rw[hy] at dx E1 E2 E3 E4;obtain⟨y1,y2,be⟩:=y;obtain⟨fh,fi,ka,kn,kc,fk,g4,_⟩:=dx;have g1:=Ze ae.bel fh;have g2:=Ze ae.bel fi;have g3:=Ze ae.bel fk;have en:Hid (OpsAt w0 ka kn be):=g4;simp only at g1 g2 g3 E1 E2 E3 E4;obtain⟨X,hX,ds,ct⟩:=ka00 wr [E J y1,E J y2,F ka kn kc] 90;have cp:=ae.kept ds;have fq:=(Gr.of (S:=λ_=>False) ds).own df (λ_ _ q=>q);obtain⟨x0,x1,-⟩:=kc2 ct;have jd:wr.heap.size<X.heap.size:=aA ct;obtain⟨ez,es,eq⟩:=kh3 ct cp fq;have iz:p<wr.heap.size:=ae.lt;cases hf:We (y1,y2) (K'.map (·.1)) with
   | false=>
    have C:=Zb (Zck w0 X p v' K' (y1,y2) cp av (by omega) hf)
    have R:Hid (x=7):=by
     have e:=Za A;rw[(Za E1) (Zbt hf),Za HX] at e;injection e
    go_wp2_with fail;rw[<-hX];go_wp2_with fail;refine C.mono ?_;rintro e w3 ⟨rfl,fv⟩;have ej:=Zb ((es.kept fv).bel);unfold zeroC;go_wp2;go_ret2;exact⟨_,_,_,by rw[Za R];rfl,Zf ej (Zh _ _),λe=>absurd e (by rw[Za R];decide)⟩
   | true=>
    have C:=Zb (Zcj w0 X p v' K' (y1,y2) cp av (by omega) hf);go_wp2_with fail;rw[<-hX];go_wp2_with fail;refine C.mono ?_;rintro e w3 ⟨z,v3,K3,rfl,ht,ec,gm,ix,ft,dp,gn⟩;have ea:z∈K:=ap.1 z ec;have ed:=Yt (HR z ea);have eb:=ae.lk z ec;have du:1<=ch z.1:=ed.2.2.2.2.2.2.1;have dv:ch z.1<=1000:=ed.2.2.2.2.2.2.2.1;have gl:=Dj ht av
    have gd:¬PuS p v' wr.heap.size:=by
     rintro (e|e)
     ·omega
     ·have:=(ae.own.lt _ e).2;omega
    have cy:=dp.heap ez gd
    have gf:¬PuS p v' w.heap.size:=by
     rintro (e|e)
     ·omega
     ·exact bu e
    have fp:=dp.own eq (λq hq=>by cases hq;exact gf);have eg:=Zb (E2 _ _ ht);have eh:=Zb (E3 _ _ ht);have ei:=Zb (E4 _ _ ht);obtain⟨Y,hY⟩:=ZG (w3.alloc (dA #[E J z.1.1,E J z.1.2.1,E J (cv z.1),.slice z.2.1 z.2.2.1 z.2.2.2,E J (ch z.1),dF (cr z.1)] 162));have cw:ZD w3 Y:=(by rw[hY];exact Zh _ _);have cu:Y.heap[w3.heap.size]? = dG (dA (Ce z).toArray 162 (0,0)):=(by rw[hY];exact Vk _ _ _ _ _ _ _ _);have ay:=ft.kept cw;have fs:=(Gr.of (S:=λ_=>False) cw).own fp (λ_ _ q=>q);have dw:=ZE cw cy;have jc:wr.heap.size<w3.heap.size:=aA cy;have je:w3.heap.size<Y.heap.size:=aA cu;have q2:=Zd dw 2 _ rfl;have q3:=Zd cy 2 _ rfl;obtain⟨-,-,-,r3,r4,r5,-⟩:=kc6 cu;have OP:=Zb (λbb xx hb hx=>Zls z.2.1 ka z.2.2.1 z.2.2.2 kn kc (ck z.1) be h bb xx Y (eb.1.later ay.bel) (en.later ay.bel) hb hx);by_cases am:cr z.1=true/\h<ch z.1+2
    ·have R:Hid (x=10):=by
      have e:=Za A;rw[(Za eg) am,Za HX] at e;injection e
     have dt:cr z.1=true:=am.1;have iu:h<ch z.1+2:=am.2;have ek:=Zb ay.bel;rw[dt] at hY r5;unfold cnV;rw[dt];go_wp2_with fail;rw[<-hY];go_wp2;go_ret2;exact⟨_,_,_,by rw[Za R];rfl,Za ek,λe=>absurd e (by rw[Za R];decide)⟩
    ·have hD:Hid ((cr z.1 && decide (h<ch z.1+2))=false):=by
      show _=_;rw[Bool.and_eq_false_iff,decide_eq_false_iff_not];cases q:cr z.1 with
      | true=>exact .inr λe=>am ⟨q,e⟩
      | false=>exact .inl rfl
     obtain⟨bb,az⟩:=ZF (Xb (ck z.1) be h);obtain⟨xx,dz⟩:=ZF (Vl (ck z.1) be h);obtain⟨ax,bv,er,fa⟩:=kh4 (OP bb xx az dz) ay fs cu;have gp:v3.ownBlock≠dG w.heap.size:=(by rw[gn];exact Za bu);obtain⟨di,ew,ey,fc,fb,ir⟩:=kh6 gp gl gm eb ea dw;obtain⟨hd,cx⟩:=ZF (ch z.1);obtain⟨rr,da⟩:=ZF (cr z.1);cases bb with
     | false=>
      have R:Hid (x=8):=by
       have e:=Za A;rw[(Za eh) am az,Za HX] at e;injection e
      unfold cnV;rw[cx] at hD hY r4 du dv ⊢;rw[da] at hD hY r5 ⊢;cases rr with
      | false=>
       go_wp2_with fail;rw[<-hY];refine ax.mono ?_;rintro e w5 ⟨rfl,ab⟩;have br:=Zb (bv.kept ab).bel;go_wp2;go_ret2;exact⟨_,_,_,by rw[Za R];rfl,Za br,λe=>absurd e (by rw[Za R];decide)⟩
      | true=>
       have fm:¬(h<hd+2):=(by have:=Za hD;simpa using this);go_wp2_with fail;rw[<-hY];refine ax.mono ?_;rintro e w5 ⟨rfl,ab⟩;have br:=Zb (bv.kept ab).bel;go_wp2;go_ret2;exact⟨_,_,_,by rw[Za R];rfl,Za br,λe=>absurd e (by rw[Za R];decide)⟩
     | true=>
      have gq:xx=0:=(by rw[<-dz];exact Zlt az);subst gq
      have A2:Hid (Zs h I [] (K.map (·.1))=Zs h (I.drop (k+1)) ((T++[z]).map (·.1)) (K3.map (·.1))):=by
       show _=_;rw[Za A,(Za ei) am az,bN];rfl
      have eu:Hid (T++bP (ni - k) Qa=T++Qa :: bP (ni - (k+1)) Qa):=by
       show _=_;rw[show ni - k=(ni - (k+1))+1 by omega,List.replicate_succ]
      have eo:Hid (K3.length<=K.length):=(by show _<=_;omega);have iw:(k:Int)<(ni:Int):=(by omega);unfold cnV;rw[cx] at hD hY r4 du dv ⊢;rw[da] at hD hY r5 ⊢;obtain⟨dd,dh⟩:=kh2 cx da
      have dl:Hid (∀ w5,ZD Y w5->(w5.cell? ⟨w3.heap.size,0,aD⟩=dG (E J z.1.1)/\w5.cell? ⟨w3.heap.size,1,aD⟩=dG (E J z.1.2.1)/\w5.cell? ⟨w3.heap.size,2,aD⟩=dG (E J (cv z.1))/\w5.cell? ⟨w3.heap.size,3,aD⟩=dG (.slice z.2.1 z.2.2.1 z.2.2.2)/\w5.cell? ⟨w3.heap.size,4,aD⟩=dG (E J hd)/\w5.cell? ⟨w3.heap.size,5,aD⟩=dG (dF rr)) /\
        (∃ u0 u1 u2 u3 u4 u5,w5.cell? ⟨w.heap.size,k*6,aD⟩=dG u0/\w5.cell? ⟨w.heap.size,k*6+1,aD⟩=dG u1/\w5.cell? ⟨w.heap.size,k*6+2,aD⟩=dG u2/\w5.cell? ⟨w.heap.size,k*6+3,aD⟩=dG u3/\w5.cell? ⟨w.heap.size,k*6+4,aD⟩=dG u4/\w5.cell? ⟨w.heap.size,k*6+5,aD⟩=dG u5)/\(∀ j,w5.frozen? ⟨w.heap.size,j,aD⟩=false)/\w.heap.size<w5.heap.size /\
        Hid (∃ (T' K':List CV) (v':Value),Hid (Zs h I [] (K.map (·.1))=Zs h (I.drop (k+1)) (T'.map (·.1)) (K'.map (·.1)))/\Hid (Srt (K'.map (·.1)))/\K'.length<=K.length/\Hid (T'.length=k+1)/\Hid ((∀ z∈K',z∈K)/\(∀ z∈T',z∈K)) /\
         Hid (Pu w0 ((((((w5.setCell ⟨w.heap.size,k*6,aD⟩ (E J z.1.1)).setCell ⟨w.heap.size,k*6+1,aD⟩ (E J z.1.2.1)).setCell ⟨w.heap.size,k*6+2,aD⟩ (E J (cv z.1))).setCell ⟨w.heap.size,k*6+3,aD⟩ (.slice z.2.1 z.2.2.1 z.2.2.2)).setCell ⟨w.heap.size,k*6+4,aD⟩ (E J hd)).setCell ⟨w.heap.size,k*6+5,aD⟩ (dF rr)) p v' K') /\
         Hid (((((((w5.setCell ⟨w.heap.size,k*6,aD⟩ (E J z.1.1)).setCell ⟨w.heap.size,k*6+1,aD⟩ (E J z.1.2.1)).setCell ⟨w.heap.size,k*6+2,aD⟩ (E J (cv z.1))).setCell ⟨w.heap.size,k*6+3,aD⟩ (.slice z.2.1 z.2.2.1 z.2.2.2)).setCell ⟨w.heap.size,k*6+4,aD⟩ (E J hd)).setCell ⟨w.heap.size,k*6+5,aD⟩ (dF rr)).ownsRow w0.heap.size 162 6 (F (dG ⟨w.heap.size,0,aD⟩) ni ni) ni (Zl (T'++bP (ni - (k+1)) Qa)))/\Hid (∀ z∈T',LkAt w0 z)/\Hid (v'.ownBlock≠dG w.heap.size) /\
         w.heap.size<((((((w5.setCell ⟨w.heap.size,k*6,aD⟩ (E J z.1.1)).setCell ⟨w.heap.size,k*6+1,aD⟩ (E J z.1.2.1)).setCell ⟨w.heap.size,k*6+2,aD⟩ (E J (cv z.1))).setCell ⟨w.heap.size,k*6+3,aD⟩ (.slice z.2.1 z.2.2.1 z.2.2.2)).setCell ⟨w.heap.size,k*6+4,aD⟩ (E J hd)).setCell ⟨w.heap.size,k*6+5,aD⟩ (dF rr)).heap.size)):=by
       intro w5 ab;have an:=ZE ab fa;have ah:=bv.kept ab;have ak:=(Gr.of (S:=λ_=>False) ab).own er (λ_ _ q=>q);rw[Za eu] at ak;have cq:=Za HT
       have al:∀ j,j<6->w5.cell? ⟨w.heap.size,k*6+j,aD⟩=(Ce Qa)[j]?:=λj hj=>by
        rw[bH ak _ (by omega),<-cq,Jv _ _ _ j hj]
       refine⟨⟨Zd an 0 _ rfl,Zd an 1 _ rfl,Zd an 2 _ rfl,Zd an 3 _ rfl,by rw[<-Za dd];exact Zd an 4 _ rfl,by rw[<-Za dh];exact Zd an 5 _ rfl⟩,
        ⟨_,_,_,_,_,_,(al 0 (by decide)).trans rfl,(al 1 (by decide)).trans rfl,(al 2 (by decide)).trans rfl,(al 3 (by decide)).trans rfl,(al 4 (by decide)).trans rfl,(al 5 (by decide)).trans rfl⟩,λj=>ak.frozenAt j,(ak.lt _ rfl).2,?_⟩
       have hG:=(Gr.refl w5 (λq=>q=w.heap.size)).sixAt w.heap.size (k*6) (.inl rfl) (E J z.1.1) (E J z.1.2.1) (E J (cv z.1)) (.slice z.2.1 z.2.2.1 z.2.2.2) (E J hd) (dF rr);have cm:=Zen ak (k*6) (E J z.1.1) (E J z.1.2.1) (E J (cv z.1)) (.slice z.2.1 z.2.2.1 z.2.2.2) (E J hd) (dF rr);rw[<-Za dd,<-Za dh] at cm hG ⊢;have dy:=Tf T (bP (ni - (k+1)) Qa) Qa z;rw[cq] at dy;rw[dy] at cm;refine⟨T++[z],K3,v3,A2,ew,Za eo,?_,?_,?_,?_,?_,di,aF (ak.lt _ rfl).2 hG.size⟩
       ·show _=_;rw[bL,cq];rfl
       ·refine⟨λq hq=>ap.1 q (ey q hq),λq hq=>?_⟩
        rcases bM.1 hq with hq|hq
        ·exact ap.2 q hq
        ·rw[cT.1 hq];exact Za fb
       ·refine⟨hG.below ah.bel ah.bel.size (λq hq=>by rw[hq];exact hB),ah.ge,hG.heap ah.box (by omega),hG.own ah.own (λq hq e=>di (by rw[hq,e])),ah.ne,ah.lk⟩
       ·show World.ownsRow _ _ _ _ _ _ _;rw[List.append_assoc];exact cm
       ·intro q hq
        rcases bM.1 hq with hq|hq
        ·exact HL q hq
        ·rw[cT.1 hq];exact Za fc
      cases rr with
      | false=>
       go_wp2_with fail;rw[<-hY];refine ax.mono ?_;rintro e w5 ⟨rfl,ab⟩;obtain⟨⟨s0,s1,s2,s3,s4,s5⟩,⟨u0,u1,u2,u3,u4,u5,t0,t1,t2,t3,t4,t5⟩,ac,gj,bs⟩:=dl w5 ab;have z0:=ac (k*6);have z1:=ac (k*6+1);have z2:=ac (k*6+2);have z3:=ac (k*6+3);have z4:=ac (k*6+4);have z5:=ac (k*6+5);have fw:=ab.size;have m5:w3.heap.size<w5.heap.size:=aC _ _ s0;have n1:¬(w3.heap.size=w.heap.size):=(by omega);have n2:¬(w.heap.size=w3.heap.size):=(by omega);go_wp2;go_roundw
       case rel=>
        obtain⟨T',K',v',f1,f2,f3,f4,f5,f6,f7,f8,f9,cb⟩:=Za bs;exact⟨k+1,T',K',v',by omega,by go_num,f1,f2,f3,f4,f5,f6,f7,f8,f9,cb⟩
       case measure=>simp[intOf];omega
      | true=>
       have fm:¬(h<hd+2):=(by have:=Za hD;simpa using this);go_wp2_with fail;rw[<-hY];refine ax.mono ?_;rintro e w5 ⟨rfl,ab⟩;obtain⟨⟨s0,s1,s2,s3,s4,s5⟩,⟨u0,u1,u2,u3,u4,u5,t0,t1,t2,t3,t4,t5⟩,ac,gj,bs⟩:=dl w5 ab;have z0:=ac (k*6);have z1:=ac (k*6+1);have z2:=ac (k*6+2);have z3:=ac (k*6+3);have z4:=ac (k*6+4);have z5:=ac (k*6+5);have fw:=ab.size;have m5:w3.heap.size<w5.heap.size:=aC _ _ s0;have n1:¬(w3.heap.size=w.heap.size):=(by omega);have n2:¬(w.heap.size=w3.heap.size):=(by omega);go_wp2;go_roundw
       case rel=>
        obtain⟨T',K',v',f1,f2,f3,f4,f5,f6,f7,f8,f9,cb⟩:=Za bs;exact⟨k+1,T',K',v',by omega,by go_num,f1,f2,f3,f4,f5,f6,f7,f8,f9,cb⟩
       case measure=>simp[intOf];omega
  ·have e:k=ni:=(by omega);subst e;have R:=Za A;rw[Gq h I k (by rw[Za HZ];exact aE _),Za HX] at R;have R1:Hid (x=0):=(by show _=_;injection R);have R2:S=T.map (·.1):=(by injection R with _ R;injection R);have R3:M=K'.map (·.1):=(by injection R with _ R;injection R);subst R2 R3
   have ep:Hid (wr.ownsRow w0.heap.size 162 6 (F (dG ⟨w.heap.size,0,aD⟩) k k) k (Zl T)):=by
    have:=Za df;rw[Nat.sub_self,List.replicate_zero,List.append_nil] at this;exact this
   go_wp2;go_ret2;exact⟨dG ⟨w.heap.size,0,aD⟩,k,k,by rw[Za R1];rfl,ae.bel,λ_=>⟨v',K',T,rfl,rfl,Za av,fo,HT.symm,Za HT,Za ep,Za HL,ap.1,ap.2,Za ae,w.heap.size,rfl,Za bu,by omega⟩⟩
set_option maxRecDepth 10000 in
theorem U4(p h k n:Int)(a m c T)(x:Int)(w:World)(hT:TxsAt w a m T)(hx:Yu (p,h,k,n,T)=x) :
  ZH 111 #[.agg #[E J p,E J h,E J k,E J n,F a m c]] w (E J x):=by
 subst hx;obtain⟨X,hX,bh,ca⟩:=ka00 w [E J p,E J h,E J k,E J n,F a m c] 33;obtain⟨af,ac,HT⟩:=kh3 ca bh (hT.later bh);have hz:T.length=m:=hT.1;unfold Yu;simp only;rw[hz];cases q:Xp p h k n with
 | false=>
  have C:=Zb (Hf p h k n a m c false X q);rw[if_pos rfl];go_enter func111,ntmps111;go_wp2_with fail;rw[<-hX];refine C.mono ?_;rintro e w1 ⟨rfl,aa⟩;have ad:=Zb (Zf ac aa);go_wp2;go_ret;exact⟨rfl,Za ad⟩
 | true=>
  have C:=Zb (Hf p h k n a m c true X q);rw[if_neg (by decide)];by_cases h4:4<m
  ·rw[if_pos h4];go_enter func111,ntmps111;go_wp2_with fail;rw[<-hX];refine C.mono ?_;rintro e w1 ⟨rfl,aa⟩;have ag:=ZE aa af;obtain⟨-,-,-,-,c4,l1⟩:=kc5 ag;have ad:=Zb (Zf ac aa);go_wp2;go_ret;exact⟨rfl,Za ad⟩
  ·rw[if_neg h4];by_cases h0:m=0
   ·subst h0;rw[if_pos rfl];go_enter func111,ntmps111;go_wp2_with fail;rw[<-hX];refine C.mono ?_;rintro e w1 ⟨rfl,aa⟩;have ag:=ZE aa af;obtain⟨-,-,-,-,c4,l1⟩:=kc5 ag;have ad:=Zb (Zf ac aa);go_wp2;go_ret;exact⟨rfl,Za ad⟩
   ·rw[if_neg h0];have g0:((m:Int) == 0)=false:=(by simp[h0]);have HZ:=Zb hz;obtain⟨b,off,rfl,cm,cc⟩:=HT.2 (by omega);have HC:=Zb cc;go_enter func111,ntmps111;go_wp2_with fail;rw[<-hX];refine C.mono ?_;rintro e w1 ⟨rfl,aa⟩;have ag:=ZE aa af;obtain⟨-,-,-,-,c4,l1⟩:=kc5 ag;have bw:=Zb aa;go_wp2
    go_loopw [20] (λi wr=>∃ k:Nat,k<=m/\i = E J k/\Hid (Yx h 0 T=Yx h k (T.drop k))/\Hid (ZD X wr)) (λi _=>m - (intOf i).toNat)
    case atStart=>exact⟨0,aI _,rfl,rfl,bw⟩
    case round=>
     obtain⟨j,hj,rfl,A,am⟩:=hrel;by_cases ce:j<m
     ·have bj:j<T.length:=(by rw[Za HZ];exact ce);have bi:=TxAt.kept _ _ _ _ _ am (HC j bj);have ST:=Zb (Zbe h T j bj);obtain⟨t,ht⟩:=ZF (T[j]);rw[ht] at bi ST;obtain⟨t1,I,O⟩:=t;obtain⟨bz,⟨ai,ni,ci,g1,hI,sI⟩,ao,no,co,g2,hO,_⟩:=bi;have A2:Hid (Yx h 0 T=if Zp (t1,I,O)≠0 then Zp (t1,I,O) else if Uz (t1,I,O) j h=false then 4 else Yx h (j+1) (T.drop (j+1))):=(by show _=_;rw[Za A,Za ST]);simp only at bz g1 g2 hI hO;obtain⟨Y,hY,ap,bg⟩:=ka00 wr [E J t1,F ai ni ci,F ao no co] 50;obtain⟨bx,al⟩:=kh2 bg (Zf am ap);have cn:=ZE al af;obtain⟨y0,y1,y2,yl⟩:=kc3 bg;obtain⟨x,hx⟩:=ZF (Zp (t1,I,O));obtain⟨o,ho⟩:=ZF (Uz (t1,I,O) j h);have CT:=Zb (Qo t1 ai ao ni ci no co I O Y (hI.later ap) (hO.later ap) sI);have CS:=Zb (λW=>Zgm t1 ai ao ni ci no co I O j h o W hI.1 ho);rw[hx] at A2 CT;rw[ho] at A2;by_cases ar:x=0
      ·subst ar
       have A3:Hid (Yx h 0 T=if o=false then 4 else Yx h (j+1) (T.drop (j+1))):=by
        have q:=Za A2;rw[if_neg (by decide)] at q;exact q
       go_wp2_with fail;rw[<-hY];go_wp2_with fail;refine CT.mono ?_;rintro e w2 ⟨rfl,aj⟩;have cg:=ZE aj bx;have aw:=Zb (Zf al aj);have cd:=ZE aw af;obtain⟨z0,z1,z2,zl⟩:=kc3 cg;obtain⟨-,k1,kl⟩:=kc2 cd;go_wp2_with fail;refine (CS _).mono ?_;rintro e w3 ⟨rfl,cb⟩;have ax:=Zb (Zf aw cb);cases o with
       | false=>
        have R:Hid (Yx h 0 T=4):=(by show _=_;rw[Za A3];rfl);have ae:=Zb (Zf ac ax);go_wp2;go_ret;exact⟨by rw[Za R];rfl,Za ae⟩
       | true=>
        have R:Hid (Yx h 0 T=Yx h (j+1) (T.drop (j+1))):=(by show _=_;rw[Za A3];rfl);go_wp2;go_roundw
        case rel=>exact⟨j+1,by omega,by go_num,R,ax⟩
        case measure=>simp[intOf];omega
      ·have R:Hid (Yx h 0 T=x):=(by show _=_;rw[Za A2,if_pos ar]);have gx:(x != 0)=true:=(by simp[ar]);go_wp2_with fail;rw[<-hY];go_wp2_with fail;refine CT.mono ?_;rintro e w2 ⟨rfl,aj⟩;have ae:=Zb (Zf ac (Zf al aj));go_wp2;go_ret;exact⟨by rw[Za R];rfl,Za ae⟩
     ·have R:Hid (Yx h 0 T=0):=(by show _=_;rw[Za A,Ft h T j (by rw[Za HZ];omega)]);have ae:=Zb (Zf ac am);go_wp2;go_ret;exact⟨by rw[Za R];rfl,Za ae⟩
theorem Nb:∀ (L pre:List InD),Z8 pre L=0->∀ x∈L,P9 x=true/\chk x.2.2=0
 | [],_,_,x,hx=>by cases hx
 | y :: r,pre,h,x,hx=>by
  unfold Z8 at h;split at h
  ·rename_i h1
   rcases aW.1 hx with rfl|hx
   ·unfold Wt at h1;split at h1
    ·cases h1
    ·rename_i h2;split at h1
     ·rename_i h3;exact absurd h1 h3
     ·rename_i h3;exact⟨by simpa using h2,by simpa using h3⟩
   ·exact Nb r _ h x hx
  ·contradiction
theorem Hn:∀ (L:List Yd),Z0 L=0->∀ x∈L,1<=x.1/\chk x.2=0
 | [],_,x,hx=>by cases hx
 | y :: r,h,x,hx=>by
  unfold Z0 at h;split at h
  ·rename_i h1
   rcases aW.1 hx with rfl|hx
   ·unfold Yz at h1;split at h1
    ·cases h1
    ·rename_i h2;exact⟨by omega,h1⟩
   ·exact Hn r h x hx
  ·contradiction
theorem Zkk:∀ (Z:List Int) (s:Int),(sm s Z).2=0->∀ z∈Z,0<=z/\z<=1000000000
 | [],_,_,z,hz=>by cases hz
 | y :: r,s,h,z,hz=>by
  unfold sm at h;split at h
  ·rename_i h1;split at h
   ·rcases aW.1 hz with rfl|hz
    ·exact h1
    ·exact Zkk r _ h z hz
   ·cases h
  ·cases h
structure TxOk(t:TxD):Prop where
 ins6:t.2.1.length<=6
 outs6:t.2.2.length<=6
 dG:0<t.2.2.length
 hgt:0<=t.1/\t.1<=1000
 fit:Mq t=true
 chkI:Z8 [] t.2.1=0
 ins:∀ x∈t.2.1,P9 x=true/\chk x.2.2=0
 outs:∀ x∈t.2.2,(1<=x.1/\x.1<=1000000000)/\chk x.2=0
theorem TxOk.of{t}(h:Zp t=0):TxOk t:=by
 unfold Zp at h;split at h
 ·cases h
 ·rename_i h1;split at h
  ·cases h
  ·rename_i h2;split at h
   ·cases h
   ·rename_i h3;split at h
    ·rename_i h4;exact absurd h h4
    ·rename_i h4;have ab:Z8 [] t.2.1=0:=(by simpa using h4);have aa:Mq t=true:=(by simpa using h3);unfold Zx at h;split at h
     ·rename_i h5;refine⟨by omega,by omega,by omega,?_,aa,ab,Nb _ _ ab,λx hx=>?_⟩
      ·unfold Mq at aa;split at aa
       ·simp only[aX,decide_eq_true_eq] at aa;omega
       ·have:t.1=0:=(by simpa using aa);omega
      ·have a:=Hn _ h5 x hx;have b:=Zkk _ _ h x.1 (List.mem_map.2 ⟨x,hx,rfl⟩);exact⟨⟨a.1,b.2⟩,a.2⟩
     ·contradiction
theorem J9(x:InD):P9 x=true↔(1<=x.1/\x.1<=120)/\(0<=x.2.1/\x.2.1<=5):=by
 unfold P9;simp only[aX,decide_eq_true_eq]
def namesL:List ByteArray:=[⟨#[]⟩,⟨#[]⟩,⟨#[100,117,112]⟩,⟨#[115,119,97,112]⟩,⟨#[100,114,111,112]⟩,⟨#[97,100,100]⟩,⟨#[115,117,98]⟩,⟨#[115,97,109,101]⟩,⟨#[108,101,115,115]⟩,⟨#[110,111,116]⟩,⟨#[97,110,100]⟩,⟨#[118,101,114,105,102,121]⟩,⟨#[104,101,105,103,104,116]⟩,⟨#[109,105,120]⟩]
def Jz(k:Nat):ByteArray:=namesL.getD k ⟨#[]⟩
def Zcx:Array Value:=(namesL.map cF).toArray
def Xo(o:Int×Int):ByteArray:=if o.1=1 then ⟨(Lib.itoa o.2).toArray⟩ else Jz o.1.toNat
def Yg(l:List (Int×Int)):ByteArray:=⟨(Lib.join ((l.map Xo).map (·.data.toList)) [32]).toArray⟩
structure Env(w:World):Prop where
 tab:Lib.TabIs aB w "internal/strconv.uint64pow10" .u64 Lib.pow10Tab
 nam:w.var? aB "cairn/lock.names" = dG Zcx
theorem Tryz.gTab:Tryz.prog.globalNamed "internal/strconv.uint64pow10" = dG 2:=by kernel_rfl
theorem Tryz.gNam:Tryz.prog.globalNamed "cairn/lock.names" = dG 4:=by kernel_rfl
theorem Env.later{w w':World}(h:Env w)(hb:ZD w w'):Env w':=
 ⟨Joins.var_stays Tryz.gTab h.tab hb (aE _),Joins.var_stays Tryz.gNam h.nam hb (aE _)⟩
theorem Env.name{w:World}(h:Env w)(k:Nat)(hk:k<14):w.cell? ⟨4,k,aD⟩=dG (.string (Jz k)):=by
 have:=World.var?_cell Tryz.gNam h.nam k;rw[this];have hl:k<namesL.length:=hk;simp[Zcx,Jz,hl]
theorem Env.lt{w:World}(h:Env w):4<w.heap.size:=aC _ _ (h.name 0 (by decide))
theorem Kj{a b:ByteArray}(h:a=b):Ending.returned (.string a) = dB (.string b):=by rw[h]
theorem Lu(k n:Int)(w:World)(hE:Env w)(hc:Xd (k,n)=0) :
  ZH 246 #[.agg #[E J k,E J n]] w (.string (Xo (k,n))):=by
 have hb:ZD w (w.alloc (dA #[E J k,E J n] 139)):=(Below.refl _ _).alloc (aE _) _;obtain⟨HB,HE⟩:=kh2 hb hE;by_cases h1:k=1
 ·subst h1
  have hn : -1000000<=n/\n<=1000000:=by
   have:fit n=true:=by
    simp only[Xd] at hc;cases h:fit n with
    | true=>rfl
    | false=>simp[h] at hc
   exact (Xt n).1 this
  have g0 : -9223372036854775808<=n:=by omega
  have g1:n<=9223372036854775807:=by omega
  have e:Xo (1,n)=⟨(Lib.itoa n).toArray⟩:=by simp[Xo]
  rw[e];have HT:=Zb (hE.later hb).tab;clear hE hc hb e hn;go_enter func246,ntmps246;go_wp2_with fail;refine (Tryz.strconv_Itoa n g0 g1 _ HT).mono ?_;rintro e w1 ⟨rfl,k,os,rfl⟩;have af:=Zb (HB.trans ((Lib.below_grow _ _ (aE _) k os).mono HB.size));go_wp2;go_ret;exact⟨rfl,Za af⟩
 ·have hk:1<=k/\k<=13:=by
   simp only[Xd] at hc;split at hc
   ·cases hc
   ·omega
  obtain⟨m,rfl⟩:=Int.eq_ofNat_of_zero_le (show 0<=k by omega);have e:Xo ((m:Int),n)=Jz m:=by simp[Xo];intro h;omega
  have c1:=hE.name m (by omega);have hl:=hE.lt;have g1:((m:Int) == 1)=false:=by simp;omega
  have g2:(m:Int)<14:=by omega
  rw[e];obtain⟨x,hx⟩:=ZG (Jz m);rw[<-hx] at c1 ⊢;clear hE hc hb e h1 hk hx;go_enter func246,ntmps246;go_wp2;go_ret;exact⟨rfl,Za HB⟩
theorem Cn{a b:ByteArray}{v}(h:a=b):Ending.returned (dC #[.string a,v]) = dB (dC #[.string b,v]):=by rw[h]
theorem Tryz.info9:(Tryz.prog.info? 9).map (λi=>(i.zero,i.size,i.bytes))=dG (dG (.string ⟨#[]⟩),1,16):=by kernel_rfl
theorem Zcq(o:Int×Int)(h:Xd o=0):(Xo o).data.toList.length<=21:=by
 obtain⟨k,n⟩:=o;unfold Xo;split
 ·rename_i h1;have h1:k=1:=h1;subst h1
  have hn : -1000000<=n/\n<=1000000:=by
   have:fit n=true:=by
    simp only[Xd] at h;cases hf:fit n with
    | true=>rfl
    | false=>simp[hf] at h
   exact (Xt n).1 this
  simpa using Lib.itoa_length_le n (by omega) (by omega)
 ·have hk:1<=k/\k<=13:=by
   simp only[Xd] at h;split at h
   ·cases h
   ·omega
  show (Jz k.toNat).data.toList.length<=21;have aa:k.toNat<14:=by omega
  have all:∀ j:Fin 14,(Jz j.val).data.toList.length<=21:=by decide
  exact all ⟨k.toNat,aa⟩
theorem Zff:∀ (xs:List (List UInt8)),(∀ x∈xs,x.length<=21)->Lib.lens xs<=21*xs.length
 | [],_=>by simp[Lib.lens]
 | x :: r,h=>by
  have h1:=h x (by simp);have h2:=Zff r (λy hy=>h y (by simp[hy]));simp only[Lib.lens,cK] at h2 ⊢;simp at h2 ⊢;omega
theorem Ra(l:List (Int×Int))(h16:l.length<=16)(h:V8 l=0):(Lib.join ((l.map Xo).map (·.data.toList)) [32]).length<=400:=by
 cases l with
 | nil=>simp[Lib.join_nil]
 | cons o r=>
  rw[List.map_cons,List.map_cons,Lib.join_length]
  have hl:=Zff (((o :: r).map Xo).map (·.data.toList)) (λx hx=>by
   simp only[List.map_map,List.mem_map,Function.comp] at hx;obtain⟨q,hq,rfl⟩:=hx;obtain⟨i,hi,rfl⟩:=List.getElem_of_mem hq;exact Zcq _ (Rj h i hi))
  simp only[List.map_cons,cK,cO,List.length_nil] at hl h16 ⊢;omega
theorem Zhd(a len cap l)(w:World)(hO:OpsAt w a len l)(hc:chk l≠0) :
  ZH 198 #[F a len cap] w (dC #[.string ⟨#[]⟩,E J (chk l)]):=by
 have CK:=Zb (U9 a len cap l w hO);obtain⟨x,hx⟩:=ZG (chk l);rw[<-hx] at hc CK ⊢;have ag:(x != 0)=true:=by simp[hc]
 clear hO hc hx;go_enter func198,ntmps198;go_wp2_with fail;refine CK.mono ?_;rintro e w1 ⟨rfl,ad⟩;have af:=Zb ad;clear ad;go_wp2;go_ret2;exact⟨rfl,Za af⟩
def Zel(l:List (Int×Int))(j:Nat):Value:=.string (Xo (l.getD j (0,0)))
set_option maxRecDepth 10000 in
theorem Zcl(b off len cap:Nat)(l:List (Int×Int))(w:World)(hE:Env w)(hz:l.length=len)(cy:0<len)(aa:chk l=0)(bf:b<w.heap.size)
  (hc:∀ i,i<len->w.cell? ⟨b,off+i*2,aD⟩=dG (E J (l.getD i (0,0)).1)/\w.cell? ⟨b,off+i*2+1,aD⟩=dG (E J (l.getD i (0,0)).2)) :
  ZH 198 #[F (dG ⟨b,off,aD⟩) len cap] w (dC #[.string (Yg l),E J 0]):=by
 obtain⟨i0,hi,cn,cp,cq⟩:=bX Tryz.info9
 have h16:len<=16:=by
  unfold chk at aa;split at aa
  ·cases aa
  ·omega
 have bh:V8 l=0:=by
  unfold chk at aa;split at aa
  ·cases aa
  ·exact aa
 obtain⟨HK,cd,CK⟩:=kh3 (Rj bh) (Ra l (by omega) bh) (U9 (dG ⟨b,off,aD⟩) len cap l w ⟨hz,λ_=>⟨b,off,rfl,hc⟩⟩);rw[aa] at CK;obtain⟨HE,HC,HZ⟩:=kh3 hE hc hz;go_enter func198,ntmps198;go_wp2_with fail;refine CK.mono ?_;rintro e w1 ⟨rfl,cg⟩;have ax:=Zb cg
 go_wp2_with (at_make;refine wpList_make_full _ rfl _ _ 22 rfl w1.heap.size 9 i0 (.string ⟨#[]⟩) 1 cU hi cn cp .i64 .i64 _ _ len rfl rfl rfl rfl (by rw[cq];omega) (by unfold aT;omega) (aE _) ?_;intro w2 cl cj)
 have cm:FillV w1.heap.size 9 len (Zel l) w1 w2 0:=⟨⟨_,cl,λj hj=>absurd hj (by omega)⟩,(Below.refl _ _).grown cj (aE _) (λk h=>by cases h)⟩;have cb:=Zb cm
 go_loopw [18] (λi wr=>∃ k:Nat,k<=len/\i = E J k/\FillV w1.heap.size 9 len (Zel l) w1 wr k) (λi _=>len - (intOf i).toNat)
 case atStart=>exact⟨0,aI _,rfl,Za cb⟩
 case round=>
  obtain⟨k,hk,rfl,an⟩:=hrel;have HF:=Zb an;have ad:ZD w wr:=ax.trans (an.bel.mono ax.size);have bs:=Zb ad;by_cases ag:k<len
  ·have bi:k<l.length:=(by rw[Za HZ];exact ag);obtain⟨c1,c2⟩:=HC k ag;rw[<-ad.cell (p:=⟨b,off+k*2,aD⟩) bf] at c1;rw[<-ad.cell (p:=⟨b,off+k*2+1,aD⟩) bf] at c2;obtain⟨q,hq⟩:=ZG (l.getD k (0,0));rw[<-hq] at c1 c2;have bj:q=l[k]:=(by rw[hq];simp[bi]);have aq:=HK k bi;rw[<-bj] at aq;have HQ:=Zb hq;obtain⟨kd,n⟩:=q;have am:ZD wr (wr.alloc (dA #[E J kd,E J n] 139)):=(Below.refl _ _).alloc (aE _) _;have PO:=Zb (Lu kd n _ ((HE.later ad).later am) aq);obtain⟨x,hx⟩:=ZG (Xo (kd,n));rw[<-hx] at PO;obtain⟨HX,br⟩:=kh2 hx am;clear an ad hq bj aq hx am;go_wp2_with fail;refine PO.mono ?_;rintro e w3 ⟨rfl,bd⟩;have af:=(HF.keep br).keep bd;obtain⟨v,cx⟩:=af.old ag;have cu:=af.free k;have bw:=Zb af;clear bd af;go_wp2;go_roundw
   case rel=>
    refine⟨k+1,by omega,by go_num,bw.step ag ?_⟩;show cF x=Zel l k;rw[Za HX,Za HQ];rfl
   case measure=>simp[intOf];omega
  ·skip
   have e:k=len:=(by omega);subst e
   have HJ:Hid (∀ (j:Nat) x,(l.map Xo)[j]? = dG x->wr.cell? ⟨w1.heap.size,0+j,aD⟩=dG (.string x)):=λj x hj=>by
    have ap:j<l.length:=by
     rcases Nat.lt_or_ge j l.length with h|h
     ·exact h
     ·rw[List.getElem?_eq_none (by simpa using h)] at hj;cases hj
    rw[bO,(Za HF).cells (aE _) j (by rw[<-Za HZ];exact ap)];simp[ap] at hj;simp[Zel,ap,hj]
   have HL:Hid ((l.map Xo).length=k):=(by rw[cO];exact Za HZ);have JN:=Zb (Tryz.strings_Join w1.heap.size 0 k (l.map Xo) ⟨#[32]⟩ wr HJ HF.lt (by rw[Za HL];omega) (by rw[Za HL];exact aE _) (aO cd (by decide)));rw[Za HL] at JN
   change Hid (Calls _ _ _ _ λe w'=>e = dB (.string (Yg l))/\_) at JN
   obtain⟨t,ht⟩:=ZG (Yg l);rw[<-ht] at JN;have HT:=Zb ht;clear ht;go_wp2_with fail;refine JN.mono ?_;rintro e w4 ⟨rfl,be⟩;have bq:=Zb (Bh bs be);clear be;go_wp2;go_ret2;exact⟨Cn HT,Za bq⟩
theorem Zcm(a cap)(w:World) :
  ZH 198 #[F a 0 cap] w (dC #[.string ⟨#[]⟩,E J 0]):=by
 obtain⟨i0,hi,ac,ad,ae⟩:=bX Tryz.info9;go_enter func198,ntmps198;go_wp2_with fail;refine (Ni a cap w).mono ?_;rintro e w1 ⟨rfl,rfl⟩
 go_wp2_with (at_make;refine wpList_make_full _ rfl _ _ 22 rfl w.heap.size 9 i0 (.string ⟨#[]⟩) 1 cU hi ac ad .i64 .i64 _ _ 0 rfl rfl rfl rfl (by rw[ae];omega) (by unfold aT;omega) (aE _) ?_;intro w2 ag ab)
 have HB:Hid (ZD w w2):=(Below.refl _ _).grown ab (aE _) (λk h=>by cases h);refine bB 1 ?_;rw[aS];go_wp2_with fail;refine (Tryz.strings_Join_none _ _ _ _).mono ?_;rintro e w3 ⟨rfl,rfl⟩;go_wp2;go_ret2;exact⟨rfl,Za HB⟩
def prT(l:List (Int×Int)):ByteArray:=if chk l=0 then Yg l else ⟨#[]⟩
theorem Zhe(a len cap l)(w:World)(hE:Env w)(hO:OpsAt w a len l) :
  ZH 198 #[F a len cap] w (dC #[.string (prT l),E J (chk l)]):=by
 unfold prT;by_cases aa:chk l=0
 ·rw[if_pos aa,aa];obtain⟨hz,hc⟩:=hO;by_cases h:len=0
  ·subst h;have e:l=[]:=aJ.1 hz;subst e;exact Zcm a cap w
  ·obtain⟨b,off,rfl,ac⟩:=hc (by omega);exact Zcl b off len cap l w hE hz (by omega) aa (aC _ _ (ac 0 (by omega)).1) ac
 ·rw[if_neg aa];exact Zhd a len cap l w hO aa
structure EnvP(w:World):Prop where
 env:Env w
 syn:∃ tp p,w.var? aB "strconv.ErrSyntax" = dG #[.iface tp p]
 ran:∃ tp p,w.var? aB "strconv.ErrRange" = dG #[.iface tp p]
 shp:w.ShapedOpen aB
def Xq(v:Int):ByteArray:=⟨(Lib.itoa v).toArray⟩
theorem Qy{a b:ByteArray}(h:a.data.toList=b.data.toList):a=b:=by
 cases a with|mk d=>cases b with|mk e=>cases d;cases e;simp at h;rw[h]
def Va(aa:ByteArray)(Z:List Int):ByteArray:=Z.foldl (λt z=>t++(⟨#[32]⟩++Xq z)) aa
theorem Dp(aa:ByteArray)(Z)(z:Int):Va aa (Z++[z])=Va aa Z++(⟨#[32]⟩++Xq z):=by unfold Va;rw[List.foldl_append];rfl
theorem Wy(n:Int)(h : -10000000000<=n/\n<=10000000000):(Xq n).size<=21:=by
 have:=Lib.itoa_length_le n (by omega) (by omega);simpa[Xq,ByteArray.size] using this
theorem L8(x:ByteArray)(c:UInt8):((⟨#[c]⟩:ByteArray)++x).size=x.size+1:=by rw[ByteArray.size_append];show 1+x.size=_;omega
theorem Qc(x:ByteArray)(c:UInt8):(x++(⟨#[c]⟩:ByteArray)).size=x.size+1:=by rw[ByteArray.size_append];rfl
theorem Jt{α : Type}(f : α->ByteArray)(m:Nat):∀ (Z:List α) (t:ByteArray),(∀ z∈Z,(f z).size<=m)->(Z.foldl (λt z=>t++f z) t).size<=t.size+m*Z.length
 | [],t,_=>by simp
 | z :: r,t,h=>by
  have h1:=Jt f m r (t++f z) (λy hy=>h y (by simp[hy]));have h2:=h z (by simp);rw[ByteArray.size_append] at h1;simp only[List.foldl_cons,cK,Nat.mul_add,Nat.mul_one];omega
theorem Vx(aa:ByteArray)(Z:List Int)(h:∀ z∈Z,-10000000000<=z/\z<=10000000000):(Va aa Z).size<=aa.size+22*Z.length:=
 Jt (λz=>(⟨#[32]⟩:ByteArray)++Xq z) 22 Z aa (λz hz=>by rw[L8];have:=Wy z (h z hz);omega)
set_option maxRecDepth 10000 in
theorem Qu(aa:ByteArray)(b off n c:Nat)(Z:List Int)(w:World)(hE:Env w)(hw:aa.size<=10)(hn:n<=6)(hz:Z.length=n)(hl:b<w.heap.size)
  (hc:∀ i,i<n->w.cell? ⟨b,off+i,aD⟩=dG (E J (Z.getD i 0))) (hr:∀ z∈Z,-10000000000<=z/\z<=10000000000) :
  ZH 113 #[.string aa,F (dG ⟨b,off,aD⟩) n c] w (.string (Va aa Z)):=by
 obtain⟨HE,HC,HZ,HR⟩:=kh4 hE hc hz hr;go_enter func113,ntmps113;go_wp2
 go_loopw [5,11] (λs i wr=>∃ k:Nat,k<=n/\i = E J k/\s = .string (Va aa (Z.take k))/\ZD w wr) (λ_ i _=>n - (intOf i).toNat)
 case atStart=>exact⟨0,aI _,rfl,rfl,Below.refl _ _⟩
 case round=>
  obtain⟨k,hk,rfl,rfl,hb⟩:=hrel;have HB:=Zb hb;by_cases aj:k<n
  ·have ae:k<Z.length:=(by rw[Za HZ];exact aj);have c1:=HC k aj;rw[<-hb.cell (p:=⟨b,off+k,aD⟩) hl] at c1;have e1:Z.getD k 0=Z[k]:=(by simp[ae]);rw[e1] at c1;have ak:=HR Z[k] (aQ ae);have hS:=Dp aa (Z.take k) Z[k];rw[<-aH ae] at hS
   have ax:(Va aa (Z.take k)).size<=200:=by
    have:=Vx aa (Z.take k) (λz hz=>HR z (List.mem_of_mem_take hz));rw[aV] at this;omega
   obtain⟨z,hz⟩:=ZF (Z[k]);rw[hz] at c1 ak hS;obtain⟨T,hT⟩:=ZF (Va aa (Z.take k));rw[hT] at hS ax ⊢;have HS:=Zb hS;have bf:=Wy z ak;have bg:((⟨#[32]⟩:ByteArray)++Xq z).size<=22:=by rw[L8];omega
   have IT:Hid (∀ w,Env w->Calls aB 49 #[E J z] w λe w'=>e = dB (.string (Xq z))/\ZD w w'):=λw hw=>
    (Tryz.strconv_Itoa z (by omega) (by omega) w hw.tab).mono λe w' ⟨h1,k,os,h2⟩=>⟨h1,by rw[h2];exact Lib.below_grow _ _ (aE _) k os⟩
   have EE:=Zb (HE.later hb);go_wp2_with fail;refine (IT _ EE).mono ?_;rintro e w3 ⟨rfl,ay⟩;have am:=Zb (Zf HB ay);go_wp2;go_roundw
   case rel=>exact⟨k+1,by omega,by go_num,by rw[Za HS],Za am⟩
   case measure=>simp[intOf];omega
  ·have e:k=n:=(by omega);subst e;have HT:Hid (Va aa (Z.take k)=Va aa Z):=(by show _=_;rw[List.take_of_length_le (by rw[Za HZ];exact aE _)]);go_wp2;go_ret;exact⟨Kj HT,Za HB⟩
def G9(aa:ByteArray)(Z:List Int)(l:List (Int×Int)):ByteArray:=((Va aa Z++⟨#[58]⟩)++Yg l)++⟨#[10]⟩
theorem Ud(l)(h:chk l=0):(Yg l).size<=400:=by
 unfold chk at h;split at h
 ·cases h
 ·have:=Ra l (by omega) h;simpa[Yg,ByteArray.size] using this
theorem Mi(aa:ByteArray)(Z:List Int)(l)(hw:aa.size<=10)(hz:Z.length<=2)(hr:∀ z∈Z,-10000000000<=z/\z<=10000000000)(hl:chk l=0):(G9 aa Z l).size<=460:=by
 unfold G9;have h1:=Vx aa Z hr;have h2:=Ud l hl;rw[Qc,ByteArray.size_append,Qc];have h3:22*Z.length<=44:=by omega
 omega
set_option maxRecDepth 10000 in
theorem Pb(a len cap l)(aa:ByteArray)(b off n c:Nat)(Z:List Int)(t:ByteArray)(w:World)(hE:Env w)(hO:OpsAt w a len l)(ac:chk l=0)(hw:aa.size<=10)(hn:n<=2)(hz:Z.length=n)(hl:b<w.heap.size)
  (hc:∀ i,i<n->w.cell? ⟨b,off+i,aD⟩=dG (E J (Z.getD i 0))) (hr:∀ z∈Z,-10000000000<=z/\z<=10000000000) (ht:G9 aa Z l=t) :
  ZH 155 #[F a len cap,.string aa,F (dG ⟨b,off,aD⟩) n c] w (.string t):=by
 have PR:=Zb (Zhe a len cap l w hE hO);have e:prT l=Yg l:=by unfold prT;rw[if_pos ac]
 rw[e,ac] at PR
 have R:Hid (∀ w',ZD w w'->Calls aB 113 #[.string aa,F (dG ⟨b,off,aD⟩) n c] w' λe w2=>e = dB (.string (Va aa Z))/\ZD w' w2):=λw' hb=>
  Qu aa b off n c Z w' (hE.later hb) hw (by omega) hz (aF hl hb.size) (λi hi=>by rw[hb.cell (p:=⟨b,off+i,aD⟩) hl];exact hc i hi) hr
 have s1:(Va aa Z).size<=54:=by have:=Vx aa Z hr;omega
 have s2:=Ud l ac;unfold G9 at ht;obtain⟨A,hA⟩:=ZF (Va aa Z);obtain⟨B,hB⟩:=ZF (Yg l);rw[hA] at R s1 ht;rw[hB] at PR s2 ht;have s3:(A++(⟨#[58]⟩:ByteArray)).size<=55:=by rw[Qc];omega
 have s4:((A++(⟨#[58]⟩:ByteArray))++B).size<=455:=by rw[ByteArray.size_append];omega
 have HT:=Zb ht;clear hE hO ac hz hc hr e hA hB ht;go_enter func155,ntmps155;go_wp2_with fail;refine PR.mono ?_;rintro e w1 ⟨rfl,am⟩;have ah:=Zb am;clear am;go_wp2_with fail;refine (R w1 ah).mono ?_;rintro e w2 ⟨rfl,an⟩;have au:=Zb (Zf ah an);clear an;go_wp2;go_ret;exact⟨Kj HT,Za au⟩
def txB:ByteArray:=⟨#[116,120]⟩
def inB:ByteArray:=⟨#[105,110]⟩
def Zpr:ByteArray:=⟨#[111,117,116]⟩
def Vn(h:Int):ByteArray:=Va txB [h]++⟨#[10]⟩
def Ty(x:InD):ByteArray:=G9 inB [x.1,x.2.1] x.2.2
def Jo(x:Yd):ByteArray:=G9 Zpr [x.1] x.2
def Xa(h:Int)(I:List InD):ByteArray:=I.foldl (λt x=>t++Ty x) (Vn h)
def Wb(t:ByteArray)(O:List Yd):ByteArray:=O.foldl (λt x=>t++Jo x) t
def Zr(t:TxD):ByteArray:=Wb (Xa t.1 t.2.1) t.2.2
theorem Pj(h:Int)(I x):Xa h (I++[x])=Xa h I++Ty x:=by unfold Xa;rw[List.foldl_append];rfl
theorem Tc(t:ByteArray)(O)(x:Yd):Wb t (O++[x])=Wb t O++Jo x:=by unfold Wb;rw[List.foldl_append];rfl
theorem Te(h:Int)(hh:0<=h/\h<=1000):(Vn h).size<=30:=by
 unfold Vn;have:=Vx txB [h] (λz hz=>by simp at hz;omega);rw[Qc];have e:txB.size=2:=rfl;simp only[cK,List.length_nil] at this;omega
theorem Hd(x:InD)(h:P9 x=true/\chk x.2.2=0):(Ty x).size<=460:=by
 have hp:=(J9 x).1 h.1;exact Mi inB [x.1,x.2.1] x.2.2 (by decide) (by simp) (λz hz=>by simp at hz;omega) h.2
theorem Pd(x:Yd)(h:(1<=x.1/\x.1<=1000000000)/\chk x.2=0):(Jo x).size<=460:=
 Mi Zpr [x.1] x.2 (by decide) (by simp) (λz hz=>by simp at hz;omega) h.2
theorem Vm(h:Int)(I:List InD)(hh:0<=h/\h<=1000)(hI:∀ x∈I,P9 x=true/\chk x.2.2=0):(Xa h I).size<=30+460*I.length:=by
 have h1:=Jt Ty 460 I (Vn h) (λx hx=>Hd x (hI x hx));have h2:=Te h hh;have h3:(Xa h I).size<=(Vn h).size+460*I.length:=h1;omega
theorem Qv(t:ByteArray)(O:List Yd)(hO:∀ x∈O,(1<=x.1/\x.1<=1000000000)/\chk x.2=0):(Wb t O).size<=t.size+460*O.length:=
 Jt Jo 460 O t (λx hx=>Pd x (hO x hx))
theorem Jp(w:World)(x)(t:aY):(w.alloc (dA #[x] t)).cell? ⟨w.heap.size,0,aD⟩=dG x:=by rw[bG _ _ _ _ rfl];rfl
def txT(t:TxD):ByteArray:=if Zp t=0 then Zr t else ⟨#[]⟩
set_option maxRecDepth 10000 in
theorem Br(h:Int)(ai ao ni ci no co I O)(x:Int)(w:World)(hI:InsAt w ai ni I)(hO:OutsAt w ao no O)(sI:SlOk ai ni ci)(hx:Zp (h,I,O)=x)(h0:x≠0) :
  ZH 115 #[.agg #[E J h,F ai ni ci,F ao no co]] w (dC #[.string ⟨#[]⟩,E J x]):=by
 have hb:=Zh w (dA #[E J h,F ai ni ci,F ao no co] 50);obtain⟨HB,C⟩:=kh2 hb (Qo h ai ao ni ci no co I O _ (hI.later hb) (hO.later hb) sI);rw[hx] at C;have g:(x != 0)=true:=by simp[h0]
 clear hb hI hO sI hx h0;go_enter func115,ntmps115;go_wp2_with fail;refine C.mono ?_;rintro e w2 ⟨rfl,ad⟩;have ah:=Zb (Zf HB ad);clear ad;go_wp2;go_ret2;exact⟨rfl,Za ah⟩
