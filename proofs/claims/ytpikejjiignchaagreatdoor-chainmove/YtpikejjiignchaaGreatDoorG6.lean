import Derived.Test.YtpikejjiignchaaGreatDoorH
import Derived.Test.YtpikejjiignchaaGreatDoorG5
open Go.Proofs.Tryz
open Go renaming TypeId->bO,heap_alloc_new->aK,lt_of_block->aA,bodyPost_ret->aR,wp_loop_rounds->aQ,rounds_succ->aL
open Go.Ending renaming returned->dX
open Go.Exit renaming inBlock->aO
open Go.IntKind renaming i64->J
open Go.Obj renaming cells->dW
open Go.Proofs.Tryz renaming prog->aB
open Go.RowKit.Below renaming heap_alloc->bH
open Go.Value renaming slice->bN,int->bC,int->E,slice->F,tuple->dY,pointer->dZ,bool->eA
open Go.World renaming block_lt_of_cell?->aC
open List renaming length_map->dF,map_append->bW,mem_append->cI,length_append->bB,length_take->bG
open Nat renaming le_succ->bZ,lt_of_lt_of_le->aI,le_trans->aT,zero_le->aP
set_option maxHeartbeats 6400000
namespace Go.Proofs.YtpikejjiignchaaGreatDoor
open Go.RowKit
theorem Yb{fn:Func}{p u:Tmp}{ty:bO}(h:fn.results=#[.cell p ty,.tmp u])(tmps:Array Value)(P:Program)(w) :
  (results fn tmps).run P w =
   ((asAddr (tmps.getD p undef)).run P w).andThen λa z=>((loadVar ty a).run P z).andThen λx O=>.ok (dY #[x,tmps.getD u undef]) O:=by
 simp only[results,h];simp[Sem.run_bind,Result.andThen]
set_option maxRecDepth 10000 in
theorem Na(w0 w:World)(p:Nat)(v)(K:List CV)(q:PtD)(h:Pu w0 w p v K)(hs:Srt (K.map (·.1)))(hn:K.length<=4096)(hf:Xp q (K.map (·.1))=false) :
  ZH 169 #[dZ (some ⟨p,0,none⟩),.agg #[E J q.1,E J q.2]] w (dY #[zeroC,eA false]):=by
 obtain⟨a,c,rfl,hC,hS⟩:=h.coins;obtain⟨n,aj⟩:=ZF (K.length);obtain⟨k,hk⟩:=ZF (pos q (K.map (·.1)));have ae:=h.box;rw[aj] at hC ae hn;obtain⟨X,O⟩:=ZG ((w.alloc (dW #[E J q.1,E J q.2] 99)).alloc (dW #[E J 0,E J 0,E J 0,F none 0 0,E J 0,eA false] 103));have aa:ZD w X:=by rw[O];exact Ze (Zg _ _) (Zg _ _)
 have ag:X.heap[w.heap.size+1]? = some (dW zeroCs.toArray 103 (0,0)):=by
  rw[O];have:=aK (w.alloc (dW #[E J q.1,E J q.2] 99)) (dW zeroCs.toArray 103);rw[show (w.alloc (dW #[E J q.1,E J q.2] 99)).heap.size=w.heap.size+1 by simp] at this;exact this
 have x0:X.cell? ⟨w.heap.size,0,none⟩=some (E J q.1):=by rw[O];exact Zc (Zg _ _) (Yo w _ _ _).1
 have x1:X.cell? ⟨w.heap.size,1,none⟩=some (E J q.2):=by rw[O];exact Zc (Zg _ _) (Yo w _ _ _).2
 have xp:X.cell? ⟨p,0,none⟩=some (F a n c):=Zc aa (Zd (X:=[F a n c]) ae 0 _ rfl);have PL:=Zb (λw' (hb:ZD X w')=>Sa a n c (K.map (·.1)) q k false w' hs (by omega) ((hC.later aa).later hb) hk hf);have am:=Zb aa;have af:=Zb ag;clear hk hf hC hS hs ae aa ag h aj;go_enter func169,ntmps169;go_wp2_with fail;rw[<-O];clear O
 go_region_held3 (λw'=>ZD X w'/\w'.cell? ⟨w.heap.size,0,none⟩=some (E J q.1)/\w'.cell? ⟨w.heap.size,1,none⟩=some (E J q.2)/\w'.cell? ⟨p,0,none⟩=some (F a n c))
  (first
  | exact⟨Zh _,x0,x1,xp⟩
  | (go_split_ands;refine⟨Ze (by assumption) ab,Zc ab (by assumption),Zc ab (by assumption),Zc ab (by assumption)⟩))
  (first|(go_at_call 194;go_split_ands;refine (PL _ (by assumption)).mono ?_;rintro e w' ⟨rfl,ab⟩))
 rename_i hH;have z:=(hH.1.block _ (aA af)).trans af;have HB:=Zb (Ze am hH.1);have f0:=Zi z 0;have f1:=Zi z 1;have f2:=Zi z 2;have f3:=Zi z 3;have f4:=Zi z 4;have f5:=Zi z 5;have c0:=Zd z 0 _ rfl;have c1:=Zd z 1 _ rfl;have c2:=Zd z 2 _ rfl;have c3:=Zd z 3 _ rfl;have c4:=Zd z 4 _ rfl;have c5:=Zd z 5 _ rfl;clear z hH;go_wp2;(try simp only[aO,Exit.then]);refine aR (v:=dY #[zeroC,eA false]) ?_ rfl ⟨rfl,?_⟩
 ·rw[Yb rfl];unfold zeroC;go_simp
 ·exact (((((HB.setCell (bZ _) _).setCell (bZ _) _).setCell (bZ _) _).setCell (bZ _) _).setCell (bZ _) _).setCell (bZ _) _
theorem Yz{w:World}{p:Nat}{v u}{t:bO}(h:w.heap[p]? = some (dW #[v] t (0,0))):(w.setCell ⟨p,0,none⟩ u).heap[p]? = some (dW #[u] t (0,0)):=by
 rw[setCell_eq_setRow w p 0 #[v] t (0,0) u h];exact setRow_heap w p _ _ t _ h
theorem Zoo(K:List CV)(k:Nat)(h:k<K.length):(K.map (·.1))[k]'(by simpa using h)=K[k].1:=by simp
theorem Qn(w:World)(a b c d e f)(t:bO):(w.alloc (dW #[a,b,c,d,e,f] t)).heap[w.heap.size]? = some (dW [a,b,c,d,e,f].toArray t (0,0)):=aK w _
set_option maxRecDepth 10000 in
theorem M9(w0 w)(p:Nat)(v:Value)(K:List CV)(q:PtD)(h:Pu w0 w p v K)(hs:Srt (K.map (·.1)))(hn:K.length<=4096)(hf:Xp q (K.map (·.1))=true) :
  Calls aB 169 #[dZ (some ⟨p,0,none⟩),.agg #[E J q.1,E J q.2]] w λe w'=>∃ (x:CV) (v':Value) (K':List CV),e = dX (dY #[cnV x.1 x.2.1 x.2.2.1 x.2.2.2,eA true])/\Ww q (K.map (·.1))=some (x.1,K'.map (·.1))/\x∈K/\(∀ y∈K',y∈K)/\K'.length+1=K.length /\
   Pu w0 w' p v' K'/\Gr w w' (PuS p v)/\v'.ownBlock=v.ownBlock:=by
 have hO:=h.own;obtain⟨k,z⟩:=ZF (pos q (K.map (·.1)));have hp:=Zbp (p:=q) hs;rw[hf,z] at hp;have bz:=Eq.symm hp;rw[Bool.and_eq_true,decide_eq_true_eq,decide_eq_true_eq,dF] at bz;obtain⟨ab,bg⟩:=bz
 have bw:pt ((K.map (·.1))[k]'(by simpa using ab))=q:=by
  rw[List.getElem?_eq_getElem (by simpa using ab),Option.map_some,Option.some.injEq] at bg;exact bg
 have hT:=Zjs (p:=q) hs (by rw[z];simpa using ab) (by simp only[z];exact bw);simp only[z] at hT;rw[Zoo K k ab,<-List.map_take,<-List.map_drop,<-bW] at hT;obtain⟨a,c,rfl,hC,hS⟩:=h.coins
 obtain⟨g,rfl⟩:∃ g,a=some ⟨g,0,none⟩:=by
  rcases hO.2 with ⟨_,e⟩|⟨g,_,_,e,_⟩
  ·omega
  ·simp only[Value.slice.injEq] at e;exact⟨g,e.1⟩
 obtain⟨n,bh⟩:=ZF (K.length);have ar:=h.box;have be:g≠p:=λe=>h.ne (by rw[e];rfl);have df:w0.heap.size<=g:=Y6 hO g rfl;obtain⟨x,hx⟩:=ZF (K[k]);have ca:x∈K:=by rw[<-hx];exact List.getElem_mem ab
 obtain⟨f0,f1,f2,f3,f4,f5⟩:=Qy K k ab;rw[hx] at f0 f1 f2 f3 f4 f5 hT;rw[bh] at hC ar hn ab hO;have cg:∀ j u,j<n*6->(Zk K)[j]? = some u->w.cell? ⟨g,j,none⟩=some u:=λj u hj hu=>by rw[World.ownsRow.cellAt hO j hj];exact hu
 obtain⟨X,hX⟩:=ZG ((w.alloc (dW #[E J q.1,E J q.2] 99)).alloc (dW #[E J 0,E J 0,E J 0,F none 0 0,E J 0,eA false] 103));have aq:ZD w X:=by rw[hX];exact Ze (Zg _ _) (Zg _ _)
 have bv:X.heap[w.heap.size+1]? = some (dW zeroCs.toArray 103 (0,0)):=by
  rw[hX];have:=aK (w.alloc (dW #[E J q.1,E J q.2] 99)) (dW zeroCs.toArray 103);rw[show (w.alloc (dW #[E J q.1,E J q.2] 99)).heap.size=w.heap.size+1 by simp] at this;exact this
 have x0:X.cell? ⟨w.heap.size,0,none⟩=some (E J q.1):=by rw[hX];exact Zc (Zg _ _) (Yo w _ _ _).1
 have x1:X.cell? ⟨w.heap.size,1,none⟩=some (E J q.2):=by rw[hX];exact Zc (Zg _ _) (Yo w _ _ _).2
 have xp:X.cell? ⟨p,0,none⟩=some (F (some ⟨g,0,none⟩) n c):=Zc aq (Zd (X:=[F (some ⟨g,0,none⟩) n c]) ar 0 _ rfl);have PL:=Zb (λw' (hb:ZD X w')=>Sa (some ⟨g,0,none⟩) n c (K.map (·.1)) q k true w' hs (by omega) ((hC.later aq).later hb) z hf);have D0:=Zb (cg _ _ (by omega) f0);have D1:=Zb (cg _ _ (by omega) f1);have D2:=Zb (cg _ _ (by omega) f2);have D3:=Zb (cg _ _ (by omega) f3);have D4:=Zb (cg _ _ (by omega) f4);have D5:=Zb (cg _ _ (by omega) f5);have cq:=Zb aq;have bs:=Zb bv;have HO:=Zb hO;have HT:=Zb hT;have HP:=Zb h;have cp:=Zb ar;have cz:=Zb ca;have aw:=Zb bh;have dj:p<w.heap.size:=h.lt;have ds:g<w.heap.size:=(hO.lt g rfl).2;clear z hf hC hS hs ar aq bv h hO hT bg bw hp f0 f1 f2 f3 f4 f5 cg hx ca bh;go_enter func169,ntmps169;go_wp2_with fail;rw[<-hX];clear hX
 go_region_held3 (λw'=>ZD X w'/\w'.cell? ⟨w.heap.size,0,none⟩=some (E J q.1)/\w'.cell? ⟨w.heap.size,1,none⟩=some (E J q.2)/\w'.cell? ⟨p,0,none⟩=some (F (some ⟨g,0,none⟩) n c))
  (first
  | exact⟨Zh _,x0,x1,xp⟩
  | (go_split_ands;refine⟨Ze (by assumption) ak,Zc ak (by assumption),Zc ak (by assumption),Zc ak (by assumption)⟩))
  (first|(go_at_call 194;go_split_ands;refine (PL _ (by assumption)).mono ?_;rintro e w' ⟨rfl,ak⟩))
 rename_i hH;have aa:=Ze cq hH.1;have bf:=(hH.1.block _ (aA bs)).trans bs;have d0:=Zc aa D0;have d1:=Zc aa D1;have d2:=Zc aa D2;have d3:=Zc aa D3;have d4:=Zc aa D4;have d5:=Zc aa D5;have bk:=hH.2.2.2;have dw:=aC _ _ bk;have dt:(k:Int)<(n:Int):=by omega
 have dz:IntKind.i64.wrap ((k:Int)+1)=(k:Int)+1:=by rw[IntKind.wrap_i64];omega
 obtain⟨Y,hY⟩:=ZG (w'.alloc (dW #[E J x.1.1,E J x.1.2.1,E J (cv x.1),.slice x.2.1 x.2.2.1 x.2.2.2,E J (ch x.1),eA (cr x.1)] 103));have aj:ZD w' Y:=by rw[hY];exact Zg _ _
 have hy:Y.heap[w'.heap.size]? = some (dW [E J x.1.1,E J x.1.2.1,E J (cv x.1),.slice x.2.1 x.2.2.1 x.2.2.2,E J (ch x.1),eA (cr x.1)].toArray 103 (0,0)):=by rw[hY];exact Qn _ _ _ _ _ _ _ _
 have bu:Y.ownsRow w0.heap.size 103 6 (F (some ⟨g,0,none⟩) n c) n (Zk K):=(Gr.of (S:=λ_=>False) (Ze aa aj)).own HO (λ_ _ q=>q);have av:=Ss w0.heap.size g n c k (k+1) K Y ab rfl aw bu;rw[show ((k+1:Nat):Int)=(k:Int)+1 by omega] at av;have ct:=Zb av;have yp:=Zc aj bk;have dx:=aC _ _ yp;have bo:=Zb (Ze aa aj);have bq:=Zb (ZE aj bf);have bt:=Zb hy;have dy:w.heap.size+1<w'.heap.size:=aA bf;clear hH ak aa bf xp x0 x1 aj hy bu av;go_wp2_with fail;rw[<-hY];clear hY;go_wp2_with fail;refine ct.mono ?_;rintro e w4 ⟨rfl,bx,al⟩;have am:=(al.block p (by omega) (by simp;exact λe=>be e.symm)).trans ((bo.block p dj).trans cp);have O:=(al.block (w.heap.size+1) (aA bq) (by simp;omega)).trans bq;have ad:=(al.block w'.heap.size (aA bt) (by simp;omega)).trans bt;have p4:=Zd (X:=[F (some ⟨g,0,none⟩) n c]) am 0 _ rfl;have ee:=Zi am 0;have e0:=Zd ad 0 _ rfl;have e1:=Zd ad 1 _ rfl;have e2:=Zd ad 2 _ rfl;have e3:=Zd ad 3 _ rfl;have e4:=Zd ad 4 _ rfl;have e5:=Zd ad 5 _ rfl;have z0:=Zd O 0 _ rfl;have z1:=Zd O 1 _ rfl;have z2:=Zd O 2 _ rfl;have z3:=Zd O 3 _ rfl;have z4:=Zd O 4 _ rfl;have z5:=Zd O 5 _ rfl;have y0:=Zi O 0;have y1:=Zi O 1;have y2:=Zi O 2;have y3:=Zi O 3;have y4:=Zi O 4;have y5:=Zi O 5;have n1:¬(w'.heap.size=p):=by omega
 have n2:¬(p=w'.heap.size):=by omega
 have n3:¬(w.heap.size+1=p):=by omega
 have n4:¬(p=w.heap.size+1):=by omega
 have n5:¬(w'.heap.size=w.heap.size+1):=by omega
 have n6:¬(w.heap.size+1=w'.heap.size):=by omega
 have GA:Hid (Gr w w4 (PuS p (F (some ⟨g,0,none⟩) n c))):=(Gr.of bo).grown al (λk z=>.inl (.inr z))
 have GS:Hid (∀ k,PuS p (F (some ⟨g,0,none⟩) n c) k->w0.heap.size<=k):=λk z=>by
  rcases z with rfl|z
  ·exact HP.ge
  ·cases z;exact df
 have GO:Hid (∀ k,(bN (some ⟨g,0,none⟩) (n - 1) c).ownBlock=some k->¬(k=p\/k=w.heap.size+1)):=λk z=>by
  cases z;rintro (e|e)
  ·exact be e
  ·have e2:g=w.heap.size+1:=e;omega
 have cw:=Zb bx;have cx:=Zb am;have du:=aA ad;have dv:p<w4.heap.size:=aA am;clear al bx am O ad d0 d1 d2 d3 d4 d5 yp bk;go_wp2;(try simp only[aO,Exit.then]);refine aR (v:=dY #[cnV x.1 x.2.1 x.2.2.1 x.2.2.2,eA true]) ?_ rfl ⟨x,F (some ⟨g,0,none⟩) (n - 1) c,K.take k++K.drop (k+1),rfl,Za HT,Za cz,?_,?_,?_,?_,rfl⟩
 ·rw[Yb rfl];unfold cnV;go_simp
 ·exact λy hy=>(cI.1 hy).elim List.mem_of_mem_take List.mem_of_mem_drop
 ·have:=Za aw;simp only[bB,bG,List.length_drop];omega
 ·have hl:(K.take k++K.drop (k+1)).length=n - 1:=by
   have:=Za aw;simp only[bB,bG,List.length_drop];omega
  have hp:=Za HP;refine⟨?_,hp.ge,?_,?_,λe=>be (by cases e;rfl),λy hy=>hp.lk y ((cI.1 hy).elim List.mem_of_mem_take List.mem_of_mem_drop)⟩
  ·exact ((GA.one p 0 (.inl (.inl rfl)) _).six (w.heap.size+1) (.inr (bZ _)) _ _ _ _ _ _).below hp.bel hp.bel.size GS
  ·exact ((Gr.refl _ (λk=>k=w.heap.size+1)).six (w.heap.size+1) (.inl rfl) _ _ _ _ _ _).heap (Yz cx) n4
  ·rw[hl];exact (((Gr.refl w4 (λk=>k=p\/k=w.heap.size+1)).one p 0 (.inl (.inl rfl)) _).six (w.heap.size+1) (.inl (.inr rfl)) _ _ _ _ _ _).own cw GO
 ·exact (GA.one p 0 (.inl (.inl rfl)) _).six (w.heap.size+1) (.inr (bZ _)) _ _ _ _ _ _
abbrev Zj:=Int×Int×Int×Int×List TxD
def TxAt(w:World)(b o:Nat)(t:TxD):Prop:=
 w.cell? ⟨b,o,none⟩=some (E J t.1)/\(∃ a n c,w.cell? ⟨b,o+1,none⟩=some (F a n c)/\InsAt w a n t.2.1/\SlOk a n c)/\(∃ a n c,w.cell? ⟨b,o+2,none⟩=some (F a n c)/\OutsAt w a n t.2.2/\SlOk a n c)
theorem TxAt.kept:Bg TxAt:=λ_ _ _ _ _ z h=>by
 obtain⟨h1,⟨a,n,c,h2,h3,h4⟩,a',n',O,h5,h6,h7⟩:=h;exact⟨Zc z h1,⟨a,n,c,Zc z h2,h3.later z,h4⟩,a',n',O,Zc z h5,h6.later z,h7⟩
def TxsAt(w:World)(a:Option Addr)(len:Nat)(l:List TxD):Prop:=RowsAt TxAt 3 w a len l
theorem TxsAt.later{w w':World}{a len l}(h:TxsAt w a len l)(z:ZD w w'):TxsAt w' a len l:=RowsAt.later TxAt.kept h z
def Wj(p h k n:Int):Bool:=(decide (0<=p) && decide (p<=120)) && ((decide (1<=h) && decide (h<=1000)) && ((decide (1<=k) && decide (k<=1000)) && (decide (0<=n) && decide (n<=1000000000))))
def Qc(t:TxD)(i h:Int):Bool:=if 0<i then !decide (t.2.1.length=0) else decide (t.2.1.length=0) && decide (t.1=h)
def Xa(h:Int):Nat->List TxD->Int
 | _,[]=>0
 | i,t :: r=>if Zr t≠0 then Zr t else if Qc t i h=false then 4 else Xa h (i+1) r
def Xo(b:Zj):Int:=if Wj b.1 b.2.1 b.2.2.1 b.2.2.2.1=false then 3 else if 4<b.2.2.2.2.length then 2 else if b.2.2.2.2.length=0 then 4 else Xa b.2.1 0 b.2.2.2.2
theorem Zci(h:Int)(T:List TxD)(k:Nat)(z:k<T.length):Xa h k (T.drop k)=if Zr T[k]≠0 then Zr T[k] else if Qc T[k] k h=false then 4 else Xa h (k+1) (T.drop (k+1)):=by
 rw[List.drop_eq_getElem_cons z];rfl
theorem Ay(h:Int)(T:List TxD)(k:Nat)(z:T.length<=k):Xa h k (T.drop k)=0:=by
 rw[List.drop_of_length_le z];rfl
theorem Z8(w:World)(a b c d e)(t:bO):(w.alloc (dW #[a,b,c,d,e] t)).heap[w.heap.size]? = some (dW [a,b,c,d,e].toArray t (0,0)):=aK w _
theorem Xb{fn:Func}{p:Tmp}{ty:bO}(h:fn.results=#[.cell p ty])(tmps:Array Value)(P:Program)(w) :
  (results fn tmps).run P w=((asAddr (tmps.getD p undef)).run P w).andThen λa z=>(loadVar ty a).run P z:=by
 simp only[results,h];simp[Sem.run_bind,Result.andThen]
set_option maxRecDepth 10000 in
theorem Ap(p h k n:Int)(a m c)(w:World) :
  ZH 125 #[.agg #[E J p,E J h,E J k,E J n,F a m c]] w (.agg #[E J p,E J h,E J k,E J n]):=by
 have z:=Zb (Ze (Zg w (dW #[E J p,E J h,E J k,E J n,F a m c] 68)) (Zg _ (dW #[E J p,E J h,E J k,E J n] 201)));go_enter func125,ntmps125;go_wp2;(try simp only[aO,Exit.then]);refine aR (v:=.agg #[E J p,E J h,E J k,E J n]) ?_ rfl ⟨rfl,?_⟩
 ·rw[Xb rfl];go_simp
 ·exact Za z
theorem Zgz(h:Int)(ai ao)(O ci no co:Nat)(I:List InD)(aj)(i:Nat)(ht:Int)(o:Bool)(w:World)(hI:I.length=O)(z:Qc (h,I,aj) i ht=o) :
  ZH 117 #[.agg #[E J h,F ai O ci,F ao no co],E J i,E J ht] w (eA o):=by
 have HB:=Zb (Zg w (dW #[E J h,F ai O ci,F ao no co] 52));unfold Qc at z;simp only at z;rw[hI] at z;clear hI;by_cases h1:i=0
 ·subst h1;rw[if_neg (by decide)] at z;by_cases h2:O=0
  ·subst h2;by_cases h3:h=ht
   ·subst h3;obtain rfl:true=o:=(by rw[<-z];simp);clear z;go_enter func117,ntmps117;go_wp2;go_ret;exact⟨rfl,Za HB⟩
   ·obtain rfl:false=o:=(by rw[<-z];simp[h3]);have g:(h == ht)=false:=(by simp[h3]);clear z h3;go_enter func117,ntmps117;go_wp2;go_ret;exact⟨by rw[<-g];rfl,Za HB⟩
  ·obtain rfl:false=o:=(by rw[<-z];simp[h2]);have g:((O:Int) == 0)=false:=(by simp[h2]);clear z;go_enter func117,ntmps117;go_wp2;go_ret;exact⟨rfl,Za HB⟩
 ·have hi:0<(i:Int):=by omega
  rw[if_pos hi] at z;by_cases h2:O=0
  ·subst h2;obtain rfl:false=o:=(by rw[<-z];simp);clear z;go_enter func117,ntmps117;go_wp2;go_ret;exact⟨rfl,Za HB⟩
  ·obtain rfl:true=o:=(by rw[<-z];simp[h2]);have g:((O:Int) == 0)=false:=(by simp[h2]);clear z;go_enter func117,ntmps117;go_wp2;go_ret;exact⟨rfl,Za HB⟩
theorem Rs(a b c d)(w) :
  (Instr.index 201 (.agg #[a,b,c,d]) (E J 0)).run aB w = .ok a w/\(Instr.index 201 (.agg #[a,b,c,d]) (E J 1)).run aB w = .ok b w /\
  (Instr.index 201 (.agg #[a,b,c,d]) (E J 2)).run aB w = .ok c w/\(Instr.index 201 (.agg #[a,b,c,d]) (E J 3)).run aB w = .ok d w:=by
 refine⟨?_,?_,?_,?_⟩ <;> kernel_rfl
theorem Xy(n lo hi:Int)(b:Bool)(w:World)(z:(decide (lo<=n) && decide (n<=hi))=b) :
  ZH 114 #[E J n,E J lo,E J hi] w (eA b):=
 (Xc n lo hi b w z.symm).mono λ_ _ ⟨h1,h2⟩=>⟨h1,h2 ▸ Below.refl _ _⟩
theorem Se(w:World)(a b c d)(t:bO):(w.alloc (dW #[a,b,c,d] t)).heap[w.heap.size]? = some (dW [a,b,c,d].toArray t (0,0)):=aK w _
set_option maxRecDepth 100000 in
theorem Ky(p h k n:Int)(a m c)(o:Bool)(w:World)(ho:Wj p h k n=o) :
  ZH 115 #[.agg #[E J p,E J h,E J k,E J n,F a m c]] w (eA o):=by
 obtain⟨X,hX⟩:=ZG (((w.alloc (dW #[E J p,E J h,E J k,E J n,F a m c] 68)).alloc (dW #[E J 0,E J 1,E J 1,E J 0] 201)).alloc (dW #[E J 120,E J 1000,E J 1000,E J 1000000000] 201));have bc:ZD w X:=by rw[hX];exact Ze (Ze (Zg _ _) (Zg _ _)) (Zg _ _)
 have hL:X.heap[w.heap.size+1]? = some (dW [E J 0,E J 1,E J 1,E J 0].toArray 201 (0,0)):=by
  rw[hX,bH _ _ _ (by simp)];have:=Se (w.alloc (dW #[E J p,E J h,E J k,E J n,F a m c] 68)) (E J 0) (E J 1) (E J 1) (E J 0) 201;rw[show (w.alloc (dW #[E J p,E J h,E J k,E J n,F a m c] 68)).heap.size=w.heap.size+1 by simp] at this;exact this
 have hH:X.heap[w.heap.size+2]? = some (dW [E J 120,E J 1000,E J 1000,E J 1000000000].toArray 201 (0,0)):=by
  rw[hX];have:=Se ((w.alloc (dW #[E J p,E J h,E J k,E J n,F a m c] 68)).alloc (dW #[E J 0,E J 1,E J 1,E J 0] 201)) (E J 120) (E J 1000) (E J 1000) (E J 1000000000) 201;rw[show ((w.alloc (dW #[E J p,E J h,E J k,E J n,F a m c] 68)).alloc (dW #[E J 0,E J 1,E J 1,E J 0] 201)).heap.size=w.heap.size+2 by simp] at this;exact this
 have C:=Zb (Ap p h k n a m c X);have bd:=Zb bc;have HL:=Zb hL;have HH:=Zb hH;have bh:=λw=>(Rs (E J p) (E J h) (E J k) (E J n) w).1;have bi:=λw=>(Rs (E J p) (E J h) (E J k) (E J n) w).2.1;have bj:=λw=>(Rs (E J p) (E J h) (E J k) (E J n) w).2.2.1;have bk:=λw=>(Rs (E J p) (E J h) (E J k) (E J n) w).2.2.2;unfold Wj at ho;clear bc hL hH;go_enter func115,ntmps115;go_wp2_with fail;rw[<-hX];clear hX;go_wp2_with fail;refine C.mono ?_;rintro e w1 ⟨rfl,aq⟩;have ao:=Zb (Ze bd aq);have an:=ZE aq HL;have am:=ZE aq HH;have ac:=Zd an 0 _ rfl;have ag:=Zd am 0 _ rfl;have ad:=Zd an 1 _ rfl;have ah:=Zd am 1 _ rfl;have ae:=Zd an 2 _ rfl;have ai:=Zd am 2 _ rfl;have af:=Zd an 3 _ rfl;have aj:=Zd am 3 _ rfl;have au:=aA an;have ar:=aA am;clear aq an am;go_wp2;have aw:ZD w1 w1:=Below.refl _ _;refine aQ 5 ?_;cases q0:(decide ((0:Int)<=p) && decide (p<=120)) with
 | false=>
  rw[q0] at ho;have CC:=Zb (λW=>Xy p 0 120 false W q0);clear q0;obtain rfl:false=o:=by rw[<-ho];rfl
  clear ho;rw[aL];go_wp2_with fail
  go_region_held3 (λW'=>ZD w1 W'/\W'.cell? ⟨w.heap.size+1,0,none⟩=some (E J 0)/\W'.cell? ⟨w.heap.size+2,0,none⟩=some (E J 120)/\W'.cell? ⟨w.heap.size+1,1,none⟩=some (E J 1)/\W'.cell? ⟨w.heap.size+2,1,none⟩=some (E J 1000)/\W'.cell? ⟨w.heap.size+1,2,none⟩=some (E J 1)/\W'.cell? ⟨w.heap.size+2,2,none⟩=some (E J 1000)/\W'.cell? ⟨w.heap.size+1,3,none⟩=some (E J 0)/\W'.cell? ⟨w.heap.size+2,3,none⟩=some (E J 1000000000))
   (first
   | exact⟨Ze aw (Zh _),ac,ag,ad,ah,ae,ai,af,aj⟩
   | (go_split_ands;refine⟨Ze (by assumption) z,Zc z (by assumption),Zc z (by assumption),Zc z (by assumption),Zc z (by assumption),Zc z (by assumption),Zc z (by assumption),Zc z (by assumption),Zc z (by assumption)⟩))
   (first|(go_at_call 114;refine (CC _).mono ?_;rintro e w' ⟨rfl,z⟩))
  rename_i O;have al:=Zb (Ze ao O.1);clear O;go_wp2;go_ret;exact⟨rfl,Za al⟩
 | true=>
  rw[q0] at ho;have CC:=Zb (λW=>Xy p 0 120 true W q0);clear q0;rw[aL];go_wp2_with fail
  go_region_held3 (λW'=>ZD w1 W'/\W'.cell? ⟨w.heap.size+1,0,none⟩=some (E J 0)/\W'.cell? ⟨w.heap.size+2,0,none⟩=some (E J 120)/\W'.cell? ⟨w.heap.size+1,1,none⟩=some (E J 1)/\W'.cell? ⟨w.heap.size+2,1,none⟩=some (E J 1000)/\W'.cell? ⟨w.heap.size+1,2,none⟩=some (E J 1)/\W'.cell? ⟨w.heap.size+2,2,none⟩=some (E J 1000)/\W'.cell? ⟨w.heap.size+1,3,none⟩=some (E J 0)/\W'.cell? ⟨w.heap.size+2,3,none⟩=some (E J 1000000000))
   (first
   | exact⟨Ze aw (Zh _),ac,ag,ad,ah,ae,ai,af,aj⟩
   | (go_split_ands;refine⟨Ze (by assumption) z,Zc z (by assumption),Zc z (by assumption),Zc z (by assumption),Zc z (by assumption),Zc z (by assumption),Zc z (by assumption),Zc z (by assumption),Zc z (by assumption)⟩))
   (first|(go_at_call 114;refine (CC _).mono ?_;rintro e w' ⟨rfl,z⟩))
  rename_i O;have ll:=aI au O.1.size;have lh:=aI ar O.1.size;obtain⟨ax,ac,ag,ad,ah,ae,ai,af,aj⟩:=O;rw[Bool.true_and] at ho;go_wp2;cases q1:(decide ((1:Int)<=h) && decide (h<=1000)) with
  | false=>
   rw[q1] at ho;have CC:=Zb (λW=>Xy h 1 1000 false W q1);clear q1;obtain rfl:false=o:=(by rw[<-ho];rfl);clear ho;rw[aL];go_wp2_with fail
   go_region_held3 (λW'=>ZD w1 W'/\W'.cell? ⟨w.heap.size+1,0,none⟩=some (E J 0)/\W'.cell? ⟨w.heap.size+2,0,none⟩=some (E J 120)/\W'.cell? ⟨w.heap.size+1,1,none⟩=some (E J 1)/\W'.cell? ⟨w.heap.size+2,1,none⟩=some (E J 1000)/\W'.cell? ⟨w.heap.size+1,2,none⟩=some (E J 1)/\W'.cell? ⟨w.heap.size+2,2,none⟩=some (E J 1000)/\W'.cell? ⟨w.heap.size+1,3,none⟩=some (E J 0)/\W'.cell? ⟨w.heap.size+2,3,none⟩=some (E J 1000000000))
    (first
    | exact⟨Ze ax (Zh _),ac,ag,ad,ah,ae,ai,af,aj⟩
    | (go_split_ands;refine⟨Ze (by assumption) z,Zc z (by assumption),Zc z (by assumption),Zc z (by assumption),Zc z (by assumption),Zc z (by assumption),Zc z (by assumption),Zc z (by assumption),Zc z (by assumption)⟩))
    (first|(go_at_call 114;refine (CC _).mono ?_;rintro e w' ⟨rfl,z⟩))
   rename_i O;have al:=Zb (Ze ao O.1);clear O;go_wp2;go_ret;exact⟨rfl,Za al⟩
  | true=>
   rw[q1] at ho;have CC:=Zb (λW=>Xy h 1 1000 true W q1);clear q1;rw[aL];go_wp2_with fail
   go_region_held3 (λW'=>ZD w1 W'/\W'.cell? ⟨w.heap.size+1,0,none⟩=some (E J 0)/\W'.cell? ⟨w.heap.size+2,0,none⟩=some (E J 120)/\W'.cell? ⟨w.heap.size+1,1,none⟩=some (E J 1)/\W'.cell? ⟨w.heap.size+2,1,none⟩=some (E J 1000)/\W'.cell? ⟨w.heap.size+1,2,none⟩=some (E J 1)/\W'.cell? ⟨w.heap.size+2,2,none⟩=some (E J 1000)/\W'.cell? ⟨w.heap.size+1,3,none⟩=some (E J 0)/\W'.cell? ⟨w.heap.size+2,3,none⟩=some (E J 1000000000))
    (first
    | exact⟨Ze ax (Zh _),ac,ag,ad,ah,ae,ai,af,aj⟩
    | (go_split_ands;refine⟨Ze (by assumption) z,Zc z (by assumption),Zc z (by assumption),Zc z (by assumption),Zc z (by assumption),Zc z (by assumption),Zc z (by assumption),Zc z (by assumption),Zc z (by assumption)⟩))
    (first|(go_at_call 114;refine (CC _).mono ?_;rintro e w' ⟨rfl,z⟩))
   rename_i O;have ll:=aI au O.1.size;have lh:=aI ar O.1.size;obtain⟨ay,ac,ag,ad,ah,ae,ai,af,aj⟩:=O;rw[Bool.true_and] at ho;go_wp2;cases q2:(decide ((1:Int)<=k) && decide (k<=1000)) with
   | false=>
    rw[q2] at ho;have CC:=Zb (λW=>Xy k 1 1000 false W q2);clear q2;obtain rfl:false=o:=(by rw[<-ho];rfl);clear ho;rw[aL];go_wp2_with fail
    go_region_held3 (λW'=>ZD w1 W'/\W'.cell? ⟨w.heap.size+1,0,none⟩=some (E J 0)/\W'.cell? ⟨w.heap.size+2,0,none⟩=some (E J 120)/\W'.cell? ⟨w.heap.size+1,1,none⟩=some (E J 1)/\W'.cell? ⟨w.heap.size+2,1,none⟩=some (E J 1000)/\W'.cell? ⟨w.heap.size+1,2,none⟩=some (E J 1)/\W'.cell? ⟨w.heap.size+2,2,none⟩=some (E J 1000)/\W'.cell? ⟨w.heap.size+1,3,none⟩=some (E J 0)/\W'.cell? ⟨w.heap.size+2,3,none⟩=some (E J 1000000000))
     (first
     | exact⟨Ze ay (Zh _),ac,ag,ad,ah,ae,ai,af,aj⟩
     | (go_split_ands;refine⟨Ze (by assumption) z,Zc z (by assumption),Zc z (by assumption),Zc z (by assumption),Zc z (by assumption),Zc z (by assumption),Zc z (by assumption),Zc z (by assumption),Zc z (by assumption)⟩))
     (first|(go_at_call 114;refine (CC _).mono ?_;rintro e w' ⟨rfl,z⟩))
    rename_i O;have al:=Zb (Ze ao O.1);clear O;go_wp2;go_ret;exact⟨rfl,Za al⟩
   | true=>
    rw[q2] at ho;have CC:=Zb (λW=>Xy k 1 1000 true W q2);clear q2;rw[aL];go_wp2_with fail
    go_region_held3 (λW'=>ZD w1 W'/\W'.cell? ⟨w.heap.size+1,0,none⟩=some (E J 0)/\W'.cell? ⟨w.heap.size+2,0,none⟩=some (E J 120)/\W'.cell? ⟨w.heap.size+1,1,none⟩=some (E J 1)/\W'.cell? ⟨w.heap.size+2,1,none⟩=some (E J 1000)/\W'.cell? ⟨w.heap.size+1,2,none⟩=some (E J 1)/\W'.cell? ⟨w.heap.size+2,2,none⟩=some (E J 1000)/\W'.cell? ⟨w.heap.size+1,3,none⟩=some (E J 0)/\W'.cell? ⟨w.heap.size+2,3,none⟩=some (E J 1000000000))
     (first
     | exact⟨Ze ay (Zh _),ac,ag,ad,ah,ae,ai,af,aj⟩
     | (go_split_ands;refine⟨Ze (by assumption) z,Zc z (by assumption),Zc z (by assumption),Zc z (by assumption),Zc z (by assumption),Zc z (by assumption),Zc z (by assumption),Zc z (by assumption),Zc z (by assumption)⟩))
     (first|(go_at_call 114;refine (CC _).mono ?_;rintro e w' ⟨rfl,z⟩))
    rename_i O;have ll:=aI au O.1.size;have lh:=aI ar O.1.size;obtain⟨az,ac,ag,ad,ah,ae,ai,af,aj⟩:=O;rw[Bool.true_and] at ho;go_wp2;cases q3:(decide ((0:Int)<=n) && decide (n<=1000000000)) with
    | false=>
     rw[q3] at ho;have CC:=Zb (λW=>Xy n 0 1000000000 false W q3);clear q3;obtain rfl:false=o:=(by rw[<-ho]);clear ho;rw[aL];go_wp2_with fail
     go_region_held3 (λW'=>ZD w1 W'/\W'.cell? ⟨w.heap.size+1,0,none⟩=some (E J 0)/\W'.cell? ⟨w.heap.size+2,0,none⟩=some (E J 120)/\W'.cell? ⟨w.heap.size+1,1,none⟩=some (E J 1)/\W'.cell? ⟨w.heap.size+2,1,none⟩=some (E J 1000)/\W'.cell? ⟨w.heap.size+1,2,none⟩=some (E J 1)/\W'.cell? ⟨w.heap.size+2,2,none⟩=some (E J 1000)/\W'.cell? ⟨w.heap.size+1,3,none⟩=some (E J 0)/\W'.cell? ⟨w.heap.size+2,3,none⟩=some (E J 1000000000))
      (first
      | exact⟨Ze az (Zh _),ac,ag,ad,ah,ae,ai,af,aj⟩
      | (go_split_ands;refine⟨Ze (by assumption) z,Zc z (by assumption),Zc z (by assumption),Zc z (by assumption),Zc z (by assumption),Zc z (by assumption),Zc z (by assumption),Zc z (by assumption),Zc z (by assumption)⟩))
      (first|(go_at_call 114;refine (CC _).mono ?_;rintro e w' ⟨rfl,z⟩))
     rename_i O;have al:=Zb (Ze ao O.1);clear O;go_wp2;go_ret;exact⟨rfl,Za al⟩
    | true=>
     rw[q3] at ho;have CC:=Zb (λW=>Xy n 0 1000000000 true W q3);clear q3;obtain rfl:true=o:=(by rw[<-ho]);clear ho;rw[aL];go_wp2_with fail
     go_region_held3 (λW'=>ZD w1 W'/\W'.cell? ⟨w.heap.size+1,0,none⟩=some (E J 0)/\W'.cell? ⟨w.heap.size+2,0,none⟩=some (E J 120)/\W'.cell? ⟨w.heap.size+1,1,none⟩=some (E J 1)/\W'.cell? ⟨w.heap.size+2,1,none⟩=some (E J 1000)/\W'.cell? ⟨w.heap.size+1,2,none⟩=some (E J 1)/\W'.cell? ⟨w.heap.size+2,2,none⟩=some (E J 1000)/\W'.cell? ⟨w.heap.size+1,3,none⟩=some (E J 0)/\W'.cell? ⟨w.heap.size+2,3,none⟩=some (E J 1000000000))
      (first
      | exact⟨Ze az (Zh _),ac,ag,ad,ah,ae,ai,af,aj⟩
      | (go_split_ands;refine⟨Ze (by assumption) z,Zc z (by assumption),Zc z (by assumption),Zc z (by assumption),Zc z (by assumption),Zc z (by assumption),Zc z (by assumption),Zc z (by assumption),Zc z (by assumption)⟩))
      (first|(go_at_call 114;refine (CC _).mono ?_;rintro e w' ⟨rfl,z⟩))
     rename_i O;have ll:=aI au O.1.size;have lh:=aI ar O.1.size;obtain⟨bg,ac,ag,ad,ah,ae,ai,af,aj⟩:=O;go_wp2;rw[aL];go_wp2;go_ret;exact⟨rfl,Ze ao bg⟩
theorem Y8{w:World}{base:Nat}{e:bO}{size:Nat}{v}{n:Nat}{xs}(h:w.ownsRow base e size v n xs):∃ a c,v = F a n c:=by
 rcases h.2 with ⟨rfl,rfl⟩|⟨g,cap,z,rfl,_⟩
 ·exact⟨none,0,rfl⟩
 ·exact⟨_,_,rfl⟩
def Ey(y:CV):List Value:=[E J y.1.1,E J y.1.2.1,E J (cv y.1),.slice y.2.1 y.2.2.1 y.2.2.2,E J (ch y.1),eA (cr y.1)]
theorem Zmh(y:CV):Zk [y]=Ey y:=rfl
set_option maxRecDepth 10000 in
theorem Zfo(w0 w:World)(p:Nat)(v)(K:List CV)(y:CV)(h:Pu w0 w p v K)(hs:Srt (K.map (·.1)))(hn:K.length<=4096)(hf:Xp (pt y.1) (K.map (·.1))=true) :
  ZH 171 #[dZ (some ⟨p,0,none⟩),cnV y.1 y.2.1 y.2.2.1 y.2.2.2] w (eA false):=by
 obtain⟨a,c,rfl,hC,hS⟩:=h.coins;obtain⟨n,ah⟩:=ZF (K.length);obtain⟨k,hk⟩:=ZF (pos (pt y.1) (K.map (·.1)));have ad:=h.box;rw[ah] at hC ad hn;unfold cnV;obtain⟨X,z⟩:=ZG (w.alloc (dW #[E J y.1.1,E J y.1.2.1,E J (cv y.1),.slice y.2.1 y.2.2.1 y.2.2.2,E J (ch y.1),eA (cr y.1)] 103));have O:ZD w X:=by rw[z];exact Zg _ _
 have ac:X.heap[w.heap.size]? = some (dW (Ey y).toArray 103 (0,0)):=by rw[z];exact Qn _ _ _ _ _ _ _ _
 have x0:=Zd ac 0 _ rfl;have x1:=Zd ac 1 _ rfl;have xp:X.cell? ⟨p,0,none⟩=some (F a n c):=Zc O (Zd (X:=[F a n c]) ad 0 _ rfl);have PL:=Zb (λw' (hb:ZD X w')=>Sa a n c (K.map (·.1)) (pt y.1) k true w' hs (by omega) ((hC.later O).later hb) hk hf);unfold pt at PL;have ak:=Zb O;clear hk hf hC hS hs ad O ac h ah;go_enter func171,ntmps171;go_wp2_with fail;rw[<-z];clear z
 go_region_held3 (λw'=>ZD X w'/\w'.cell? ⟨w.heap.size,0,none⟩=some (E J y.1.1)/\w'.cell? ⟨w.heap.size,1,none⟩=some (E J y.1.2.1)/\w'.cell? ⟨p,0,none⟩=some (F a n c))
  (first
  | exact⟨Zh _,x0,x1,xp⟩
  | (go_split_ands;refine⟨Ze (by assumption) aa,Zc aa (by assumption),Zc aa (by assumption),Zc aa (by assumption)⟩))
  (first|(go_at_call 194;go_split_ands;refine (PL _ (by assumption)).mono ?_;rintro e w' ⟨rfl,aa⟩))
 rename_i hH;have HB:=Zb (Ze ak hH.1);clear hH;go_wp2;go_ret;exact⟨rfl,Za HB⟩
set_option maxRecDepth 10000 in
theorem Zaw(w0 w:World)(p:Nat)(v:Value)(K:List CV)(y:CV)(h:Pu w0 w p v K)(hs:Srt (K.map (·.1)))(hn:K.length<=4096)(hf:Xp (pt y.1) (K.map (·.1))=false)(hy:LkAt w0 y) :
  Calls aB 171 #[dZ (some ⟨p,0,none⟩),cnV y.1 y.2.1 y.2.2.1 y.2.2.2] w λe w'=>∃ (v':Value) (K':List CV),e = dX (eA true)/\K'.map (·.1)=Uj y.1 (K.map (·.1))/\(∀ dc∈K',dc=y\/dc∈K)/\K'.length=K.length+1 /\
   Pu w0 w' p v' K'/\Gr w w' (PuS p v)/\(v'.ownBlock=v.ownBlock\/∀ k,v'.ownBlock=some k->w.heap.size<=k):=by
 obtain⟨a,c,rfl,hC,hS⟩:=h.coins;obtain⟨n,ap⟩:=ZF (K.length);obtain⟨k,z⟩:=ZF (pos (pt y.1) (K.map (·.1)));have an:=h.box;have hO:=h.own;have bc:=h.ne;have cn:k<=n:=by rw[<-z,<-ap];have:=Zkz (pt y.1) (K.map (·.1));simpa using this
 have ay:=Zfl hs hf;rw[z,<-List.map_take,<-List.map_drop,show y.1 :: (K.drop k).map (·.1)=(y :: K.drop k).map (·.1) from rfl,<-bW] at ay;rw[ap] at hC an hn hO bc;unfold cnV;obtain⟨X,hX⟩:=ZG (w.alloc (dW #[E J y.1.1,E J y.1.2.1,E J (cv y.1),.slice y.2.1 y.2.2.1 y.2.2.2,E J (ch y.1),eA (cr y.1)] 103));have am:ZD w X:=by rw[hX];exact Zg _ _
 have al:X.heap[w.heap.size]? = some (dW (Ey y).toArray 103 (0,0)):=by rw[hX];exact Qn _ _ _ _ _ _ _ _
 have x0:=Zd al 0 _ rfl;have x1:=Zd al 1 _ rfl;have xp:X.cell? ⟨p,0,none⟩=some (F a n c):=Zc am (Zd (X:=[F a n c]) an 0 _ rfl);have PL:=Zb (λw' (hb:ZD X w')=>Sa a n c (K.map (·.1)) (pt y.1) k false w' hs (by omega) ((hC.later am).later hb) z hf);unfold pt at PL;have ca:=Zb am;have bk:=Zb al;have HO:=Zb hO;have bi:=Zb bc;have cb:=Zb ay;have HP:=Zb h;have HY:=Zb hy;have bh:=Zb an;have ae:=Zb ap;have bd:p<w.heap.size:=h.lt;clear z hf hC hS hs an am al h ap hO bc ay hy;go_enter func171,ntmps171;go_wp2_with fail;rw[<-hX];clear hX
 go_region_held3 (λw'=>ZD X w'/\w'.cell? ⟨w.heap.size,0,none⟩=some (E J y.1.1)/\w'.cell? ⟨w.heap.size,1,none⟩=some (E J y.1.2.1)/\w'.cell? ⟨p,0,none⟩=some (F a n c))
  (first
  | exact⟨Zh _,x0,x1,xp⟩
  | (go_split_ands;refine⟨Ze (by assumption) ag,Zc ag (by assumption),Zc ag (by assumption),Zc ag (by assumption)⟩))
  (first|(go_at_call 194;go_split_ands;refine (PL _ (by assumption)).mono ?_;rintro e w' ⟨rfl,ag⟩))
 rename_i hH;have af:=Ze ca hH.1;have ac:=(hH.1.block _ (aA bk)).trans bk;have c0:=Zd ac 0 _ rfl;have c1:=Zd ac 1 _ rfl;have c2:=Zd ac 2 _ rfl;have c3:=Zd ac 3 _ rfl;have c4:=Zd ac 4 _ rfl;have c5:=Zd ac 5 _ rfl;have cp:=hH.2.2.2;have cy:=aC _ _ cp;have cm:=(af.block p bd).trans bh;have cq:=Zb af
 have cd:Hid (∀ W,W.heap=(w'.alloc (dW #[E J y.1.1,E J y.1.2.1,E J (cv y.1),.slice y.2.1 y.2.2.1 y.2.2.2,E J (ch y.1),eA (cr y.1)] 103)).heap->W.os=w'.os->W.tape=w'.tape->W.output=w'.output ->
   Calls aB 197 #[F a n c,E J k,F (some ⟨w'.heap.size,0,none⟩) 1 1] W λe w4=>∃ a' O,e = dX (F a' (n+1) O)/\w4.cell? ⟨p,0,none⟩=some (F a n c)/\w4.frozen? ⟨p,0,none⟩=false/\p<w4.heap.size/\Hid (w4.ownsRow w0.heap.size 103 6 (F a' (n+1) O) (n+1) (Zk (K.take k++y :: K.drop k))/\Gr w w4 (PuS p (F a n c))/\((bN a' (n+1) O).ownBlock=(bN a n c).ownBlock\/∀ k,(bN a' (n+1) O).ownBlock=some k->w.heap.size<=k)/\w4.heap[p]? = some (dW #[F a n c] 221 (0,0)))):=by
  intro W az cg ci cj;have bn:ZD w' W:=⟨cg,ci,cj,by rw[az];simp,λi hi=>by rw[az];exact bH w' _ i hi⟩;have ba:=Ze af bn;have ce:W.ownsRow w0.heap.size 103 6 (F a n c) n (Zk K):=(Gr.of (S:=λ_=>False) ba).own HO (λ_ _ q=>q);have co:W.heap[w'.heap.size]? = some (dW (Zk [y]).toArray 103 (0,0)):=by rw[az];exact Qn _ _ _ _ _ _ _ _
  have bf:w.heap.size<W.heap.size:=aI (aA ac) bn.size;refine (N5 w0.heap.size a n c k w'.heap.size K y W cn hn ae (aT HP.bel.size (Nat.le_of_lt bf)) ce co ?_).mono ?_
  ·intro e;have:=HO.lt _ e;have h3:=af.size;omega
  ·rintro e w4 ⟨v',rfl,ar,ao,aq⟩;obtain⟨a',O,rfl⟩:=Y8 ar
   have ad:w4.heap[p]? = some (dW #[F a n c] 221 (0,0)):=by
    rw[ao.block p (Nat.lt_trans bd bf) (λe=>(Za bi) e.symm),ba.block p bd];exact Za bh
   refine⟨a',O,rfl,Zd (X:=[F a n c]) ad 0 _ rfl,Zi ad 0,aA ad,ar,(Gr.of ba).grown ao (λk z=>.inl (.inr z)),?_,ad⟩
   ·rcases aq with q|q
    ·exact .inl q
    ·exact .inr λk z=>aT (Nat.le_of_lt bf) (q k z)
 clear hH ag af ac xp x0 x1 cm;go_wp2_with fail
 go_region_with (go_at_call 197;refine (cd _ ?_ ?_ ?_ ?_).mono ?_;rfl;rfl;rfl;rfl;rintro e w4 ⟨a',O,rfl,p4,da,db,H4⟩)
 all_goals
  go_wp2;go_ret;obtain⟨ar,ao,aq,ad⟩:=Za H4;have hp:=Za HP
  have hl:(K.take k++y :: K.drop k).length=n+1:=by
   have:=Za ae;simp only[bB,bG,List.length_cons,List.length_drop];omega
  have bs:(bN a' (n+1) O).ownBlock≠some p:=λe=>by
   rcases aq with q|q
   ·rw[q] at e;exact bi e
   ·have:=q p e;omega
  have bt:∀ dc∈K.take k++y :: K.drop k,dc=y\/dc∈K:=λdc hz=>by
   rcases cI.1 hz with q|q
   ·exact .inr (List.mem_of_mem_take q)
   ·rcases List.mem_cons.1 q with q|q
    ·exact .inl q
    ·exact .inr (List.mem_of_mem_drop q)
  have bo:=ao.one p 0 (.inl (.inl rfl)) (F a' (n+1) O);refine⟨F a' (n+1) O,K.take k++y :: K.drop k,rfl,cb.symm,bt,by rw[hl,Za ae],⟨?_,hp.ge,Yz ad,?_,bs,?_⟩,?_,?_⟩
  ·refine bo.below hp.bel hp.bel.size (λk z=>?_)
   rcases z with rfl|z
   ·exact hp.ge
   ·exact Y6 HO k z
  ·rw[hl];exact ((Gr.refl w4 (λk=>k=p)).one p 0 (.inl rfl) _).own ar (λk z e=>bs (by rw[z,e]))
  ·intro dc hz
   rcases bt dc hz with rfl|q
   ·exact Za HY
   ·exact hp.lk dc q
  ·rw[Za ae];exact bo
  ·rw[Za ae];exact aq
def Zp(h:Int):List InD->List Zf->List Zf->Int×List Zf×List Zf
 | [],S,L=>(0,S,L)
 | x :: r,S,L=>match Ww (x.1,x.2.1) L with
  | none=>(7,[],[])
  | some (c,M)=>if cr c=true/\h<ch c+2 then (10,[],[]) else if Xi (ck c) x.2.2 h=false then (8,[],[]) else Zp h r (S++[c]) M
def Rn(name:Int)(i:Nat)(o:Ya)(h:Int)(r:Bool):Zf:=(name,(i:Int),o.1,o.2,h,r)
def Yh(name h:Int)(r:Bool):Nat->List Ya->List Zf->Int×List Zf
 | _,[],L=>(0,L)
 | i,o :: q,L=>if Xp (name,(i:Int)) L=true then (6,[]) else Yh name h r (i+1) q (Uj (Rn name i o h r) L)
def Yq(name:Int):Nat->List Ya->List Zf->Int×List Zf
 | _,[],L=>(0,L)
 | i,o :: q,L=>match Ww (name,(i:Int)) L with
  | none=>(7,[])
  | some (c,M)=>if (cv c,ck c)=o then Yq name (i+1) q M else (7,[])
def Yy:List InD->List Zf->List Zf->Int×List Zf
 | x :: r,c :: q,L=>if pt c≠(x.1,x.2.1)\/Xp (pt c) L=true then (6,[]) else Yy r q (Uj c L)
 | _,_,L=>(0,L)
def okN(n:Int):Bool:=decide (1<=n) && decide (n<=120)
def isR(t:TxD):Bool:=decide (t.2.1.length=0)
def Wm(L:List Zf)(t:TxD):Int:=if Zo L≠0 then Zo L else Zr t
def Wb(L:List Zf)(t:TxD)(name h:Int):Int:=
 if Wm L t≠0 then Wm L t else if (okN name && okH h)=false then 3 else if isR t=true/\t.1≠h then 4 else 0
def Di(S:List Zf)(t:TxD):Int:=if Yg S - Ys t.2.2<0/\isR t=false then 9 else 0
def apD(L:List Zf)(t:TxD)(name h:Int):Int×List Zf×List Zf:=
 if Wb L t name h≠0 then (Wb L t name h,[],[])
 else
  if (Zp h t.2.1 [] L).1≠0 then ((Zp h t.2.1 [] L).1,[],[])
  else if Di (Zp h t.2.1 [] L).2.1 t≠0 then (Di (Zp h t.2.1 [] L).2.1 t,[],[])
  else if (Yh name h (isR t) 0 t.2.2 (Zp h t.2.1 [] L).2.2).1≠0 then ((Yh name h (isR t) 0 t.2.2 (Zp h t.2.1 [] L).2.2).1,[],[])
  else if Zo (Yh name h (isR t) 0 t.2.2 (Zp h t.2.1 [] L).2.2).2≠0 then (Zo (Yh name h (isR t) 0 t.2.2 (Zp h t.2.1 [] L).2.2).2,[],[])
  else (0,(Yh name h (isR t) 0 t.2.2 (Zp h t.2.1 [] L).2.2).2,(Zp h t.2.1 [] L).2.1)
def rvD(L:List Zf)(t:TxD)(name:Int)(S:List Zf):Int×List Zf:=
 if Wm L t≠0 then (Wm L t,[])
 else if S.length≠t.2.1.length then (4,[])
 else if (Yq name 0 t.2.2 L).1≠0 then ((Yq name 0 t.2.2 L).1,[])
 else if (Yy t.2.1 S (Yq name 0 t.2.2 L).2).1≠0 then ((Yy t.2.1 S (Yq name 0 t.2.2 L).2).1,[])
 else if Zo (Yy t.2.1 S (Yq name 0 t.2.2 L).2).2≠0 then (Zo (Yy t.2.1 S (Yq name 0 t.2.2 L).2).2,[])
 else (0,(Yy t.2.1 S (Yq name 0 t.2.2 L).2).2)
def MS.cells(s:MS):Array Value:=(s.cs.map (bC .i64)++([bC .i64 s.n,bC .i64 s.h,Value.bool s.f]:List Value)).toArray
theorem MS.cells_stack{s:MS}(O:s.ok)(i:Nat)(hi:i<16):s.cells[i]? = some (E J (s.cs.getD i 0)):=by
 have z:i<s.cs.length:=by rw[O.1];exact hi
 simp[MS.cells,List.getElem?_append_left,z]
theorem MS.cells_n{s:MS}(O:s.ok):s.cells[16]? = some (E J s.n):=by
 have z:=O.1;simp[MS.cells,z]
theorem MS.cells_h{s:MS}(O:s.ok):s.cells[17]? = some (E J s.h):=by
 have z:=O.1;simp[MS.cells,z]
theorem MS.cells_f{s:MS}(O:s.ok):s.cells[18]? = some (eA s.f):=by
 have z:=O.1;simp[MS.cells,z]
theorem MS.set_stack{s:MS}(O:s.ok)(i:Nat)(hi:i<16)(x:Int):s.cells.setIfInBounds i (E J x)=MS.cells { s with cs:=s.cs.set i x }:=by
 have z:i<(s.cs.map (bC .i64)).length:=by rw[dF,O.1];exact hi
 simp only[MS.cells,List.setIfInBounds_toArray,List.set_append_left _ _ z,List.map_set]
theorem MS.set_n{s:MS}(O:s.ok)(n:Nat):s.cells.setIfInBounds 16 (E J n)=MS.cells { s with n:=n }:=by
 have z:(s.cs.map (bC .i64)).length=16:=by rw[dF,O.1]
 simp only[MS.cells,List.setIfInBounds_toArray];rw[List.set_append_right _ _ (by omega),z];rfl
theorem MS.set_f{s:MS}(O:s.ok)(b:Bool):s.cells.setIfInBounds 18 (eA b)=MS.cells { s with f:=b }:=by
 have z:(s.cs.map (bC .i64)).length=16:=by rw[dF,O.1]
 simp only[MS.cells,List.setIfInBounds_toArray];rw[List.set_append_right _ _ (by omega),z];rfl
structure Mach(p:Nat)(s:MS)(W w:World):Prop where
 good:s.ok
 block:w.heap[p]? = some (dW s.cells 319 (0,0))
 old:∀ k,k≠p->k<W.heap.size->w.heap[k]? = W.heap[k]?
 size:W.heap.size<=w.heap.size
 os:w.os=W.os
 tape:w.tape=W.tape
 output:w.output=W.output
theorem Mach.lt{p:Nat}{s:MS}{W w:World}(h:Mach p s W w):p<w.heap.size:=aA h.block
theorem Mach.cell{p:Nat}{s:MS}{W w:World}(h:Mach p s W w)(i:Nat):w.cell? ⟨p,i,none⟩=s.cells[i]?:=by simp[World.cell?,h.block]
theorem Mach.cell_n{p:Nat}{s:MS}{W w:World}(h:Mach p s W w):w.cell? ⟨p,16,none⟩=some (E J s.n):=by rw[h.cell,MS.cells_n h.good]
theorem Mach.cell_h{p:Nat}{s:MS}{W w:World}(h:Mach p s W w):w.cell? ⟨p,17,none⟩=some (E J s.h):=by rw[h.cell,MS.cells_h h.good]
theorem Mach.cell_f{p:Nat}{s:MS}{W w:World}(h:Mach p s W w):w.cell? ⟨p,18,none⟩=some (eA s.f):=by rw[h.cell,MS.cells_f h.good]
theorem Mach.cell_s{p:Nat}{s:MS}{W w:World}(h:Mach p s W w)(i:Nat)(hi:i<16):w.cell? ⟨p,i,none⟩=some (E J (s.cs.getD i 0)):=by rw[h.cell,MS.cells_stack h.good i hi]
theorem Mach.free{p:Nat}{s:MS}{W w:World}(h:Mach p s W w)(i:Nat):w.frozen? ⟨p,i,none⟩=false:=by simp[World.frozen?,h.block]
theorem Mach.store{p:Nat}{s z:MS}{W w:World}(h:Mach p s W w)(i:Nat)(v)(e:s.cells.setIfInBounds i v=z.cells)(g:z.ok):Mach p z W (w.setCell ⟨p,i,none⟩ v) where
 good:=g
 block:=by
  rw[heap_setCell_same w p i s.cells 319 v h.block,e]
 old:=λk O hl=>by rw[heap_setCell_other w ⟨p,i,none⟩ k v O];exact h.old k O hl
 size:=by rw[World.size_setCell];exact h.size
 os:=h.os
 tape:=h.tape
 output:=h.output
theorem Mach.drew{p:Nat}{s:MS}{W w:World}(h:Mach p s W w):Mach p s W w.drew:=⟨h.good,h.block,h.old,h.size,h.os,h.tape,h.output⟩
theorem Mach.drewN{p:Nat}{s:MS}{W w:World}(h:Mach p s W w)(n:Nat):Mach p s W (w.drewN n):=⟨h.good,h.block,h.old,h.size,h.os,h.tape,h.output⟩
theorem Mach.alloc{p:Nat}{s:MS}{W w:World}(h:Mach p s W w)(o:Obj):Mach p s W (w.alloc o) where
 good:=h.good
 block:=by rw[bH w o p h.lt];exact h.block
 old:=λk O z=>by rw[bH w o k (aI z h.size)];exact h.old k O z
 size:=by have:=h.size;simp;omega
 os:=h.os
 tape:=h.tape
 output:=h.output
theorem Mach.past{p:Nat}{s:MS}{W w:World}(h:Mach p s W w)(q:Addr)(O:q.block≠p)(z:q.block<W.heap.size):w.cell? q=W.cell? q:=World.cell?_of_block (w:=W) (h.old q.block O z)
theorem Mach.below{p:Nat}{s:MS}{W w:World}(h:Mach p s W w)(O:W.heap.size<=p):ZD W w:=
 ⟨h.os,h.tape,h.output,h.size,λk z=>h.old k (by omega) z⟩
theorem Mach.trans{p:Nat}{s s':MS}{W V w}(h:Mach p s W V)(k:Mach p s' V w):Mach p s' W w where
 good:=k.good
 block:=k.block
 old:=λj z O=>by rw[k.old j z (aI O h.size)];exact h.old j z O
 size:=aT h.size k.size
 os:=k.os.trans h.os
 tape:=k.tape.trans h.tape
 output:=k.output.trans h.output
theorem Mach.self{p:Nat}{s:MS}{W w}(h:Mach p s W w):Mach p s w w:=⟨h.good,h.block,λ_ _ _=>rfl,Nat.le_refl _,rfl,rfl,rfl⟩
theorem Vu(n:Int)(b:Bool)(w)(z:b=hOk n) :
  Calls aB 195 #[E J n] w λe w'=>e = dX (eA b)/\w=w':=by
 have O:=Zb z;clear z;go_enter func195,ntmps195
 go_wp2_with (go_at_call 114;refine (Xc _ _ _ b _ O).mono ?_;rintro e w' ⟨rfl,rfl⟩)
 go_ret;exact⟨rfl,rfl⟩
theorem Gt(p:Nat)(s:MS)(W w)(z:Mach p s W w) :
  Calls aB 253 #[dZ (some ⟨p,0,none⟩)] w λe w'=>e = dX (dY #[])/\Mach p s.fail W w':=by
 have c1:=z.cell_f;have c2:=z.free 18;have O:=Zb z;clear z;go_enter func253,ntmps253;go_wp2;go_end0;exact⟨rfl,O.store 18 _ (MS.set_f O.good true) O.good.fail_ok⟩
theorem Zat{s:MS}{x:Int}(h:s.n=16\/fit x=false):s.put x=s.fail:=by unfold MS.put;rw[if_pos h];rfl
theorem Zas{s:MS}{x:Int}(h1:s.n≠16)(h2:fit x=true):s.put x={ s with cs:=s.cs.set s.n x,n:=s.n+1 }:=by unfold MS.put;rw[if_neg (by simp[h1,h2])]
theorem Wt(p:Nat)(s:MS)(x:Int)(W w)(z:Mach p s W w) :
  Calls aB 247 #[dZ (some ⟨p,0,none⟩),E J x] w λe w'=>e = dX (dY #[])/\Mach p (s.put x) W w':=by
 have hn:=z.good.2.1;have c1:=z.cell_n;have O:=Zb z;by_cases h1:s.n=16
 ·rw[Zat (Or.inl h1)];rw[h1] at c1;clear z hn;go_enter func247,ntmps247
  go_wp2_with (go_at_call 253;refine (Gt p s W _ O).mono ?_;rintro e w' ⟨rfl,ae⟩)
  first|go_end0|(simp only[aO,Exit.then];refine aR (results_none rfl _ _ _) rfl ?_)|refine aR (results_none rfl _ _ _) rfl ?_
  exact⟨rfl,by assumption⟩
 ·have g1:((s.n:Int) == 16)=false:=by simp;omega
  by_cases h2:fit x=true
  ·rw[Zas h1 h2];have c2:=z.cell_s s.n (by omega);have c3:=z.free s.n;have c4:=z.free 16
   have c5:((w.setCell ⟨p,s.n,none⟩ (E J x))).cell? ⟨p,16,none⟩=some (E J s.n):=by
    rw[World.cell?_setCell_other]
    ·exact c1
    ·exact λe=>h1 (congrArg Addr.off e)
   have g2:(s.n:Int)<16:=(by omega);have H1:=Zb h1;have H2:=Zb h2;clear z h1 h2;go_enter func247,ntmps247
   go_wp2_with (go_at_call 246;refine (Gs _ true _ H2.symm).mono ?_;rintro e w' ⟨rfl,rfl⟩)
   go_region
   all_goals go_wp2
   all_goals go_end0
   all_goals
    refine⟨rfl,Mach.drew ?_⟩;have z:=Za O;have g:=z.good.put_ok x;rw[Zas (Za H1) (Za H2)] at g;have ab:MS.ok { s with cs:=s.cs.set s.n x }:=⟨g.1,z.good.2.1,g.2.2⟩;exact (z.store s.n _ (MS.set_stack z.good s.n (by omega) x) ab).store 16 _ (MS.set_n ab (s.n+1)) g
  ·have h3:fit x=false:=(by simpa using h2);rw[Zat (Or.inr h3)];have H3:=Zb h3;clear z h2 h3 h1;go_enter func247,ntmps247
   go_wp2_with (first|(go_at_call 246;refine (Gs _ false _ H3.symm).mono ?_;rintro e w' ⟨rfl,rfl⟩)|(go_at_call 253;refine (Gt p s W _ O).mono ?_;rintro e w' ⟨rfl,ae⟩))
   first|go_end0|(simp only[aO,Exit.then];refine aR (results_none rfl _ _ _) rfl ?_)|refine aR (results_none rfl _ _ _) rfl ?_
   exact⟨rfl,by assumption⟩
theorem Zgr{s:MS}(h:s.n=0):s.take=s.fail:=by unfold MS.take;rw[if_pos h];rfl
theorem Zgq{s:MS}(h:s.n≠0):s.take={ s with n:=s.n - 1 }:=by unfold MS.take;rw[if_neg h]
theorem Zjq{s:MS}(h:s.n=0):s.top=0:=by unfold MS.top;rw[if_pos h]
theorem Zjp{s:MS}(h:s.n≠0):s.top=s.cs.getD (s.n - 1) 0:=by unfold MS.top;rw[if_neg h]
theorem Y7(p:Nat)(s:MS)(W w)(z:Mach p s W w) :
  Calls aB 270 #[dZ (some ⟨p,0,none⟩)] w λe w'=>e = dX (E J s.top)/\Mach p s.take W w':=by
 have hn:=z.good.2.1;have c1:=z.cell_n;have HM:=Zb z;by_cases h1:s.n=0
 ·rw[Zgr h1,Zjq h1];rw[h1] at c1;clear z hn;go_enter func270,ntmps270
  go_wp2_with (go_at_call 253;refine (Gt p s W _ HM).mono ?_;rintro e w' ⟨rfl,aj⟩)
  go_ret;exact⟨rfl,by assumption⟩
 ·obtain⟨m,O⟩:∃ m,s.n=m+1:=⟨s.n - 1,by omega⟩;have e1:s.take={ s with n:=m }:=by rw[Zgq h1,O];rfl
  have e2:s.top=s.cs.getD m 0:=by rw[Zjp h1,O];rfl
  rw[e1,e2];have g1:(((m:Int)+1) == 0)=false:=by simp;omega
  rw[O] at c1
  have c2:(w.setCell ⟨p,16,none⟩ (E J m)).cell? ⟨p,m,none⟩=some (E J (s.cs.getD m 0)):=by
   rw[World.cell?_setCell_other]
   ·exact z.cell_s m (by omega)
   ·exact λe=>absurd (congrArg Addr.off e) (by show ¬(16=m);omega)
  have c3:(w.setCell ⟨p,16,none⟩ (E J m)).cell? ⟨p,16,none⟩=some (E J m):=World.cell?_setCell_same _ _ _ z.cell_n;have c4:=z.free 16;have g2:(m:Int)<16:=by omega
  have H1:=Zb O;obtain⟨t,ht⟩:=ZG (s.cs.getD m 0);rw[<-ht] at c2 ⊢;clear z h1 O hn e1 e2 ht;go_enter func270,ntmps270;go_wp2
  go_quiet (fail)
  go_wp2;go_ret;refine⟨rfl,Mach.drewN ?_ _⟩;have z:=Za HM;have h1:=Za H1;exact z.store 16 _ (MS.set_n z.good m) ⟨z.good.1,by show m<=16;omega,z.good.2.2⟩
theorem Zav(p:Nat)(s:MS)(a cap W w)(z:Mach p s W w) :
  Calls aB 230 #[dZ (some ⟨p,0,none⟩),F a 0 cap] w λe w'=>e = dX (dY #[])/\Mach p s W w':=by
 have O:=Zb z;clear z;go_enter func230,ntmps230;go_wp2;refine aQ 1 ?_;rw[aL];go_wp2;go_end0;exact⟨rfl,Za O⟩
theorem Zau(p:Nat)(s:MS)(b off len cap:Nat)(Z:List Int)(W w:World)(O:Mach p s W w)(hp:W.heap.size<=p)(hz:Z.length=len)(hl:len<=maxLen)
  (hb:b<W.heap.size) (hc:∀ i,i<len->W.cell? ⟨b,off+i,none⟩=some (E J (Z.getD i 0))) :
  Calls aB 230 #[dZ (some ⟨p,0,none⟩),F (some ⟨b,off,none⟩) len cap] w λe w'=>e = dX (dY #[])/\∃ z,Mach p z W w'/\z.h=s.h/\z.rep=s.rep.bind (λL=>Yn L Z):=by
 have HM:=Zb O;have HC:=Zb hc;have HZ:=Zb hz;unfold maxLen at hl;clear O hc hz;go_enter func230,ntmps230;go_wp2
 go_loopw [8] (λi wr=>∃ (k:Nat) (z:MS),k<=len/\i = E J k/\Mach p z W wr/\z.h=s.h/\z.rep=s.rep.bind (λL=>Yn L (Z.take k))) (λi _=>len - (intOf i).toNat)
 case atStart=>exact⟨0,s,aP _,rfl,Za HM,rfl,by cases s.rep <;> rfl⟩
 case round=>
  obtain⟨k,z,hk,rfl,O,hh,hr⟩:=hrel;have aa:=Zb O;have HH:=Zb hh;have HR:=Zb hr;clear hh hr;by_cases ai:k<len
  ·have c1:wr.cell? ⟨b,off+k,none⟩=some (E J (Z.getD k 0)):=(O.past ⟨b,off+k,none⟩ (by show b≠p;omega) hb).trans (HC k ai);obtain⟨x,hx⟩:=ZG (Z.getD k 0);rw[<-hx] at c1;have HX:=Zb hx;clear O hx;go_wp2_with fail;refine (Wt p z x W _ aa).mono ?_;rintro e w1 ⟨rfl,aj⟩;have ao:=Zb aj;clear aj;go_wp2;go_roundw
   case rel=>
    refine⟨k+1,z.put x,by omega,by go_num,Za ao,(MS.put_h _ _).trans HH,?_⟩;have ah:k<Z.length:=(by rw[Za HZ];exact ai);have ex:x=Z[k]:=(by rw[Za HX];simp[ah]);rw[MS.rep_put (Za aa).good,Za HR,List.take_succ_eq_append_getElem ah,ex];cases s.rep with
    | none=>rfl
    | some L=>exact (M5 _ _ _).symm
   case measure=>simp[intOf];omega
  ·clear O;go_wp2;go_end0;have e:k=len:=(by omega);subst e;refine⟨rfl,z,Za aa,Za HH,?_⟩;rw[Za HR,<-Za HZ,List.take_length]
theorem Zdj(p:Nat)(s:MS)(a len cap Z)(W w:World)(hm:Mach p s W w)(hp:W.heap.size<=p)(hR:RowAt W a len Z) :
  Calls aB 230 #[dZ (some ⟨p,0,none⟩),F a len cap] w λe w'=>e = dX (dY #[])/\∃ z,Mach p z W w'/\z.h=s.h/\z.rep=s.rep.bind (λL=>Yn L Z):=by
 obtain⟨hz,hl,hc⟩:=hR;by_cases h:len=0
 ·subst h;have e:Z=[]:=List.length_eq_zero_iff.1 hz;subst e;exact (Zav p s a cap W w hm).mono λe w' ⟨x,y⟩=>⟨x,s,y,rfl,by cases s.rep <;> rfl⟩
 ·obtain⟨b,off,rfl,O⟩:=hc (by omega);exact Zau p s b off len cap Z W w hm hp hz hl (aC _ _ (O 0 (by omega))) O
theorem Jr(b:Bool)(w) :
  Calls aB 261 #[eA b] w λe w'=>e = dX (E J (b01 b))/\w=w':=by
 cases b
 all_goals
  go_enter func261,ntmps261;go_wp2;go_ret;exact⟨rfl,rfl⟩
theorem Zqn(a b:Int)(w)(z:fit a=true)(O:fit b=true) :
  Calls aB 258 #[E J a,E J b] w λe w'=>e = dX (E J (g2 5 a b))/\w=w':=by
 have h1:=(Yf a).1 z;have h2:=(Yf b).1 O;clear z O;go_enter func258,ntmps258;go_wp2;go_ret;exact⟨rfl,rfl⟩
theorem Zqm(a b:Int)(w)(z:fit a=true)(O:fit b=true) :
  Calls aB 259 #[E J a,E J b] w λe w'=>e = dX (E J (g2 6 a b))/\w=w':=by
 have h1:=(Yf a).1 z;have h2:=(Yf b).1 O;clear z O;go_enter func259,ntmps259;go_wp2;go_ret;exact⟨rfl,rfl⟩
theorem Zql(a b:Int)(w) :
  Calls aB 260 #[E J a,E J b] w λe w'=>e = dX (E J (g2 7 a b))/\w=w':=by
 go_enter func260,ntmps260
 go_wp2_with (go_at_call 261;refine (Jr _ _).mono ?_;rintro e w' ⟨rfl,rfl⟩)
 go_ret;exact⟨rfl,rfl⟩
theorem Zqk(a b:Int)(w) :
  Calls aB 262 #[E J a,E J b] w λe w'=>e = dX (E J (g2 8 a b))/\w=w':=by
 go_enter func262,ntmps262
 go_wp2_with (go_at_call 261;refine (Jr _ _).mono ?_;rintro e w' ⟨rfl,rfl⟩)
 go_ret;exact⟨rfl,rfl⟩
theorem Zqi(a b:Int)(w) :
  Calls aB 265 #[E J a,E J b] w λe w'=>e = dX (E J (g2 10 a b))/\w=w':=by
 by_cases h:a=0
 ·have h1:(a != 0)=false:=by simp[h]
  have e:g2 10 a b=b01 false:=by simp[g2,h]
  rw[e];clear h e;go_enter func265,ntmps265
  go_wp2_with (go_at_call 261;refine (Jr _ _).mono ?_;rintro e w' ⟨rfl,rfl⟩)
  go_ret;exact⟨rfl,rfl⟩
 ·have h1:(a != 0)=true:=by simp[h]
  have e:g2 10 a b=b01 (b != 0):=by simp[g2,h1]
  rw[e];clear h e;go_enter func265,ntmps265
  go_wp2_with (go_at_call 261;refine (Jr _ _).mono ?_;rintro e w' ⟨rfl,rfl⟩)
  go_ret;exact⟨rfl,rfl⟩
theorem Zqj(a:Int)(w) :
  Calls aB 264 #[E J a] w λe w'=>e = dX (E J (g1 9 a))/\w=w':=by
 go_enter func264,ntmps264
 go_wp2_with (go_at_call 261;refine (Jr _ _).mono ?_;rintro e w' ⟨rfl,rfl⟩)
 go_ret;exact⟨rfl,rfl⟩
theorem Zny{k:IntKind}{a b:Int}(h:a=b):Ending.returned (.int k a) = dX (.int k b):=by rw[h]
theorem Zom(a:Int)(w)(z:fit a=true) :
  Calls aB 268 #[E J a] w λe w'=>e = dX (E J (g1 13 a))/\w=w':=by
 have ad:=Zb (Zfx a z);have h1:=(Yf a).1 z;clear z;go_enter func268,ntmps268;go_wp2
 go_loop [3,6] (λr i=>∃ k:Nat,k<=3/\i = E J k/\r = E J (Ls a k)) (λ_ i=>3 - (intOf i).toNat)
 case atStart=>exact⟨0,aP _,rfl,rfl⟩
 case round=>
  obtain⟨k,hk,rfl,rfl⟩:=hrel;obtain⟨b1,b2⟩:=ad k;obtain⟨m,O⟩:=ZG (Ls a k);rw[<-O] at b1 b2 ⊢;have HM:=Zb O;clear O;by_cases af:k<3
  ·go_wp2
   go_round
   case rel=>
    refine⟨k+1,by omega,by go_num,?_⟩;have:=Za HM;simp only[Ls,<-this]
   case measure=>simp[intOf];omega
  ·go_wp2;go_ret;have e:k=3:=(by omega);subst e;refine⟨Zny ?_,rfl⟩;have:=Za HM;simp only[g1,Zbg,<-this];simp
theorem Zmp(p:Nat)(s:MS)(n:Int)(W w)(z:Mach p s W w) :
  Calls aB 256 #[dZ (some ⟨p,0,none⟩),E J n] w λe w'=>e = dX (dY #[])/\Mach p (s.step 4 n) W w':=by
 have O:=Zb z;clear z;go_enter func256,ntmps256
 go_wp2_with (go_at_call 270;refine (Y7 p s W _ O).mono ?_;rintro e w' ⟨rfl,aa⟩)
 go_end0;exact⟨rfl,by assumption⟩
theorem Ff(p:Nat)(s:MS)(n:Int)(W w)(z:Mach p s W w) :
  Calls aB 267 #[dZ (some ⟨p,0,none⟩),E J n] w λe w'=>e = dX (dY #[])/\Mach p (s.step 12 n) W w':=by
 have c1:=z.cell_h;have O:=Zb z;clear z;go_enter func267,ntmps267
 go_wp2_with (go_at_call 247;refine (Wt p s _ W _ O).mono ?_;rintro e w' ⟨rfl,aa⟩)
 go_end0;exact⟨rfl,by assumption⟩
theorem Zpa(p:Nat)(s:MS)(n:Int)(W w)(z:Mach p s W w) :
  Calls aB 254 #[dZ (some ⟨p,0,none⟩),E J n] w λe w'=>e = dX (dY #[])/\Mach p (s.step 2 n) W w':=by
 have HM:=Zb z;clear z;go_enter func254,ntmps254;go_wp2_with fail;refine (Y7 p s W _ HM).mono ?_;rintro e w1 ⟨rfl,O⟩;have ad:=Zb O;clear O;go_wp2_with fail;refine (Wt p s.take _ W _ ad).mono ?_;rintro e w2 ⟨rfl,aa⟩;have ae:=Zb aa;clear aa;go_wp2_with fail;refine (Wt p (s.take.put s.top) _ W _ ae).mono ?_;rintro e w3 ⟨rfl,ab⟩;have af:=Zb ab;clear ab;go_wp2;go_end0;exact⟨rfl,Za af⟩
theorem Zjt(p:Nat)(s:MS)(n:Int)(W w)(z:Mach p s W w) :
  Calls aB 255 #[dZ (some ⟨p,0,none⟩),E J n] w λe w'=>e = dX (dY #[])/\Mach p (s.step 3 n) W w':=by
 have HM:=Zb z;clear z;go_enter func255,ntmps255;go_wp2_with fail;refine (Y7 p s W _ HM).mono ?_;rintro e w1 ⟨rfl,O⟩;have ae:=Zb O;clear O;go_wp2_with fail;refine (Y7 p s.take W _ ae).mono ?_;rintro e w2 ⟨rfl,aa⟩;have af:=Zb aa;clear aa;go_wp2_with fail;refine (Wt p s.take.take _ W _ af).mono ?_;rintro e w3 ⟨rfl,ab⟩;have ag:=Zb ab;clear ab;go_wp2_with fail;refine (Wt p (s.take.take.put s.top) _ W _ ag).mono ?_;rintro e w4 ⟨rfl,ac⟩;have ah:=Zb ac;clear ac;go_wp2;go_end0;exact⟨rfl,Za ah⟩
theorem Zcv(p:Nat)(s:MS)(n:Int)(W w)(hm:Mach p s W w) :
  Calls aB 266 #[dZ (some ⟨p,0,none⟩),E J n] w λe w'=>e = dX (dY #[])/\Mach p (s.step 11 n) W w':=by
 have HM:=Zb hm;clear hm;by_cases h:s.top=0
 ·have z:s.step 11 n=s.take.fail:=by simp[MS.step,h]
  have h1:(s.top == 0)=true:=by simp[h]
  rw[z];clear h z;go_enter func266,ntmps266;go_wp2_with fail;refine (Y7 p s W _ HM).mono ?_;rintro e w1 ⟨rfl,O⟩;have aa:=Zb O;clear O;go_wp2_with fail;refine (Gt p s.take W _ aa).mono ?_;rintro e w2 ⟨rfl,ad⟩;have ae:=Zb ad;clear ad;go_wp2;go_end0;exact⟨rfl,Za ae⟩
 ·have z:s.step 11 n=s.take:=by simp[MS.step,h]
  have h1:(s.top == 0)=false:=by simp[h]
  rw[z];clear h z;go_enter func266,ntmps266;go_wp2_with fail;refine (Y7 p s W _ HM).mono ?_;rintro e w1 ⟨rfl,O⟩;have aa:=Zb O;clear O;go_wp2;go_end0;exact⟨rfl,Za aa⟩
