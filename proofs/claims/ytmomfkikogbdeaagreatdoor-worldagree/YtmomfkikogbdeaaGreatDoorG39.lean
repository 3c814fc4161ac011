import Derived.Test.YtmomfkikogbdeaaGreatDoorH
import Derived.Test.YtmomfkikogbdeaaGreatDoorG38
open Go.Proofs.Tryz
open Go renaming lt_of_block->aA
open Go.Ending renaming returned->dF
open Go.IntKind renaming i64->J
open Go.Obj renaming cells->dE
open Go.Proofs.Tryz renaming prog->aB
open Go.Value renaming int->E,slice->F,tuple->dG,pointer->dH
open List renaming flatten_cons->cD,length_append->cJ,take_of_length_le->aS,take_append_of_le_length->cB,length_take->bI
open Nat renaming lt_of_lt_of_le->aD,le_trans->aN
set_option maxHeartbeats 12800000
set_option maxRecDepth 10000
namespace Go.Proofs.YtmomfkikogbdeaaGreatDoor
open Go.RowKit
def W7(w:World)(s q:Nat):Prop:=∃ v,w.cell? ⟨s,2,none⟩=some v/\v.ownBlock=some q
def WD.sent(W:WD)(m:Tq):WD:=if W.m.length<20 then ⟨W.k,W.n,W.m++[m]⟩ else W
def Zac(Z:Nat->Prop)(s:Nat)(W:WD)(w w':World):Prop:=Sc Z s W w'/\Gr w w' (λq=>q=s\/W7 w s q)/\∀ q,W7 w' s q->W7 w s q\/w.heap.size<=q
theorem ScAt.nb{Z:Nat->Prop}{s}{W:WD}{w ka kn kc}{vn vm:Value}{Kn Km}(h:ScAt Z s W w ka kn kc vn vm Kn Km)(q:Nat):vm.ownBlock=some q↔W7 w s q:=
 ⟨λe=>⟨vm,Zb h.box 2 _ rfl,e⟩,λ⟨v,h1,h2⟩=>by
  rw[Zb h.box 2 _ rfl] at h1;injection h1 with h1;exact h1 ▸ h2⟩
theorem Sc.net_lt{Z:Nat->Prop}{s q:Nat}{W:WD}{w:World}(h:Sc Z s W w)(hq:W7 w s q):¬Z q/\q<w.heap.size/\q≠s:=by
 obtain⟨ka,kn,kc,vn,vm,Kn,Km,h⟩:=h;have hq:=(h.nb q).2 hq;exact⟨λe=>(h.zs q e).2.2.2 hq,(h.on.rm.lt q hq).2,Y1 h.on.rm h.box (by decide) q hq⟩
theorem Zna{Z:Nat->Prop}{s}{W:WD}{w w4 w5 w6:World}{ka}{kn kc g cap:Nat}{vn vm:Value}{Kn Km:List (List Value)}{cs}{m:Tq}(h:ScAt Z s W w ka kn kc vn vm Kn Km)
  (h4:ZD w w4) (hF:Fresh w.heap.size w4 (λw2=>Tr.msgR.C w2 cs m)) (h5:ZD w4 w5) (h6:w5.grownBy w6 vm.ownBlock) (ad:vm.ownBlock=some g\/w4.heap.size<=g)
  (ho:w6.ownsRow 0 106 12 (F (some ⟨g,0,none⟩) (W.m.length+1) cap) (W.m.length+1) (Km.flatten++cs)) (hl:W.m.length<20) :
  Zac Z s (W.sent m) w (w6.setCell ⟨s,2,none⟩ (F (some ⟨g,0,none⟩) (W.m.length+1) cap)):=by
 have hb:=h.box;have bd:=aA hb;have g6:Gr w w6 (λq=>vm.ownBlock=some q):=(Gr.of (Zf h4 h5)).grown h6 (λq e=>.inl e);have au:Gr w4 w6 (λq=>vm.ownBlock=some q):=(Gr.of h5).grown h6 (λq e=>.inl e);have b6:=g6.heap hb (λe=>Y1 h.on.rm hb (by decide) s e rfl);have gx:Gr w6 (w6.setCell ⟨s,2,none⟩ (F (some ⟨g,0,none⟩) (W.m.length+1) cap)) (λq=>q=s):=(Gr.refl w6 (λq=>q=s)).one s 2 (.inl rfl) _;have bx:=Tr.set_cells b6 2 (F (some ⟨g,0,none⟩) (W.m.length+1) cap);have e1:W.sent m=⟨W.k,W.n,W.m++[m]⟩:=if_pos hl;have e2:(W.m++[m]).length=W.m.length+1:=by simp
 have e3:(Km++[cs]).flatten=Km.flatten++cs:=by simp
 rw[e1];refine⟨⟨ka,kn,kc,vn,_,Kn,Km++[cs],bx,λq e=>?_,?_,?_,λV gV=>?_,h.on.sk⟩,?_,?_⟩
 ·obtain⟨z1,z2,z3,z4⟩:=h.zs q e;refine⟨aD z1 (aN g6.size gx.size),z2,z3,λe=>?_⟩;injection e with e;have e:g=q:=e;subst e
  rcases ad with e|e
  ·exact z4 e
  ·have:=h4.size;omega
 ·exact gx.own (g6.own h.on.rn (λq hq e=>Tr.own_apart h.on.rm h.on.rn (by decide) q e hq)) (λq hq e=>Y1 h.on.rn hb (by decide) q hq e)
 ·show World.ownsRow _ _ _ _ _ (W.m++[m]).length _;rw[e2,e3];exact gx.own ho (λq hq e=>Y1 ho b6 (by decide) q hq e)
 ·have gw:Gr w V (λq=>(Z q\/q=s)\/vn.ownBlock=some q\/vm.ownBlock=some q):=((g6.mono (λq _ e=>.inr (.inr e))).trans (gx.mono (λq _ e=>.inl (.inr e)))).far gV (λq e=>by
   rcases e with e|e|e
   ·exact .inr (.inl e)
   ·exact .inr (.inr (.inl e))
   ·injection e with e;have e:g=q:=e;subst e
    rcases ad with e|e
    ·exact .inr (.inr (.inr e))
    ·exact .inl (aN h4.size e))
  have g4:Gr w4 V (λq=>q<w.heap.size):=((au.mono (λq _ e=>(h.on.rm.lt q e).2)).trans (gx.mono (λq _ e=>by have e:q=s:=e;omega))).far gV (λq e=>by
   rcases e with (e|e)|e|e
   ·exact .inr (h.zs q e).1
   ·exact .inr (by omega)
   ·exact .inr (h.on.rn.lt q e).2
   ·injection e with e;have e:g=q:=e;subst e
    rcases ad with e|e
    ·exact .inr (h.on.rm.lt g e).2
    ·exact .inl e)
  obtain⟨d1,d2,d3⟩:=h.on.dat V gw;exact⟨d1,d2,d3.snoc (hF V g4)⟩
 ·exact (g6.mono (λq _ e=>.inr ((h.nb q).1 e))).trans (gx.mono (λq _ e=>.inl e))
 ·rintro q ⟨v,h1,h2⟩;rw[Zb bx 2 _ rfl] at h1;injection h1 with h1;subst h1;injection h2 with h2;have h2:g=q:=h2;subst h2
  rcases ad with e|e
  ·exact .inl ((h.nb g).1 e)
  ·exact .inr (aN h4.size e)
theorem Zdm(Z:Nat->Prop)(s:Nat)(W:WD)(kd fr tq nm bp df bk bn:Int)(ba bm bc L)(th:Int)(ai ao ni ci no co I O w)(hS:Sc Z s W w)(hL:TxsAt w ba bm L)(sL:SlOk ba bm bc)(hI:InsAt w ai ni I)(hO:OutsAt w ao no O)(sI:SlOk ai ni ci)(sO:SlOk ao no co)(hz:J3 (kd,fr,tq,nm,(bp,df,bk,bn,L),th,I,O)) :
  Calls aB 275 #[dH (some ⟨s,0,none⟩),.agg #[E J kd,E J fr,E J tq,E J nm,E J bp,E J df,E J bk,E J bn,F ba bm bc,E J th,F ai ni ci,F ao no co]] w λe w'=>e = dF (dG #[])/\Zac Z s (W.sent (kd,fr,tq,nm,(bp,df,bk,bn,L),th,I,O)) w w':=by
 obtain⟨j0,ji,cq,ct,cu⟩:=info_parts Tr.Tryz.infoMsgC;obtain⟨ka,kn,kc,vn,vm,Kn,Km,hA⟩:=hS;obtain⟨na,nc,ma,mc,rfl,rfl,_,_,_,sm⟩:=hA.on.read;have hb:=hA.box;obtain⟨X,hX,af,az⟩:=ka00 w [E J kd,E J fr,E J tq,E J nm,E J bp,E J df,E J bk,E J bn,F ba bm bc,E J th,F ai ni ci,F ao no co] 106;have bb:=ZE af hb;have C1:=Zd (λV (hv:ZD w V)=>Es kd fr tq nm bp df bk bn ba bm bc L th ai ao ni ci no co I O V (hL.later hv) sL (by rw[<-hL.1];exact hz.1.1) hz.1.2 (hI.later hv) (hO.later hv) sI sO hz.2);have bq:=Zd (λw4 w5 w6 g cap cs=>Zna (w4:=w4) (w5:=w5) (w6:=w6) (g:=g) (cap:=cap) (cs:=cs) (m:=(kd,fr,tq,nm,(bp,df,bk,bn,L),th,I,O)) hA)
 have bg:Hid (¬W.m.length<20->Zac Z s (W.sent (kd,fr,tq,nm,(bp,df,bk,bn,L),th,I,O)) w X):=λh=>by
  have e:W.sent (kd,fr,tq,nm,(bp,df,bk,bn,L),th,I,O)=W:=if_neg h;rw[e];exact⟨⟨ka,kn,kc,_,_,Kn,Km,hA.later af⟩,Gr.of af,λq hq=>.inl ((hA.nb q).1 (((hA.later af).nb q).2 hq))⟩
 obtain⟨ag,HB⟩:=kh2 af bb;have HW:=Zd (hA.later af).on;have cg:=Zd az;obtain⟨-,-,x2,xl⟩:=kc3 bb;obtain⟨m0,m1,m2,m3,m4,m5,m6,m7,m8,m9,m10,m11,ml⟩:=kc12 az;clear hL sL hI hO sI sO hz af az hb hA bb;by_cases hl:W.m.length<20;rotate_left
 ·have cm:¬(W.m.length:Int)<20:=by omega
  go_enter func275,ntmps275
  go_upto_region 1 with fail
  rw[<-hX];clear hX;(try go_wp2);go_end0;exact⟨rfl,bg hl⟩
 have cm:(W.m.length:Int)<20:=by omega
 have cw:W.m.length<=19:=by omega
 clear bg;go_enter func275,ntmps275
 go_upto_region 1 with fail
 rw[<-hX];clear hX;(try go_wp2_with fail);have CC:=Zd (C1 X.drew (Zf ag (Zi X)))
 go_region_law (first
  | (refine Y9 (by rfl) 227 #[.agg #[E J kd,E J fr,E J tq,E J nm,E J bp,E J df,E J bk,E J bn,F ba bm bc,E J th,F ai ni ci,F ao no co]] (by kernel_rfl) CC ?_;rintro e w4 ⟨a1,c1,a2,c2,a3,c3,rfl,bd,au⟩;refine⟨_,rfl,?_⟩;have b4:=ZE au HB;have n2:=Zb b4 2 _ rfl;have nl:=aA b4;have bh:Hid (Fresh w.heap.size w4 (λw2=>Tr.msgR.C w2 [E J kd,E J fr,E J tq,E J nm,E J bp,E J df,E J bk,E J bn,F a1 bm c1,E J th,F a2 ni c2,F a3 no c3] (kd,fr,tq,nm,(bp,df,bk,bn,L),th,I,O))):=λw2 g2=>Zdw (bd w2 (g2.mono (λq _ e=>aD e ag.size))).1 (bd w2 (g2.mono (λq _ e=>aD e ag.size))).2;have cf:=Zd au;have aw:=Zd b4;have ax:=Zd ((Gr.of (S:=λ_=>False) au).own HW.rm.drew (λ_ _ q=>q));clear bd au b4)
  | (refine step_append_lies _ (by rfl) _ _ _ (by rfl) 0 106 j0 _ 12 144 underlying88 ji cq ct cu rfl (by decide) (F ma W.m.length mc) W.m.length Km.flatten (by rfl) (ax.alloc _) ⟨w4.heap.size,0,none⟩ 1 1 [E J kd,E J fr,E J tq,E J nm,E J bp,E J df,E J bk,E J bn,F a1 bm c1,E J th,F a2 ni c2,F a3 no c3] (by rfl) (by rfl) (World.news_of_block (cs:=#[E J kd,E J fr,E J tq,E J nm,E J bp,E J df,E J bk,E J bn,F a1 bm c1,E J th,F a2 ni c2,F a3 no c3]) (t:=106) (fr:=(0,0)) (heap_alloc_new w4 _)) (by simp[Value.oneCell']) (by decide) (by unfold maxLen;omega) (by omega) (Nat.zero_le _) (w4.heap.size+1) (by simp) ?_;intro g2 cj w6 bx be bv cx;have b6:=(be.block s (by simp;omega) (λe=>Y1 ax aw (by decide) s e.symm rfl)).trans ((Below.heap_alloc _ _ _ nl).trans aw);have o2:=Zb b6 2 _ rfl;have db:=Zg b6 2;have ol:=aA b6;have bo:=Zd bx;have bi:=Zd be;have bj:=Zd bv;clear bx be bv b6))
 all_goals
  have cd:=Zd (bq w4 _ w6 g2 cj [E J kd,E J fr,E J tq,E J nm,E J bp,E J df,E J bk,E J bn,F a1 bm c1,E J th,F a2 ni c2,F a3 no c3] (Zf ag (Zf (Zi X) cf)) bh (Zh w4 _) bi (by
   rcases Za bj with e|e
   ·exact .inl e
   ·exact .inr (by omega)) bo hl)
  clear bq bo bi bj bh ax aw HW cg;go_wp2;go_end0;exact⟨rfl,Za cd⟩
theorem Tu{sz:Nat}:∀ {K:List (List Value)},Tr.Wid sz K->K.flatten.length=K.length*sz
 | [],_=>by simp
 | c :: K,h=>by
  have h1:=h c (by simp);have h2:=Tu (K:=K) (λc hc=>h c (by simp[hc]));rw[cD,cJ,h2,h1,List.length_cons,Nat.succ_mul];omega
theorem Tt{sz:Nat}:∀ {K:List (List Value)} (_:Tr.Wid sz K) {i:Nat},K.flatten.take (i*sz)=(K.take i).flatten
 | [],_,i=>by simp
 | c :: K,h,0=>by simp
 | c :: K,h,i+1=>by
  have h1:=h c (by simp);have h2:=Tt (K:=K) (λc hc=>h c (by simp[hc])) (i:=i);rw[cD,List.take_append,h1,aS (by rw[h1,Nat.succ_mul];omega),show (i+1)*sz - sz=i*sz by rw[Nat.succ_mul];omega,h2,List.take_succ_cons,cD]
theorem Hj{sz:Nat}:∀ {K:List (List Value)} (_:Tr.Wid sz K) {i:Nat},K.flatten.drop (i*sz)=(K.drop i).flatten
 | [],_,i=>by simp
 | c :: K,h,0=>by simp
 | c :: K,h,i+1=>by
  have h1:=h c (by simp);have h2:=Hj (K:=K) (λc hc=>h c (by simp[hc])) (i:=i);rw[cD,List.drop_append,h1,List.drop_of_length_le (by rw[h1,Nat.succ_mul];omega),show (i+1)*sz - sz=i*sz by rw[Nat.succ_mul];omega,h2,List.drop_succ_cons];simp
def zeroM:Value:=.agg #[E J 0,E J 0,E J 0,E J 0,E J 0,E J 0,E J 0,E J 0,F none 0 0,E J 0,F none 0 0,F none 0 0]
theorem Tryz.zeroMsg(w):(zeroValue 106).run aB w = .ok zeroM w:=by
 obtain⟨i0,hi,aa,_,_⟩:=info_parts Tr.Tryz.infoMsgC;simp[zeroValue,typeInfo,hi,aa,zeroM]
def Va:List Value:=[E J 0,E J 0,E J 0,E J 0,E J 0,E J 0,E J 0,E J 0,F none 0 0,E J 0,F none 0 0,F none 0 0]
theorem Zeo:(Builtin.zeroCells zeroM.cells 1).toList=Va:=by kernel_rfl
theorem Zaf:∀ v∈Va,v.oneCell'=true:=by
 intro v hv;simp only[Va,List.mem_cons,List.not_mem_nil,or_false] at hv
 rcases hv with rfl|rfl|rfl|rfl|rfl|rfl|rfl|rfl|rfl|rfl|rfl|rfl <;> rfl
theorem Zhb(X Z:List Value)(i n:Nat)(hi:i<n)(hX:n*12<=X.length) :
  (laid (laid X (i*12) ((X.take (n*12)).drop ((i+1)*12))) ((n - 1)*12) Z).take ((n - 1)*12)=(X.take (n*12)).take (i*12)++(X.take (n*12)).drop ((i+1)*12):=by
 have e1:((X.take (n*12)).drop ((i+1)*12)).length=(n - 1)*12 - i*12:=by simp;omega
 unfold laid;rw[List.append_assoc,cB (by simp;omega),aS (by simp;omega)];rw[e1,show i*12+((n - 1)*12 - i*12)=(n - 1)*12 by omega,cB (by rw[cJ,e1];simp;omega),aS (by rw[cJ,e1];simp;omega),List.take_take,Nat.min_eq_left (by omega)]
theorem Ft(base g n c i j:Nat)(K:List (List Value))(w:World)(hw:Tr.Wid 12 K)(ap:∀ u∈K.flatten,u.oneCell'=true)(hi:i<n)(hj:j=i+1)(hz:K.length=n)(h:w.ownsRow base 106 12 (F (some ⟨g,0,none⟩) n c) n K.flatten) :
  Calls aB 273 #[F (some ⟨g,0,none⟩) n c,E J i,E J j] w λe w'=>e = dF (F (some ⟨g,0,none⟩) (n - 1) c)/\w'.ownsRow base 106 12 (F (some ⟨g,0,none⟩) (n - 1) c) (n - 1) (K.take i++K.drop (i+1)).flatten/\w.grownBy w' (some g):=by
 obtain⟨i0,bh,cj,bo,cl⟩:=info_parts Tr.Tryz.infoMsgC;obtain⟨bi,h|⟨g',c',aa,hv,bg,hh,h1,h2,h3,h4⟩⟩:=h
 ·cases h.1
 simp only[Value.slice.injEq,Option.some.injEq,Addr.mk.injEq,and_true,true_and] at hv;obtain⟨rfl,rfl⟩:=hv;unfold maxLen at h2;have am:aa.toList.length=c*12:=by simpa using h3
 obtain⟨ab,af⟩:=ZG ((aa.toList.take (n*12)).drop ((i+1)*12));have ag:ab.length=(n - j)*12:=by rw[af];simp;omega
 have aw:∀ u∈ab,u.oneCell'=true:=λu hu=>by
  rw[af,h4] at hu;exact ap u (List.mem_of_mem_drop hu)
 obtain⟨A,hA,bj⟩:∃ A:Addr,(if c=j then some (⟨g,0,none⟩:Addr) else some ⟨g,j*12,none⟩)=some A/\Hid (∀ t u,ab[t]? = some u->w.drew.cell? (A.add t)=some u):=by
  by_cases hc:c=j
  ·refine⟨⟨g,0,none⟩,by simp[hc],λt u hu=>?_⟩;have h0:ab.length=0:=(by rw[ag];omega);rw[List.length_eq_zero_iff.1 h0] at hu;simp at hu
  ·refine⟨⟨g,j*12,none⟩,by simp[hc],λt u hu=>?_⟩;have ht:t<(n - j)*12:=(by rw[<-ag];exact (List.getElem?_eq_some_iff.1 hu).1);rw[af,List.getElem?_drop,List.getElem?_take_of_lt (by omega)] at hu;rw[Addr.add_lit];show w.cell? _=_;simp only[World.cell?,hh];rw[<-hu,<-hj];simp
 have h5:i*12+ab.length<=aa.size:=by rw[ag,h3];omega
 obtain⟨W1,ah⟩:=ZG (w.drew.setRow g (laid aa.toList (i*12) ab).toArray);have an:W1.heap[g]? = some (dE (laid aa.toList (i*12) ab).toArray 106 (0,0)):=by rw[ah];exact setRow_heap w.drew g aa _ 106 (0,0) hh
 have ak:(laid aa.toList (i*12) ab).length=c*12:=by rw[Wb _ _ _ (by simpa using h5),am]
 have ar:∀ ty d,(Builtin.clear_ #[88] ty #[F (some ⟨g,(n - 1)*12,none⟩) 1 d]).run aB W1 = .ok (dG #[]) (W1.setRow g (laid (laid aa.toList (i*12) ab) ((n - 1)*12) Va).toArray):=λty d=>by
  have:=Ug (P:=aB) W1 88 106 ty zeroM underlying88 Tryz.zeroMsg g ((n - 1)*12) 1 d 12 (laid aa.toList (i*12) ab).toArray 106 Va (by decide) Zeo an rfl (by simp[ak];omega) Zaf;simpa using this
 have cf:i+(n - j)=n - 1:=by omega
 have R:Hid (W1.setRow g (laid (laid aa.toList (i*12) ab) ((n - 1)*12) Va).toArray |>.ownsRow base 106 12 (F (some ⟨g,0,none⟩) (n - 1) c) (n - 1) (K.take i++K.drop (i+1)).flatten):=by
  refine⟨by rw[List.flatten_append,cJ,<-Tt hw,<-Hj hw,bI,List.length_drop,Tu hw];omega,.inr ⟨g,c,(laid (laid aa.toList (i*12) ab) ((n - 1)*12) Va).toArray,rfl,bg,setRow_heap _ g _ _ 106 (0,0) an,by omega,by unfold maxLen;omega,?_,?_⟩⟩
  ·rw[List.size_toArray,Wb _ _ _ (by rw[ak];simp[Va];omega),ak]
  ·rw[af];show List.take _ (laid _ _ _)=_;rw[Zhb aa.toList Va i n hi (by rw[am];omega),h4,List.flatten_append,Tt hw,Hj hw]
 have G:Hid (w.grownBy (W1.setRow g (laid (laid aa.toList (i*12) ab) ((n - 1)*12) Va).toArray) (some g)):=by
  have e:W1.setRow g (laid (laid aa.toList (i*12) ab) ((n - 1)*12) Va).toArray=w.drew.setRow g (laid (laid aa.toList (i*12) ab) ((n - 1)*12) Va).toArray:=by rw[ah,setRow_setRow]
  rw[e];refine⟨rfl,rfl,rfl,by simp[World.setRow],λk hk av=>?_⟩;exact setRow_other w.drew g k _ (λe=>av (by rw[e]))
 obtain⟨ay,HW,bb,bd,be,bf⟩:=kh6 ar ah aw ag hh h5;have bv:i<=c:=by omega
 have ca:j<=c:=by omega
 have cb:j<=n:=by omega
 have bx:¬(i=j):=by omega
 have av:¬(c=i+(n - j)):=by omega
 have cd:i+(n - j)<=n:=by omega
 have ce:(i:Int)+((n - j:Nat):Int)<=(n:Int):=by omega
 have bz:((i:Int) == (j:Int))=false:=by simp;omega
 clear ar ah aw ag hh h5 an ak af h3 h4 bi am hj hz ap hw;go_enter func273,ntmps273;go_wp2_with fail
 go_region_law (refine Ud rfl (.tmp 22) (.tmp 25) 88 rfl 106 i0 12 underlying88 bh bo g i c (by simp[Act.eval,Act.put]) A (n - j) (c - j) ab (by simp[Act.eval,Act.put]) bd bj bb (by omega) aa 106 be bf ?_;rw[<-Za HW])
 have bu:∀ ty d,(Builtin.clear_ #[88] ty #[F (some ⟨g,(n - 1)*12,none⟩) (n - (n - 1)) d]).run aB W1 = .ok (dG #[]) (W1.setRow g (laid (laid aa.toList (i*12) ab) ((n - 1)*12) Va).toArray):=λty d=>by
  rw[show n - (n - 1)=1 by omega];exact ay ty d
 go_wp2;go_ret;exact⟨rfl,Za R,Za G⟩
def WD.lost(W:WD)(i:Nat):WD:=⟨W.k,W.n,W.m.take i++W.m.drop (i+1)⟩
theorem Zcz{α : Type}{Z:Tr.Rec α}{w}{K:List (List Value)}{L:List α}(h:Tr.AllC Z w K L){i:Nat}(hi:i<L.length):Tr.AllC Z w (K.take i++K.drop (i+1)) (L.take i++L.drop (i+1)):=by
 have hl:=h.1;refine⟨by simp[hl],λj h1 h2=>?_⟩;by_cases q:j<i
 ·rw[List.getElem_append_left (by simp;omega),List.getElem_append_left (by simp;omega),List.getElem_take,List.getElem_take];exact h.2 j (by omega) (by omega)
 ·simp only[cJ,bI,List.length_drop] at h1 h2;rw[List.getElem_append_right (by simp;omega),List.getElem_append_right (by simp;omega),List.getElem_drop,List.getElem_drop];simp only[bI,hl];exact h.2 _ (by omega) (by omega)
theorem Znc{Z:Nat->Prop}{s}{W:WD}{w w4 w6:World}{ka}{kn kc g cap i:Nat}{vn}{Kn Km:List (List Value)}(h:ScAt Z s W w ka kn kc vn (F (some ⟨g,0,none⟩) W.m.length cap) Kn Km)
  (h4:ZD w w4) (h6:w4.grownBy w6 (some g)) (hi:i<W.m.length)
  (ho:w6.ownsRow 0 106 12 (F (some ⟨g,0,none⟩) (W.m.length - 1) cap) (W.m.length - 1) (Km.take i++Km.drop (i+1)).flatten) :
  Zac Z s (W.lost i) w (w6.setCell ⟨s,2,none⟩ (F (some ⟨g,0,none⟩) (W.m.length - 1) cap)):=by
 have hb:=h.box;have an:=aA hb;have g6:Gr w w6 (λq=>q=g):=(Gr.of h4).grown h6 (λq e=>.inl (by injection e with e;exact e.symm));have b6:=g6.heap hb (λe=>Y1 h.on.rm hb (by decide) g rfl e.symm);have gx:Gr w6 (w6.setCell ⟨s,2,none⟩ (F (some ⟨g,0,none⟩) (W.m.length - 1) cap)) (λq=>q=s):=(Gr.refl w6 (λq=>q=s)).one s 2 (.inl rfl) _;have bx:=Tr.set_cells b6 2 (F (some ⟨g,0,none⟩) (W.m.length - 1) cap);have e2:(W.lost i).m.length=W.m.length - 1:=by simp[WD.lost];omega
 refine⟨⟨ka,kn,kc,vn,_,Kn,Km.take i++Km.drop (i+1),bx,λq e=>⟨aD (h.zs q e).1 (aN g6.size gx.size),(h.zs q e).2⟩,?_,?_,λV gV=>?_,h.on.sk⟩,?_,?_⟩
 ·exact gx.own (g6.own h.on.rn (λq hq e=>Tr.own_apart h.on.rm h.on.rn (by decide) q (by rw[e];rfl) hq)) (λq hq e=>Y1 h.on.rn hb (by decide) q hq e)
 ·rw[e2];exact gx.own ho (λq hq e=>Y1 ho b6 (by decide) q hq e)
 ·obtain⟨d1,d2,d3⟩:=h.on.dat V (((g6.mono (λq _ e=>.inr (.inr (by have e:q=g:=e;rw[e];rfl)))).trans (gx.mono (λq _ e=>.inl (.inr e)))).trans gV);exact⟨d1,d2,Zcz d3 hi⟩
 ·exact (g6.mono (λq _ e=>.inr ⟨_,Zb hb 2 _ rfl,by have e:q=g:=e;rw[e];rfl⟩)).trans (gx.mono (λq _ e=>.inl e))
 ·rintro q ⟨v,h1,h2⟩;rw[Zb bx 2 _ rfl] at h1;injection h1 with h1;subst h1;exact .inl ⟨_,Zb hb 2 _ rfl,h2⟩
theorem Znx(Z:Nat->Prop)(s:Nat)(W:WD)(xk xn xt:Int)(xi:Nat)(xw xN th:Int)(ai ao ni ci no co w)(hS:Sc Z s W w)(hl:xi<W.m.length)(hm:W.m.length<=20) :
  Calls aB 239 #[dH (some ⟨s,0,none⟩),.agg #[E J xk,E J xn,E J xt,E J xi,E J xw,E J xN,E J th,F ai ni ci,F ao no co]] w λe w'=>e = dF (E J 0)/\Zac Z s (W.lost xi) w w':=by
 obtain⟨ka,kn,kc,vn,vm,Kn,Km,hA⟩:=hS;have hw:=hA.on;obtain⟨na,nc,ma,mc,rfl,rfl,_,_,_,sm⟩:=hw.read;have hb:=hA.box
 obtain⟨g,rfl⟩:∃ g,ma=some ⟨g,0,none⟩:=by
  rcases hw.rm.2 with ⟨_,e⟩|⟨g,cap,bd,e,_⟩
  ·omega
  ·injection e with e;exact⟨g,e⟩
 obtain⟨X,hX,ab,am⟩:=ka00 w [E J xk,E J xn,E J xt,E J xi,E J xw,E J xN,E J th,F ai ni ci,F ao no co] 103;have af:=ZE ab hb;have aq:=hw.now.2.2.1;have wK:=hw.now.2.2.wid;have au:=Tr.flat_one hw.now.2.2;have C1:=Zd (Ft 0 g W.m.length mc xi (xi+1) Km X.drew wK au hl rfl aq (hw.later (Zf ab (Zi X))).rm);have aj:=Zd (λw6=>Znc (w4:=X.drew) (w6:=w6) (i:=xi) hA (Zf ab (Zi X)));obtain⟨HB,HW⟩:=kh2 af (hw.later ab);have az:IntKind.i64.wrap ((xi:Int)+1)=((xi+1:Nat):Int):=by rw[IntKind.wrap_i64] <;> omega
 obtain⟨-,-,x2,xl⟩:=kc3 af;obtain⟨-,-,-,m3,ml⟩:=kc4 am;clear ab am hb hw af hA aq wK au;go_enter func239,ntmps239
 go_upto_region 1 with fail
 rw[<-hX];clear hX;(try go_wp2_with fail)
 go_region_law (first
  | (refine Y9 (by rfl) 273 #[F (some ⟨g,0,none⟩) W.m.length mc,E J xi,E J ((xi+1:Nat):Int)] (by first|kernel_rfl|(simp only[<-az];kernel_rfl)) C1 ?_;rintro e w4 ⟨rfl,ar,ag⟩;refine⟨_,rfl,?_⟩;have b4:=(ag.block s xl (λe=>Y1 HW.rm HB (by decide) g rfl (by injection e with e;exact e.symm))).trans HB;have n2:=Zb b4 2 _ rfl;have nf:=Zg b4 2;have nl:=aA b4;have ax:=Zd (aj w4 ag hl ar);clear ar ag b4))
 all_goals
  clear aj HW HB C1;go_wp2;go_ret;exact⟨rfl,Za ax⟩
def Deed(Z:Nat->Prop)(s:Nat)(hv:Value)(x:Int)(W:WD)(V0:World)(n:Nat)(bd caps:Array Value):Prop:=
 (∀ args w,(callFunc n args).run aB w = .ok (.enter n args) w) /\
 ∀ V,ZD V0 V->Calls aB n (bd++#[hv]++caps) V λe V'=>e = dF (E J x)/\(x=0->Sc Z s W V')/\Gr V V' (λq=>¬Z q)
theorem Zht(s n:Nat)(bd caps)(w:World):Calls aB 234 #[dH (some ⟨s,0,none⟩),.func (.func n) bd caps] w λe w'=>e = dF (.func (.func 265) #[] #[dH (some ⟨w.heap.size,0,none⟩),dH (some ⟨w.heap.size+1,0,none⟩)])/\w'=(w.alloc (dE #[dH (some ⟨s,0,none⟩)] 204)).alloc (dE #[.func (.func n) bd caps] 292):=by
 go_enter func234,ntmps234;go_wp2;go_ret;exact⟨rfl,rfl⟩
theorem Zjw(s n:Nat)(bd caps)(w:World):Calls aB 237 #[dH (some ⟨s,0,none⟩),.func (.func n) bd caps] w λe w'=>e = dF (.func (.func 270) #[] #[dH (some ⟨w.heap.size,0,none⟩),dH (some ⟨w.heap.size+1,0,none⟩)])/\w'=(w.alloc (dE #[dH (some ⟨s,0,none⟩)] 204)).alloc (dE #[.func (.func n) bd caps] 292):=by
 go_enter func237,ntmps237;go_wp2;go_ret;exact⟨rfl,rfl⟩
theorem Al(s n:Nat)(bd caps)(w:World):Calls aB 240 #[dH (some ⟨s,0,none⟩),.func (.func n) bd caps] w λe w'=>e = dF (.func (.func 274) #[] #[dH (some ⟨w.heap.size,0,none⟩),dH (some ⟨w.heap.size+1,0,none⟩)])/\w'=(w.alloc (dE #[dH (some ⟨s,0,none⟩)] 204)).alloc (dE #[.func (.func n) bd caps] 292):=by
 go_enter func240,ntmps240;go_wp2;go_ret;exact⟨rfl,rfl⟩
theorem Dv(s n:Nat)(bd caps)(w:World):Calls aB 242 #[dH (some ⟨s,0,none⟩),.func (.func n) bd caps] w λe w'=>e = dF (.func (.func 276) #[] #[dH (some ⟨w.heap.size,0,none⟩),dH (some ⟨w.heap.size+1,0,none⟩)])/\w'=(w.alloc (dE #[dH (some ⟨s,0,none⟩)] 204)).alloc (dE #[.func (.func n) bd caps] 292):=by
 go_enter func242,ntmps242;go_wp2;go_ret;exact⟨rfl,rfl⟩
theorem Zcx(Z:Nat->Prop)(s:Nat)(W:WD)(xk xn xt xi xw xN th:Int)(ai ao ni ci no co)(b1 b2 n:Nat)(bd caps)(x:Int)(W':WD)(o:Bool)(w:World)(h1:w.heap[b1]? = some (dE [dH (some ⟨s,0,none⟩)].toArray 204 (0,0)))(h2:w.heap[b2]? = some (dE [.func (.func n) bd caps].toArray 292 (0,0)))(hS:Sc Z s W w)(ho:La xn W.n.length=o)(hd:o=true->Deed Z s (.agg #[E J xk,E J xn,E J xt,E J xi,E J xw,E J xN,E J th,F ai ni ci,F ao no co]) x W' w n bd caps)(y:Int)(hy:(if o=true then x else 5)=y) :
  Calls aB 265 #[.agg #[E J xk,E J xn,E J xt,E J xi,E J xw,E J xN,E J th,F ai ni ci,F ao no co],dH (some ⟨b1,0,none⟩),dH (some ⟨b2,0,none⟩)] w λe w'=>e = dF (E J y)/\(y=0->Sc Z s W' w')/\Gr w w' (λq=>¬Z q):=by
 obtain⟨X,hX,aa,af⟩:=ka00 w [E J xk,E J xn,E J xt,E J xi,E J xw,E J xN,E J th,F ai ni ci,F ao no co] 103;have k1:=ZE aa h1;have k2:=ZE aa h2;obtain⟨ln,ag⟩:∃ n,W.n.length=n:=⟨_,rfl⟩
 obtain⟨a,c,hc⟩:∃ a c,X.cell? ⟨s,1,none⟩=some (F a ln c):=by
  obtain⟨ka,kn,kc,vn,vm,Kn,Km,hA⟩:=hS.later aa;obtain⟨na,nc,ma,mc,rfl,rfl,_⟩:=hA.on.read;exact⟨_,_,by rw[<-ag];exact Zb hA.box 1 _ rfl⟩
 rw[ag] at ho;have bs:s<X.heap.size:=aD hS.lt aa.size;obtain⟨C1,ac,am,az,HD⟩:=kh5 (Qu xn ln o X.drew ho) aa af k2 hd;obtain⟨c1,l1⟩:X.cell? ⟨b1,0,none⟩=some (dH (some ⟨s,0,none⟩))/\b1<X.heap.size:=⟨Zb k1 0 _ rfl,aA k1⟩;obtain⟨-,m1,ml⟩:=kc2 af;clear h1 h2 hS ho hd aa af k1 k2 ag;go_enter func265,ntmps265
 go_upto_region 1 with fail
 rw[<-hX];clear hX
 go_region_law (first
  | (refine Y9 (by rfl) 175 #[E J xn,E J ln] (by kernel_rfl) C1 ?_;rintro e w4 ⟨rfl,rfl⟩;refine⟨_,rfl,?_⟩))
 all_goals
  cases o
  ·obtain rfl:(5:Int)=y:=hy;clear HD C1;go_wp2;go_ret
   first|exact⟨rfl,λe=>absurd e (by decide),Gr.of (Zf ac (Zi X))⟩|exact⟨rfl,Gr.of (Zf ac (Zi X))⟩
  ·obtain rfl:x=y:=hy;obtain⟨eg,au⟩:=HD rfl;have C2:=Zd (au X.drew (Zf ac (Zi X)));have k2:=Za az;obtain⟨d0,dl⟩:=kc1 k2;obtain⟨g0,g1,g2,g3,g4,g5,g6,g7,g8,-⟩:=kc9 am;clear HD C1 au k2 m1;have m1:=Zb am 1 _ rfl;go_wp2_with fail;refine C2.mono ?_;rintro e w5 ⟨rfl,aq,aw⟩;have bb:=Zd aq;have ay:Hid (Gr w w5 (λq=>¬Z q)):=(Gr.of (Zf ac (Zi X))).trans aw;clear aq aw C2;go_wp2;go_ret;exact⟨rfl,Za bb,Za ay⟩
theorem Nt(Z:Nat->Prop)(s:Nat)(W:WD)(xk xn xt xi xw xN th:Int)(ai ao ni ci no co)(b1 b2 n:Nat)(bd caps)(x:Int)(W':WD)(o:Bool)(w:World)(h1:w.heap[b1]? = some (dE [dH (some ⟨s,0,none⟩)].toArray 204 (0,0)))(h2:w.heap[b2]? = some (dE [.func (.func n) bd caps].toArray 292 (0,0)))(hS:Sc Z s W w)(ho:La xi W.m.length=o)(hd:o=true->Deed Z s (.agg #[E J xk,E J xn,E J xt,E J xi,E J xw,E J xN,E J th,F ai ni ci,F ao no co]) x W' w n bd caps)(y:Int)(hy:(if o=true then x else 5)=y) :
  Calls aB 270 #[.agg #[E J xk,E J xn,E J xt,E J xi,E J xw,E J xN,E J th,F ai ni ci,F ao no co],dH (some ⟨b1,0,none⟩),dH (some ⟨b2,0,none⟩)] w λe w'=>e = dF (E J y)/\(y=0->Sc Z s W' w')/\Gr w w' (λq=>¬Z q):=by
 obtain⟨X,hX,aa,af⟩:=ka00 w [E J xk,E J xn,E J xt,E J xi,E J xw,E J xN,E J th,F ai ni ci,F ao no co] 103;have k1:=ZE aa h1;have k2:=ZE aa h2;obtain⟨ln,ag⟩:∃ n,W.m.length=n:=⟨_,rfl⟩
 obtain⟨a,c,hc⟩:∃ a c,X.cell? ⟨s,2,none⟩=some (F a ln c):=by
  obtain⟨ka,kn,kc,vn,vm,Kn,Km,hA⟩:=hS.later aa;obtain⟨na,nc,ma,mc,rfl,rfl,_⟩:=hA.on.read;exact⟨_,_,by rw[<-ag];exact Zb hA.box 2 _ rfl⟩
 rw[ag] at ho;have bs:s<X.heap.size:=aD hS.lt aa.size;obtain⟨C1,ac,am,az,HD⟩:=kh5 (Qu xi ln o X.drew ho) aa af k2 hd;obtain⟨c1,l1⟩:X.cell? ⟨b1,0,none⟩=some (dH (some ⟨s,0,none⟩))/\b1<X.heap.size:=⟨Zb k1 0 _ rfl,aA k1⟩;obtain⟨-,-,-,m3,ml⟩:=kc4 af;clear h1 h2 hS ho hd aa af k1 k2 ag;go_enter func270,ntmps270
 go_upto_region 1 with fail
 rw[<-hX];clear hX
 go_region_law (first
  | (refine Y9 (by rfl) 175 #[E J xi,E J ln] (by kernel_rfl) C1 ?_;rintro e w4 ⟨rfl,rfl⟩;refine⟨_,rfl,?_⟩))
 all_goals
  cases o
  ·obtain rfl:(5:Int)=y:=hy;clear HD C1;go_wp2;go_ret
   first|exact⟨rfl,λe=>absurd e (by decide),Gr.of (Zf ac (Zi X))⟩|exact⟨rfl,Gr.of (Zf ac (Zi X))⟩
  ·obtain rfl:x=y:=hy;obtain⟨eg,au⟩:=HD rfl;have C2:=Zd (au X.drew (Zf ac (Zi X)));have k2:=Za az;obtain⟨d0,dl⟩:=kc1 k2;obtain⟨g0,g1,g2,g3,g4,g5,g6,g7,g8,-⟩:=kc9 am;clear HD C1 au k2 m3;have m3:=Zb am 3 _ rfl;go_wp2_with fail;refine C2.mono ?_;rintro e w5 ⟨rfl,aq,aw⟩;have bb:=Zd aq;have ay:Hid (Gr w w5 (λq=>¬Z q)):=(Gr.of (Zf ac (Zi X))).trans aw;clear aq aw C2;go_wp2;go_ret;exact⟨rfl,Za bb,Za ay⟩
theorem mvd{V W:World}{b:Nat}{o:Obj}(hb:ZD V W)(h:Hid (V.heap[b]? = some o)):Hid (W.heap[b]? = some o):=ZE hb h
theorem onb{U V W:World}(h:Hid (ZD U V))(hb:ZD V W):Hid (ZD U W):=Zf h hb
section
variable {V : World} {b : Nat} {t : TypeId} {v0 v1 v2 v3 v4 : Value}
theorem cl1(h:Hid (V.heap[b]? = some (dE [v0].toArray t (0,0)))):V.cell? ⟨b,0,none⟩=some v0/\b<V.heap.size:=⟨Zb h 0 _ rfl,aA h⟩
theorem cl2(h:Hid (V.heap[b]? = some (dE [v0,v1].toArray t (0,0)))):V.cell? ⟨b,0,none⟩=some v0/\V.cell? ⟨b,1,none⟩=some v1/\b<V.heap.size:=⟨Zb h 0 _ rfl,Zb h 1 _ rfl,aA h⟩
theorem cl3(h:Hid (V.heap[b]? = some (dE [v0,v1,v2].toArray t (0,0)))):V.cell? ⟨b,0,none⟩=some v0/\V.cell? ⟨b,1,none⟩=some v1/\V.cell? ⟨b,2,none⟩=some v2/\b<V.heap.size:=⟨Zb h 0 _ rfl,Zb h 1 _ rfl,Zb h 2 _ rfl,aA h⟩
theorem cl4(h:Hid (V.heap[b]? = some (dE [v0,v1,v2,v3].toArray t (0,0)))):V.cell? ⟨b,0,none⟩=some v0/\V.cell? ⟨b,1,none⟩=some v1/\V.cell? ⟨b,2,none⟩=some v2/\V.cell? ⟨b,3,none⟩=some v3/\b<V.heap.size:=⟨Zb h 0 _ rfl,Zb h 1 _ rfl,Zb h 2 _ rfl,Zb h 3 _ rfl,aA h⟩
theorem cl5(h:Hid (V.heap[b]? = some (dE [v0,v1,v2,v3,v4].toArray t (0,0)))):V.cell? ⟨b,0,none⟩=some v0/\V.cell? ⟨b,1,none⟩=some v1/\V.cell? ⟨b,2,none⟩=some v2/\V.cell? ⟨b,3,none⟩=some v3/\V.cell? ⟨b,4,none⟩=some v4/\b<V.heap.size:=⟨Zb h 0 _ rfl,Zb h 1 _ rfl,Zb h 2 _ rfl,Zb h 3 _ rfl,Zb h 4 _ rfl,aA h⟩
end
