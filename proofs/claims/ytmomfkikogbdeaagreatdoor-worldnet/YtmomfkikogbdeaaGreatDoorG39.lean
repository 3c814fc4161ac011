import Derived.Test.YtmomfkikogbdeaaGreatDoorH
import Derived.Test.YtmomfkikogbdeaaGreatDoorG38
open Go.Proofs.Tryz
open Go renaming lt_of_block->aA,heap_alloc_new->aR
open Go.Ending renaming returned->cY
open Go.IntKind renaming i64->J
open Go.Obj renaming cells->cW
open Go.Proofs.Tryz renaming prog->aB
open Go.Value renaming int->E,slice->F,tuple->cZ,pointer->dA
open Go.World renaming block_lt_of_cell?->aF
open List renaming flatten_cons->cV,length_append->cF,take_of_length_le->aL,take_append_of_le_length->bX,length_take->bL
open Nat renaming lt_of_lt_of_le->aE,le_trans->aS
set_option maxHeartbeats 12800000
set_option maxRecDepth 10000
namespace Go.Proofs.YtmomfkikogbdeaaGreatDoor
open Go.RowKit
def Xw(w:World)(s q:Nat):Prop:=∃ v,w.cell? ⟨s,2,none⟩=some v/\v.ownBlock=some q
def WD.sent(W:WD)(m:U8):WD:=if W.m.length<20 then ⟨W.k,W.n,W.m++[m]⟩ else W
def Sn(Z:Nat->Prop)(s:Nat)(W:WD)(w w':World):Prop:=Sc Z s W w'/\Gr w w' (λq=>q=s\/Xw w s q)/\∀ q,Xw w' s q->Xw w s q\/w.heap.size<=q
theorem ScAt.nb{Z:Nat->Prop}{s:Nat}{W:WD}{w:World}{ka:Option Addr}{kn kc:Nat}{vn vm:Value}{Kn Km:List (List Value)}(h:ScAt Z s W w ka kn kc vn vm Kn Km)(q:Nat):vm.ownBlock=some q↔Xw w s q:=
 ⟨λe=>⟨vm,Zb h.box 2 _ rfl,e⟩,λ⟨v,h1,h2⟩=>by
  rw[Zb h.box 2 _ rfl] at h1;injection h1 with h1;exact h1 ▸ h2⟩
theorem Sc.net_lt{Z:Nat->Prop}{s q:Nat}{W:WD}{w:World}(h:Sc Z s W w)(hq:Xw w s q):¬Z q/\q<w.heap.size/\q≠s:=by
 obtain⟨ka,kn,kc,vn,vm,Kn,Km,h⟩:=h;have hq:=(h.nb q).2 hq;exact⟨λe=>(h.zs q e).2.2.2 hq,(h.on.rm.lt q hq).2,Xd h.on.rm h.box (by decide) q hq⟩
theorem Zgl{Z:Nat->Prop}{s:Nat}{W:WD}{w w4 w5 w6:World}{ka:Option Addr}{kn kc g cap:Nat}{vn vm:Value}{Kn Km:List (List Value)}{cs:List Value}{m:U8}(h:ScAt Z s W w ka kn kc vn vm Kn Km)
  (h4:Below w.heap.size w w4) (hF:Fresh w.heap.size w4 (λw2=>Tr.msgR.C w2 cs m)) (h5:Below w4.heap.size w4 w5) (h6:w5.grownBy w6 vm.ownBlock) (ab:vm.ownBlock=some g\/w4.heap.size<=g)
  (ho:w6.ownsRow 0 106 12 (F (some ⟨g,0,none⟩) (W.m.length+1) cap) (W.m.length+1) (Km.flatten++cs)) (hl:W.m.length<20) :
  Sn Z s (W.sent m) w (w6.setCell ⟨s,2,none⟩ (F (some ⟨g,0,none⟩) (W.m.length+1) cap)):=by
 have hb:=h.box;have ay:=aA hb;have Q:Gr w w6 (λq=>vm.ownBlock=some q):=(Gr.of (Zf h4 h5)).grown h6 (λq e=>.inl e);have ap:Gr w4 w6 (λq=>vm.ownBlock=some q):=(Gr.of h5).grown h6 (λq e=>.inl e);have b6:=Q.heap hb (λe=>Xd h.on.rm hb (by decide) s e rfl);have z:Gr w6 (w6.setCell ⟨s,2,none⟩ (F (some ⟨g,0,none⟩) (W.m.length+1) cap)) (λq=>q=s):=(Gr.refl w6 (λq=>q=s)).one s 2 (.inl rfl) _;have bx:=Tr.set_cells b6 2 (F (some ⟨g,0,none⟩) (W.m.length+1) cap);have e1:W.sent m=⟨W.k,W.n,W.m++[m]⟩:=if_pos hl;have e2:(W.m++[m]).length=W.m.length+1:=by simp
 have e3:(Km++[cs]).flatten=Km.flatten++cs:=by simp
 rw[e1];refine⟨⟨ka,kn,kc,vn,_,Kn,Km++[cs],bx,λq e=>?_,?_,?_,λV gV=>?_,h.on.sk⟩,?_,?_⟩
 ·obtain⟨z1,z2,z3,z4⟩:=h.zs q e;refine⟨aE z1 (aS Q.size z.size),z2,z3,λe=>?_⟩;injection e with e;have e:g=q:=e;subst e
  rcases ab with e|e
  ·exact z4 e
  ·have:=h4.size;omega
 ·exact z.own (Q.own h.on.rn (λq hq e=>Tr.own_apart h.on.rm h.on.rn (by decide) q e hq)) (λq hq e=>Xd h.on.rn hb (by decide) q hq e)
 ·show World.ownsRow _ _ _ _ _ (W.m++[m]).length _;rw[e2,e3];exact z.own ho (λq hq e=>Xd ho b6 (by decide) q hq e)
 ·have gw:Gr w V (λq=>(Z q\/q=s)\/vn.ownBlock=some q\/vm.ownBlock=some q):=((Q.mono (λq _ e=>.inr (.inr e))).trans (z.mono (λq _ e=>.inl (.inr e)))).far gV (λq e=>by
   rcases e with e|e|e
   ·exact .inr (.inl e)
   ·exact .inr (.inr (.inl e))
   ·injection e with e;have e:g=q:=e;subst e
    rcases ab with e|e
    ·exact .inr (.inr (.inr e))
    ·exact .inl (aS h4.size e))
  have g4:Gr w4 V (λq=>q<w.heap.size):=((ap.mono (λq _ e=>(h.on.rm.lt q e).2)).trans (z.mono (λq _ e=>by have e:q=s:=e;omega))).far gV (λq e=>by
   rcases e with (e|e)|e|e
   ·exact .inr (h.zs q e).1
   ·exact .inr (by omega)
   ·exact .inr (h.on.rn.lt q e).2
   ·injection e with e;have e:g=q:=e;subst e
    rcases ab with e|e
    ·exact .inr (h.on.rm.lt g e).2
    ·exact .inl e)
  obtain⟨d1,d2,d3⟩:=h.on.dat V gw;exact⟨d1,d2,d3.snoc (hF V g4)⟩
 ·exact (Q.mono (λq _ e=>.inr ((h.nb q).1 e))).trans (z.mono (λq _ e=>.inl e))
 ·rintro q ⟨v,h1,h2⟩;rw[Zb bx 2 _ rfl] at h1;injection h1 with h1;subst h1;injection h2 with h2;have h2:g=q:=h2;subst h2
  rcases ab with e|e
  ·exact .inl ((h.nb g).1 e)
  ·exact .inr (aS h4.size e)
theorem Lz(Z:Nat->Prop)(s:Nat)(W:WD)(kd fr tq nm bp z Q bn:Int)(ba:Option Addr)(bm bc:Nat)(L:List TxD)(th:Int)(ai ao:Option Addr)(ni ci no co:Nat)(I:List InD)(O:List Z5)(w:World)(hS:Sc Z s W w)(hL:TxsAt w ba bm L)(sL:SlOk ba bm bc)(hI:InsAt w ai ni I)(hO:OutsAt w ao no O)(sI:SlOk ai ni ci)(sO:SlOk ao no co)(hz:V8 (kd,fr,tq,nm,(bp,z,Q,bn,L),th,I,O)) :
  Calls aB 275 #[dA (some ⟨s,0,none⟩),.agg #[E J kd,E J fr,E J tq,E J nm,E J bp,E J z,E J Q,E J bn,F ba bm bc,E J th,F ai ni ci,F ao no co]] w λe w'=>e = cY (cZ #[])/\Sn Z s (W.sent (kd,fr,tq,nm,(bp,z,Q,bn,L),th,I,O)) w w':=by
 obtain⟨j0,ji,cm,cn,cp⟩:=info_parts Tr.Tryz.infoMsgC;obtain⟨ka,kn,kc,vn,vm,Kn,Km,hA⟩:=hS;obtain⟨na,nc,ma,mc,rfl,rfl,_,_,_,sm⟩:=hA.on.read;have hb:=hA.box;obtain⟨X,hX⟩:=ZG (w.alloc (cW #[E J kd,E J fr,E J tq,E J nm,E J bp,E J z,E J Q,E J bn,F ba bm bc,E J th,F ai ni ci,F ao no co] 106));have ae:Below w.heap.size w X:=by rw[hX];exact Zh _ _
 have aa:X.heap[w.heap.size]? = some (cW [E J kd,E J fr,E J tq,E J nm,E J bp,E J z,E J Q,E J bn,F ba bm bc,E J th,F ai ni ci,F ao no co].toArray 106 (0,0)):=by rw[hX];exact aR _ _
 have ar:=ZE ae hb;have C1:=Zd (λV (hv:Below w.heap.size w V)=>Fs kd fr tq nm bp z Q bn ba bm bc L th ai ao ni ci no co I O V (hL.later hv) sL (by rw[<-hL.1];exact hz.1.1) hz.1.2 (hI.later hv) (hO.later hv) sI sO hz.2);have bj:=Zd (λw4 w5 w6 g cap cs=>Zgl (w4:=w4) (w5:=w5) (w6:=w6) (g:=g) (cap:=cap) (cs:=cs) (m:=(kd,fr,tq,nm,(bp,z,Q,bn,L),th,I,O)) hA)
 have bd:Hid (¬W.m.length<20->Sn Z s (W.sent (kd,fr,tq,nm,(bp,z,Q,bn,L),th,I,O)) w X):=λh=>by
  have e:W.sent (kd,fr,tq,nm,(bp,z,Q,bn,L),th,I,O)=W:=if_neg h;rw[e];exact⟨⟨ka,kn,kc,_,_,Kn,Km,hA.later ae⟩,Gr.of ae,λq hq=>.inl ((hA.nb q).1 (((hA.later ae).nb q).2 hq))⟩
 have ag:=Zd ae;have HB:=Zd ar;have HW:=Zd (hA.later ae).on;have cd:=Zd aa;have x2:=Zb ar 2 _ rfl;have xl:=aA ar;have m0:=Zb aa 0 _ rfl;have m1:=Zb aa 1 _ rfl;have m2:=Zb aa 2 _ rfl;have m3:=Zb aa 3 _ rfl;have m4:=Zb aa 4 _ rfl;have m5:=Zb aa 5 _ rfl;have m6:=Zb aa 6 _ rfl;have m7:=Zb aa 7 _ rfl;have m8:=Zb aa 8 _ rfl;have m9:=Zb aa 9 _ rfl;have m10:=Zb aa 10 _ rfl;have m11:=Zb aa 11 _ rfl;have ml:=aA aa;clear hL sL hI hO sI sO hz ae aa hb hA ar;by_cases hl:W.m.length<20;rotate_left
 ·have cg:¬(W.m.length:Int)<20:=by omega
  go_enter func275,ntmps275
  go_upto_region 1 with fail
  rw[<-hX];clear hX;(try go_wp2);go_end0;exact⟨rfl,bd hl⟩
 have cg:(W.m.length:Int)<20:=by omega
 have cq:W.m.length<=19:=by omega
 clear bd;go_enter func275,ntmps275
 go_upto_region 1 with fail
 rw[<-hX];clear hX;(try go_wp2_with fail);have CC:=Zd (C1 X.drew (Zf ag (Zi X)))
 go_region_law (first
  | (refine Zy (by rfl) 227 #[.agg #[E J kd,E J fr,E J tq,E J nm,E J bp,E J z,E J Q,E J bn,F ba bm bc,E J th,F ai ni ci,F ao no co]] (by kernel_rfl) CC ?_;rintro e w4 ⟨a1,c1,a2,c2,a3,c3,rfl,ay,aq⟩;refine⟨_,rfl,?_⟩;have b4:=ZE aq HB;have n2:=Zb b4 2 _ rfl;have nl:=aA b4;have be:Hid (Fresh w.heap.size w4 (λw2=>Tr.msgR.C w2 [E J kd,E J fr,E J tq,E J nm,E J bp,E J z,E J Q,E J bn,F a1 bm c1,E J th,F a2 ni c2,F a3 no c3] (kd,fr,tq,nm,(bp,z,Q,bn,L),th,I,O))):=λw2 g2=>Cy (ay w2 (g2.mono (λq _ e=>aE e ag.size))).1 (ay w2 (g2.mono (λq _ e=>aE e ag.size))).2;have cc:=Zd aq;have av:=Zd b4;have aw:=Zd ((Gr.of (S:=λ_=>False) aq).own HW.rm.drew (λ_ _ q=>q));clear ay aq b4)
  | (refine step_append_lies _ (by rfl) _ _ _ (by rfl) 0 106 j0 _ 12 144 underlying88 ji cm cn cp rfl (by decide) (F ma W.m.length mc) W.m.length Km.flatten (by rfl) (aw.alloc _) ⟨w4.heap.size,0,none⟩ 1 1 [E J kd,E J fr,E J tq,E J nm,E J bp,E J z,E J Q,E J bn,F a1 bm c1,E J th,F a2 ni c2,F a3 no c3] (by rfl) (by rfl) (World.news_of_block (cs:=#[E J kd,E J fr,E J tq,E J nm,E J bp,E J z,E J Q,E J bn,F a1 bm c1,E J th,F a2 ni c2,F a3 no c3]) (t:=106) (fr:=(0,0)) (aR w4 _)) (by simp[Value.oneCell']) (by decide) (by unfold maxLen;omega) (by omega) (Nat.zero_le _) (w4.heap.size+1) (by simp) ?_;intro g2 ce w6 bt az bs ct;have b6:=(az.block s (by simp;omega) (λe=>Xd aw av (by decide) s e.symm rfl)).trans ((Below.heap_alloc _ _ _ nl).trans av);have o2:=Zb b6 2 _ rfl;have cy:=Zg b6 2;have ol:=aA b6;have bi:=Zd bt;have bf:=Zd az;have bg:=Zd bs;clear bt az bs b6))
 all_goals
  have ca:=Zd (bj w4 _ w6 g2 ce [E J kd,E J fr,E J tq,E J nm,E J bp,E J z,E J Q,E J bn,F a1 bm c1,E J th,F a2 ni c2,F a3 no c3] (Zf ag (Zf (Zi X) cc)) be (Zh w4 _) bf (by
   rcases Za bg with e|e
   ·exact .inl e
   ·exact .inr (by omega)) bi hl)
  clear bj bi bf bg be aw av HW cd;go_wp2;go_end0;exact⟨rfl,Za ca⟩
theorem Cn{sz:Nat}:∀ {K:List (List Value)},Tr.Wid sz K->K.flatten.length=K.length*sz
 | [],_=>by simp
 | c :: K,h=>by
  have h1:=h c (by simp);have h2:=Cn (K:=K) (λc z=>h c (by simp[z]));rw[cV,cF,h2,h1,List.length_cons,Nat.succ_mul];omega
theorem Pb{sz:Nat}:∀ {K:List (List Value)} (_:Tr.Wid sz K) {i:Nat},K.flatten.take (i*sz)=(K.take i).flatten
 | [],_,i=>by simp
 | c :: K,h,0=>by simp
 | c :: K,h,i+1=>by
  have h1:=h c (by simp);have h2:=Pb (K:=K) (λc z=>h c (by simp[z])) (i:=i);rw[cV,List.take_append,h1,aL (by rw[h1,Nat.succ_mul];omega),show (i+1)*sz - sz=i*sz by rw[Nat.succ_mul];omega,h2,List.take_succ_cons,cV]
theorem Pc{sz:Nat}:∀ {K:List (List Value)} (_:Tr.Wid sz K) {i:Nat},K.flatten.drop (i*sz)=(K.drop i).flatten
 | [],_,i=>by simp
 | c :: K,h,0=>by simp
 | c :: K,h,i+1=>by
  have h1:=h c (by simp);have h2:=Pc (K:=K) (λc z=>h c (by simp[z])) (i:=i);rw[cV,List.drop_append,h1,List.drop_of_length_le (by rw[h1,Nat.succ_mul];omega),show (i+1)*sz - sz=i*sz by rw[Nat.succ_mul];omega,h2,List.drop_succ_cons];simp
def zeroM:Value:=.agg #[E J 0,E J 0,E J 0,E J 0,E J 0,E J 0,E J 0,E J 0,F none 0 0,E J 0,F none 0 0,F none 0 0]
theorem Tryz.zeroMsg(w:World):(zeroValue 106).run aB w = .ok zeroM w:=by
 obtain⟨Q,hi,z,_,_⟩:=info_parts Tr.Tryz.infoMsgC;simp[zeroValue,typeInfo,hi,z,zeroM]
def Wf:List Value:=[E J 0,E J 0,E J 0,E J 0,E J 0,E J 0,E J 0,E J 0,F none 0 0,E J 0,F none 0 0,F none 0 0]
theorem Ei:(Builtin.zeroCells zeroM.cells 1).toList=Wf:=by kernel_rfl
theorem F7:∀ v∈Wf,v.oneCell'=true:=by
 intro v z;simp only[Wf,List.mem_cons,List.not_mem_nil,or_false] at z
 rcases z with rfl|rfl|rfl|rfl|rfl|rfl|rfl|rfl|rfl|rfl|rfl|rfl <;> rfl
theorem Zbi(X Z:List Value)(i n:Nat)(hi:i<n)(Q:n*12<=X.length) :
  (laid (laid X (i*12) ((X.take (n*12)).drop ((i+1)*12))) ((n - 1)*12) Z).take ((n - 1)*12)=(X.take (n*12)).take (i*12)++(X.take (n*12)).drop ((i+1)*12):=by
 have z:((X.take (n*12)).drop ((i+1)*12)).length=(n - 1)*12 - i*12:=by simp;omega
 unfold laid;rw[List.append_assoc,bX (by simp;omega),aL (by simp;omega)];rw[z,show i*12+((n - 1)*12 - i*12)=(n - 1)*12 by omega,bX (by rw[cF,z];simp;omega),aL (by rw[cF,z];simp;omega),List.take_take,Nat.min_eq_left (by omega)]
theorem Md(base g n c i j:Nat)(K:List (List Value))(w:World)(hw:Tr.Wid 12 K)(al:∀ u∈K.flatten,u.oneCell'=true)(hi:i<n)(hj:j=i+1)(hz:K.length=n)(h:w.ownsRow base 106 12 (F (some ⟨g,0,none⟩) n c) n K.flatten) :
  Calls aB 273 #[F (some ⟨g,0,none⟩) n c,E J i,E J j] w λe w'=>e = cY (F (some ⟨g,0,none⟩) (n - 1) c)/\w'.ownsRow base 106 12 (F (some ⟨g,0,none⟩) (n - 1) c) (n - 1) (K.take i++K.drop (i+1)).flatten/\w.grownBy w' (some g):=by
 obtain⟨i0,be,ce,bi,cf⟩:=info_parts Tr.Tryz.infoMsgC;obtain⟨bf,h|⟨g',c',z,hv,bd,hh,h1,h2,h3,h4⟩⟩:=h
 ·cases h.1
 simp only[Value.slice.injEq,Option.some.injEq,Addr.mk.injEq,and_true,true_and] at hv;obtain⟨rfl,rfl⟩:=hv;unfold maxLen at h2;have aj:z.toList.length=c*12:=by simpa using h3
 obtain⟨Q,ad⟩:=ZG ((z.toList.take (n*12)).drop ((i+1)*12));have ae:Q.length=(n - j)*12:=by rw[ad];simp;omega
 have ar:∀ u∈Q,u.oneCell'=true:=λu hu=>by
  rw[ad,h4] at hu;exact al u (List.mem_of_mem_drop hu)
 obtain⟨A,hA,bg⟩:∃ A:Addr,(if c=j then some (⟨g,0,none⟩:Addr) else some ⟨g,j*12,none⟩)=some A/\Hid (∀ t u,Q[t]? = some u->w.drew.cell? (A.add t)=some u):=by
  by_cases hc:c=j
  ·refine⟨⟨g,0,none⟩,by simp[hc],λt u hu=>?_⟩;have h0:Q.length=0:=(by rw[ae];omega);rw[List.length_eq_zero_iff.1 h0] at hu;simp at hu
  ·refine⟨⟨g,j*12,none⟩,by simp[hc],λt u hu=>?_⟩;have ht:t<(n - j)*12:=(by rw[<-ae];exact (List.getElem?_eq_some_iff.1 hu).1);rw[ad,List.getElem?_drop,List.getElem?_take_of_lt (by omega)] at hu;rw[Addr.add_lit];show w.cell? _=_;simp only[World.cell?,hh];rw[<-hu,<-hj];simp
 have h5:i*12+Q.length<=z.size:=by rw[ae,h3];omega
 obtain⟨W1,af⟩:=ZG (w.drew.setRow g (laid z.toList (i*12) Q).toArray);have ak:W1.heap[g]? = some (cW (laid z.toList (i*12) Q).toArray 106 (0,0)):=by rw[af];exact setRow_heap w.drew g z _ 106 (0,0) hh
 have ah:(laid z.toList (i*12) Q).length=c*12:=by rw[Xz _ _ _ (by simpa using h5),aj]
 have an:∀ ty d,(Builtin.clear_ #[88] ty #[F (some ⟨g,(n - 1)*12,none⟩) 1 d]).run aB W1 = .ok (cZ #[]) (W1.setRow g (laid (laid z.toList (i*12) Q) ((n - 1)*12) Wf).toArray):=λty d=>by
  have:=Qh (P:=aB) W1 88 106 ty zeroM underlying88 Tryz.zeroMsg g ((n - 1)*12) 1 d 12 (laid z.toList (i*12) Q).toArray 106 Wf (by decide) Ei ak rfl (by simp[ah];omega) F7;simpa using this
 have cc:i+(n - j)=n - 1:=by omega
 have R:Hid (W1.setRow g (laid (laid z.toList (i*12) Q) ((n - 1)*12) Wf).toArray |>.ownsRow base 106 12 (F (some ⟨g,0,none⟩) (n - 1) c) (n - 1) (K.take i++K.drop (i+1)).flatten):=by
  refine⟨by rw[List.flatten_append,cF,<-Pb hw,<-Pc hw,bL,List.length_drop,Cn hw];omega,.inr ⟨g,c,(laid (laid z.toList (i*12) Q) ((n - 1)*12) Wf).toArray,rfl,bd,setRow_heap _ g _ _ 106 (0,0) ak,by omega,by unfold maxLen;omega,?_,?_⟩⟩
  ·rw[List.size_toArray,Xz _ _ _ (by rw[ah];simp[Wf];omega),ah]
  ·rw[ad];show List.take _ (laid _ _ _)=_;rw[Zbi z.toList Wf i n hi (by rw[aj];omega),h4,List.flatten_append,Pb hw,Pc hw]
 have G:Hid (w.grownBy (W1.setRow g (laid (laid z.toList (i*12) Q) ((n - 1)*12) Wf).toArray) (some g)):=by
  have e:W1.setRow g (laid (laid z.toList (i*12) Q) ((n - 1)*12) Wf).toArray=w.drew.setRow g (laid (laid z.toList (i*12) Q) ((n - 1)*12) Wf).toArray:=by rw[af,setRow_setRow]
  rw[e];refine⟨rfl,rfl,rfl,by simp[World.setRow],λk hk aq=>?_⟩;exact setRow_other w.drew g k _ (λe=>aq (by rw[e]))
 have av:=Zd an;have HW:=Zd af;have ax:=Zd ar;have ay:=Zd ae;have az:=Zd hh;have bb:=Zd h5;have bs:i<=c:=by omega
 have bv:j<=c:=by omega
 have bx:j<=n:=by omega
 have bt:¬(i=j):=by omega
 have aq:¬(c=i+(n - j)):=by omega
 have ca:i+(n - j)<=n:=by omega
 have cb:(i:Int)+((n - j:Nat):Int)<=(n:Int):=by omega
 have bu:((i:Int) == (j:Int))=false:=by simp;omega
 clear an af ar ae hh h5 ak ah ad h3 h4 bf aj hj hz al hw;go_enter func273,ntmps273;go_wp2_with fail
 go_region_law (refine Vl rfl (.tmp 22) (.tmp 25) 88 rfl 106 i0 12 underlying88 be bi g i c (by simp[Act.eval,Act.put]) A (n - j) (c - j) Q (by simp[Act.eval,Act.put]) ay bg ax (by omega) z 106 az bb ?_;rw[<-Za HW])
 have br:∀ ty d,(Builtin.clear_ #[88] ty #[F (some ⟨g,(n - 1)*12,none⟩) (n - (n - 1)) d]).run aB W1 = .ok (cZ #[]) (W1.setRow g (laid (laid z.toList (i*12) Q) ((n - 1)*12) Wf).toArray):=λty d=>by
  rw[show n - (n - 1)=1 by omega];exact av ty d
 go_wp2;go_ret;exact⟨rfl,Za R,Za G⟩
def WD.lost(W:WD)(i:Nat):WD:=⟨W.k,W.n,W.m.take i++W.m.drop (i+1)⟩
theorem Ch{α : Type}{Z:Tr.Rec α}{w:World}{K:List (List Value)}{L:List α}(h:Tr.AllC Z w K L){i:Nat}(hi:i<L.length):Tr.AllC Z w (K.take i++K.drop (i+1)) (L.take i++L.drop (i+1)):=by
 have z:=h.1;refine⟨by simp[z],λj h1 h2=>?_⟩;by_cases q:j<i
 ·rw[List.getElem_append_left (by simp;omega),List.getElem_append_left (by simp;omega),List.getElem_take,List.getElem_take];exact h.2 j (by omega) (by omega)
 ·simp only[cF,bL,List.length_drop] at h1 h2;rw[List.getElem_append_right (by simp;omega),List.getElem_append_right (by simp;omega),List.getElem_drop,List.getElem_drop];simp only[bL,z];exact h.2 _ (by omega) (by omega)
theorem Zgm{Z:Nat->Prop}{s:Nat}{W:WD}{w w4 w6:World}{ka:Option Addr}{kn kc g cap i:Nat}{vn:Value}{Kn Km:List (List Value)}(h:ScAt Z s W w ka kn kc vn (F (some ⟨g,0,none⟩) W.m.length cap) Kn Km)
  (h4:Below w.heap.size w w4) (h6:w4.grownBy w6 (some g)) (hi:i<W.m.length)
  (ho:w6.ownsRow 0 106 12 (F (some ⟨g,0,none⟩) (W.m.length - 1) cap) (W.m.length - 1) (Km.take i++Km.drop (i+1)).flatten) :
  Sn Z s (W.lost i) w (w6.setCell ⟨s,2,none⟩ (F (some ⟨g,0,none⟩) (W.m.length - 1) cap)):=by
 have z:=h.box;have ak:=aA z;have Q:Gr w w6 (λq=>q=g):=(Gr.of h4).grown h6 (λq e=>.inl (by injection e with e;exact e.symm));have b6:=Q.heap z (λe=>Xd h.on.rm z (by decide) g rfl e.symm);have gx:Gr w6 (w6.setCell ⟨s,2,none⟩ (F (some ⟨g,0,none⟩) (W.m.length - 1) cap)) (λq=>q=s):=(Gr.refl w6 (λq=>q=s)).one s 2 (.inl rfl) _;have bx:=Tr.set_cells b6 2 (F (some ⟨g,0,none⟩) (W.m.length - 1) cap);have e2:(W.lost i).m.length=W.m.length - 1:=by simp[WD.lost];omega
 refine⟨⟨ka,kn,kc,vn,_,Kn,Km.take i++Km.drop (i+1),bx,λq e=>⟨aE (h.zs q e).1 (aS Q.size gx.size),(h.zs q e).2⟩,?_,?_,λV gV=>?_,h.on.sk⟩,?_,?_⟩
 ·exact gx.own (Q.own h.on.rn (λq hq e=>Tr.own_apart h.on.rm h.on.rn (by decide) q (by rw[e];rfl) hq)) (λq hq e=>Xd h.on.rn z (by decide) q hq e)
 ·rw[e2];exact gx.own ho (λq hq e=>Xd ho b6 (by decide) q hq e)
 ·obtain⟨d1,d2,d3⟩:=h.on.dat V (((Q.mono (λq _ e=>.inr (.inr (by have e:q=g:=e;rw[e];rfl)))).trans (gx.mono (λq _ e=>.inl (.inr e)))).trans gV);exact⟨d1,d2,Ch d3 hi⟩
 ·exact (Q.mono (λq _ e=>.inr ⟨_,Zb z 2 _ rfl,by have e:q=g:=e;rw[e];rfl⟩)).trans (gx.mono (λq _ e=>.inl e))
 ·rintro q ⟨v,h1,h2⟩;rw[Zb bx 2 _ rfl] at h1;injection h1 with h1;subst h1;exact .inl ⟨_,Zb z 2 _ rfl,h2⟩
theorem Cz(Z:Nat->Prop)(s:Nat)(W:WD)(xk xn xt:Int)(xi:Nat)(xw xN th:Int)(ai ao:Option Addr)(ni ci no co:Nat)(w:World)(hS:Sc Z s W w)(hl:xi<W.m.length)(hm:W.m.length<=20) :
  Calls aB 239 #[dA (some ⟨s,0,none⟩),.agg #[E J xk,E J xn,E J xt,E J xi,E J xw,E J xN,E J th,F ai ni ci,F ao no co]] w λe w'=>e = cY (E J 0)/\Sn Z s (W.lost xi) w w':=by
 obtain⟨ka,kn,kc,vn,vm,Kn,Km,hA⟩:=hS;have z:=hA.on;obtain⟨na,nc,ma,mc,rfl,rfl,_,_,_,sm⟩:=z.read;have hb:=hA.box
 obtain⟨g,rfl⟩:∃ g,ma=some ⟨g,0,none⟩:=by
  rcases z.rm.2 with ⟨_,e⟩|⟨g,cap,ay,e,_⟩
  ·omega
  ·injection e with e;exact⟨g,e⟩
 obtain⟨X,hX⟩:=ZG (w.alloc (cW #[E J xk,E J xn,E J xt,E J xi,E J xw,E J xN,E J th,F ai ni ci,F ao no co] 103));have Q:Below w.heap.size w X:=by rw[hX];exact Zh _ _
 have af:X.heap[w.heap.size]? = some (cW [E J xk,E J xn,E J xt,E J xi,E J xw,E J xN,E J th,F ai ni ci,F ao no co].toArray 103 (0,0)):=by rw[hX];exact aR _ _
 have ad:=ZE Q hb;have an:=z.now.2.2.1;have wK:=z.now.2.2.wid;have aq:=Tr.flat_one z.now.2.2;have C1:=Zd (Md 0 g W.m.length mc xi (xi+1) Km X.drew wK aq hl rfl an (z.later (Zf Q (Zi X))).rm);have ak:=Zd (λw6=>Zgm (w4:=X.drew) (w6:=w6) (i:=xi) hA (Zf Q (Zi X)));have HB:=Zd ad;have HW:=Zd (z.later Q);have aw:IntKind.i64.wrap ((xi:Int)+1)=((xi+1:Nat):Int):=by rw[IntKind.wrap_i64] <;> omega
 have x2:=Zb ad 2 _ rfl;have xl:=aA ad;have m3:=Zb af 3 _ rfl;have ml:=aA af;clear Q af hb z ad hA an wK aq;go_enter func239,ntmps239
 go_upto_region 1 with fail
 rw[<-hX];clear hX;(try go_wp2_with fail)
 go_region_law (first
  | (refine Zy (by rfl) 273 #[F (some ⟨g,0,none⟩) W.m.length mc,E J xi,E J ((xi+1:Nat):Int)] (by first|kernel_rfl|(simp only[<-aw];kernel_rfl)) C1 ?_;rintro e w4 ⟨rfl,ap,ag⟩;refine⟨_,rfl,?_⟩;have b4:=(ag.block s xl (λe=>Xd HW.rm HB (by decide) g rfl (by injection e with e;exact e.symm))).trans HB;have n2:=Zb b4 2 _ rfl;have nf:=Zg b4 2;have nl:=aA b4;have au:=Zd (ak w4 ag hl ap);clear ap ag b4))
 all_goals
  clear ak HW HB C1;go_wp2;go_ret;exact⟨rfl,Za au⟩
def Zkj(Z:Nat->Prop)(s:Nat)(hv:Value)(x:Int)(W:WD)(z:World)(n:Nat)(Q caps:Array Value):Prop:=
 (∀ args w,(callFunc n args).run aB w = .ok (.enter n args) w) /\
 ∀ V,Below z.heap.size z V->Calls aB n (Q++#[hv]++caps) V λe V'=>e = cY (E J x)/\(x=0->Sc Z s W V')/\Gr V V' (λq=>¬Z q)
theorem Zca(s n:Nat)(z caps:Array Value)(w:World):Calls aB 234 #[dA (some ⟨s,0,none⟩),.func (.func n) z caps] w λe w'=>e = cY (.func (.func 265) #[] #[dA (some ⟨w.heap.size,0,none⟩),dA (some ⟨w.heap.size+1,0,none⟩)])/\w'=(w.alloc (cW #[dA (some ⟨s,0,none⟩)] 204)).alloc (cW #[.func (.func n) z caps] 292):=by
 go_enter func234,ntmps234;go_wp2;go_ret;exact⟨rfl,rfl⟩
theorem Zdp(s n:Nat)(z caps:Array Value)(w:World):Calls aB 237 #[dA (some ⟨s,0,none⟩),.func (.func n) z caps] w λe w'=>e = cY (.func (.func 270) #[] #[dA (some ⟨w.heap.size,0,none⟩),dA (some ⟨w.heap.size+1,0,none⟩)])/\w'=(w.alloc (cW #[dA (some ⟨s,0,none⟩)] 204)).alloc (cW #[.func (.func n) z caps] 292):=by
 go_enter func237,ntmps237;go_wp2;go_ret;exact⟨rfl,rfl⟩
theorem M5(s n:Nat)(z caps:Array Value)(w:World):Calls aB 240 #[dA (some ⟨s,0,none⟩),.func (.func n) z caps] w λe w'=>e = cY (.func (.func 274) #[] #[dA (some ⟨w.heap.size,0,none⟩),dA (some ⟨w.heap.size+1,0,none⟩)])/\w'=(w.alloc (cW #[dA (some ⟨s,0,none⟩)] 204)).alloc (cW #[.func (.func n) z caps] 292):=by
 go_enter func240,ntmps240;go_wp2;go_ret;exact⟨rfl,rfl⟩
theorem Ls(s n:Nat)(z caps:Array Value)(w:World):Calls aB 242 #[dA (some ⟨s,0,none⟩),.func (.func n) z caps] w λe w'=>e = cY (.func (.func 276) #[] #[dA (some ⟨w.heap.size,0,none⟩),dA (some ⟨w.heap.size+1,0,none⟩)])/\w'=(w.alloc (cW #[dA (some ⟨s,0,none⟩)] 204)).alloc (cW #[.func (.func n) z caps] 292):=by
 go_enter func242,ntmps242;go_wp2;go_ret;exact⟨rfl,rfl⟩
theorem Cg(Z:Nat->Prop)(s:Nat)(W:WD)(xk xn xt xi xw xN th:Int)(ai ao:Option Addr)(ni ci no co:Nat)(b1 b2 n:Nat)(bd caps:Array Value)(x:Int)(W':WD)(o:Bool)(w:World)(h1:w.heap[b1]? = some (cW [dA (some ⟨s,0,none⟩)].toArray 204 (0,0)))(h2:w.heap[b2]? = some (cW [.func (.func n) bd caps].toArray 292 (0,0)))(hS:Sc Z s W w)(ho:Ru xn W.n.length=o)(hd:o=true->Zkj Z s (.agg #[E J xk,E J xn,E J xt,E J xi,E J xw,E J xN,E J th,F ai ni ci,F ao no co]) x W' w n bd caps)(y:Int)(hy:(if o=true then x else 5)=y) :
  Calls aB 265 #[.agg #[E J xk,E J xn,E J xt,E J xi,E J xw,E J xN,E J th,F ai ni ci,F ao no co],dA (some ⟨b1,0,none⟩),dA (some ⟨b2,0,none⟩)] w λe w'=>e = cY (E J y)/\(y=0->Sc Z s W' w')/\Gr w w' (λq=>¬Z q):=by
 obtain⟨X,hX⟩:=ZG (w.alloc (cW #[E J xk,E J xn,E J xt,E J xi,E J xw,E J xN,E J th,F ai ni ci,F ao no co] 103));have Q:Below w.heap.size w X:=by rw[hX];exact Zh _ _
 have ad:X.heap[w.heap.size]? = some (cW [E J xk,E J xn,E J xt,E J xi,E J xw,E J xN,E J th,F ai ni ci,F ao no co].toArray 103 (0,0)):=by rw[hX];exact aR _ _
 have k1:=ZE Q h1;have k2:=ZE Q h2;obtain⟨ln,ah⟩:∃ n,W.n.length=n:=⟨_,rfl⟩
 obtain⟨a,c,hc⟩:∃ a c,X.cell? ⟨s,1,none⟩=some (F a ln c):=by
  obtain⟨ka,kn,kc,vn,vm,Kn,Km,hA⟩:=hS.later Q;obtain⟨na,nc,ma,mc,rfl,rfl,_⟩:=hA.on.read;exact⟨_,_,by rw[<-ah];exact Zb hA.box 1 _ rfl⟩
 rw[ah] at ho;have br:s<X.heap.size:=aE hS.lt Q.size;have C1:=Zd (Uw xn ln o X.drew ho);have ab:=Zd Q;have z:=Zd ad;have ay:=Zd k2;have HD:=Zd hd;obtain⟨c1,l1⟩:X.cell? ⟨b1,0,none⟩=some (dA (some ⟨s,0,none⟩))/\b1<X.heap.size:=⟨Zb k1 0 _ rfl,aA k1⟩;have m1:=Zb ad 1 _ rfl;have ml:=aA ad;clear h1 h2 hS ho hd Q ad k1 k2 ah;go_enter func265,ntmps265
 go_upto_region 1 with fail
 rw[<-hX];clear hX
 go_region_law (first
  | (refine Zy (by rfl) 175 #[E J xn,E J ln] (by kernel_rfl) C1 ?_;rintro e w4 ⟨rfl,rfl⟩;refine⟨_,rfl,?_⟩))
 all_goals
  cases o
  ·obtain rfl:(5:Int)=y:=hy;clear HD C1;go_wp2;go_ret
   first|exact⟨rfl,λe=>absurd e (by decide),Gr.of (Zf ab (Zi X))⟩|exact⟨rfl,Gr.of (Zf ab (Zi X))⟩
  ·obtain rfl:x=y:=hy;obtain⟨eg,ar⟩:=HD rfl;have C2:=Zd (ar X.drew (Zf ab (Zi X)));have k2:=Za ay;have d0:=Zb k2 0 _ rfl;have dl:=aA k2;have g0:=Zb z 0 _ rfl;have g1:=Zb z 1 _ rfl;have g2:=Zb z 2 _ rfl;have g3:=Zb z 3 _ rfl;have g4:=Zb z 4 _ rfl;have g5:=Zb z 5 _ rfl;have g6:=Zb z 6 _ rfl;have g7:=Zb z 7 _ rfl;have g8:=Zb z 8 _ rfl;clear HD C1 ar k2 m1;have m1:=Zb z 1 _ rfl;go_wp2_with fail;refine C2.mono ?_;rintro e w5 ⟨rfl,aq,av⟩;have az:=Zd aq;have ax:Hid (Gr w w5 (λq=>¬Z q)):=(Gr.of (Zf ab (Zi X))).trans av;clear aq av C2;go_wp2;go_ret;exact⟨rfl,Za az,Za ax⟩
theorem Jc(Z:Nat->Prop)(s:Nat)(W:WD)(xk xn xt xi xw xN th:Int)(ai ao:Option Addr)(ni ci no co:Nat)(b1 b2 n:Nat)(bd caps:Array Value)(x:Int)(W':WD)(o:Bool)(w:World)(h1:w.heap[b1]? = some (cW [dA (some ⟨s,0,none⟩)].toArray 204 (0,0)))(h2:w.heap[b2]? = some (cW [.func (.func n) bd caps].toArray 292 (0,0)))(hS:Sc Z s W w)(ho:Ru xi W.m.length=o)(hd:o=true->Zkj Z s (.agg #[E J xk,E J xn,E J xt,E J xi,E J xw,E J xN,E J th,F ai ni ci,F ao no co]) x W' w n bd caps)(y:Int)(hy:(if o=true then x else 5)=y) :
  Calls aB 270 #[.agg #[E J xk,E J xn,E J xt,E J xi,E J xw,E J xN,E J th,F ai ni ci,F ao no co],dA (some ⟨b1,0,none⟩),dA (some ⟨b2,0,none⟩)] w λe w'=>e = cY (E J y)/\(y=0->Sc Z s W' w')/\Gr w w' (λq=>¬Z q):=by
 obtain⟨X,hX⟩:=ZG (w.alloc (cW #[E J xk,E J xn,E J xt,E J xi,E J xw,E J xN,E J th,F ai ni ci,F ao no co] 103));have Q:Below w.heap.size w X:=by rw[hX];exact Zh _ _
 have ad:X.heap[w.heap.size]? = some (cW [E J xk,E J xn,E J xt,E J xi,E J xw,E J xN,E J th,F ai ni ci,F ao no co].toArray 103 (0,0)):=by rw[hX];exact aR _ _
 have k1:=ZE Q h1;have k2:=ZE Q h2;obtain⟨ln,ah⟩:∃ n,W.m.length=n:=⟨_,rfl⟩
 obtain⟨a,c,hc⟩:∃ a c,X.cell? ⟨s,2,none⟩=some (F a ln c):=by
  obtain⟨ka,kn,kc,vn,vm,Kn,Km,hA⟩:=hS.later Q;obtain⟨na,nc,ma,mc,rfl,rfl,_⟩:=hA.on.read;exact⟨_,_,by rw[<-ah];exact Zb hA.box 2 _ rfl⟩
 rw[ah] at ho;have br:s<X.heap.size:=aE hS.lt Q.size;have C1:=Zd (Uw xi ln o X.drew ho);have ab:=Zd Q;have z:=Zd ad;have ay:=Zd k2;have HD:=Zd hd;obtain⟨c1,l1⟩:X.cell? ⟨b1,0,none⟩=some (dA (some ⟨s,0,none⟩))/\b1<X.heap.size:=⟨Zb k1 0 _ rfl,aA k1⟩;have m3:=Zb ad 3 _ rfl;have ml:=aA ad;clear h1 h2 hS ho hd Q ad k1 k2 ah;go_enter func270,ntmps270
 go_upto_region 1 with fail
 rw[<-hX];clear hX
 go_region_law (first
  | (refine Zy (by rfl) 175 #[E J xi,E J ln] (by kernel_rfl) C1 ?_;rintro e w4 ⟨rfl,rfl⟩;refine⟨_,rfl,?_⟩))
 all_goals
  cases o
  ·obtain rfl:(5:Int)=y:=hy;clear HD C1;go_wp2;go_ret
   first|exact⟨rfl,λe=>absurd e (by decide),Gr.of (Zf ab (Zi X))⟩|exact⟨rfl,Gr.of (Zf ab (Zi X))⟩
  ·obtain rfl:x=y:=hy;obtain⟨eg,ar⟩:=HD rfl;have C2:=Zd (ar X.drew (Zf ab (Zi X)));have k2:=Za ay;have d0:=Zb k2 0 _ rfl;have dl:=aA k2;have g0:=Zb z 0 _ rfl;have g1:=Zb z 1 _ rfl;have g2:=Zb z 2 _ rfl;have g3:=Zb z 3 _ rfl;have g4:=Zb z 4 _ rfl;have g5:=Zb z 5 _ rfl;have g6:=Zb z 6 _ rfl;have g7:=Zb z 7 _ rfl;have g8:=Zb z 8 _ rfl;clear HD C1 ar k2 m3;have m3:=Zb z 3 _ rfl;go_wp2_with fail;refine C2.mono ?_;rintro e w5 ⟨rfl,aq,av⟩;have az:=Zd aq;have ax:Hid (Gr w w5 (λq=>¬Z q)):=(Gr.of (Zf ab (Zi X))).trans av;clear aq av C2;go_wp2;go_ret;exact⟨rfl,Za az,Za ax⟩
theorem Lp(Z:Nat->Prop)(s:Nat)(W:WD)(xk xn xt xi xw xN th:Int)(ai ao:Option Addr)(ni ci no co:Nat)(b1 b2 n:Nat)(bd caps:Array Value)(x:Int)(W':WD)(w:World)(h1:w.heap[b1]? = some (cW [dA (some ⟨s,0,none⟩)].toArray 204 (0,0)))(h2:w.heap[b2]? = some (cW [.func (.func n) bd caps].toArray 292 (0,0)))(hS:Sc Z s W w)(hd:W.m.length≠20->Zkj Z s (.agg #[E J xk,E J xn,E J xt,E J xi,E J xw,E J xN,E J th,F ai ni ci,F ao no co]) x W' w n bd caps)(y:Int)(hy:(if W.m.length=20 then 12 else x)=y) :
  Calls aB 274 #[.agg #[E J xk,E J xn,E J xt,E J xi,E J xw,E J xN,E J th,F ai ni ci,F ao no co],dA (some ⟨b1,0,none⟩),dA (some ⟨b2,0,none⟩)] w λe w'=>e = cY (E J y)/\(y=0->Sc Z s W' w')/\Gr w w' (λq=>¬Z q):=by
 obtain⟨X,Q⟩:=ZG (w.alloc (cW #[E J xk,E J xn,E J xt,E J xi,E J xw,E J xN,E J th,F ai ni ci,F ao no co] 103));have aa:Below w.heap.size w X:=by rw[Q];exact Zh _ _
 have z:X.heap[w.heap.size]? = some (cW [E J xk,E J xn,E J xt,E J xi,E J xw,E J xN,E J th,F ai ni ci,F ao no co].toArray 103 (0,0)):=by rw[Q];exact aR _ _
 have k1:=ZE aa h1;have k2:=ZE aa h2;obtain⟨ln,ah⟩:∃ n,W.m.length=n:=⟨_,rfl⟩
 obtain⟨a,c,hc⟩:∃ a c,X.cell? ⟨s,2,none⟩=some (F a ln c):=by
  obtain⟨ka,kn,kc,vn,vm,Kn,Km,hA⟩:=hS.later aa;obtain⟨na,nc,ma,mc,rfl,rfl,_⟩:=hA.on.read;exact⟨_,_,by rw[<-ah];exact Zb hA.box 2 _ rfl⟩
 rw[ah] at hd hy;have bq:s<X.heap.size:=aE hS.lt aa.size;have ac:=Zd aa;have HD:=Zd hd;obtain⟨c1,l1⟩:X.cell? ⟨b1,0,none⟩=some (dA (some ⟨s,0,none⟩))/\b1<X.heap.size:=⟨Zb k1 0 _ rfl,aA k1⟩;have d0:=Zb k2 0 _ rfl;have dl:=aA k2;have g0:=Zb z 0 _ rfl;have g1:=Zb z 1 _ rfl;have g2:=Zb z 2 _ rfl;have g3:=Zb z 3 _ rfl;have g4:=Zb z 4 _ rfl;have g5:=Zb z 5 _ rfl;have g6:=Zb z 6 _ rfl;have g7:=Zb z 7 _ rfl;have g8:=Zb z 8 _ rfl;have ml:=aA z;clear h1 h2 hS hd aa z k1 k2 ah;by_cases hl:ln=20
 ·subst hl;obtain rfl:(12:Int)=y:=by rw[if_pos rfl] at hy;exact hy
  go_enter func274,ntmps274
  go_upto_region 1 with fail
  rw[<-Q];clear Q;go_wp2;go_ret
  first|exact⟨rfl,λe=>absurd e (by decide),Gr.of ac⟩|exact⟨rfl,Gr.of ac⟩
 ·rw[if_neg hl] at hy;subst hy;have gl:((ln:Int) == 20)=false:=by simp;omega
  obtain⟨eg,au⟩:=HD hl;have C2:=Zd (au X ac);clear HD au;go_enter func274,ntmps274
  go_upto_region 1 with fail
  rw[<-Q];clear Q;go_wp2_with fail;refine C2.mono ?_;rintro e w5 ⟨rfl,ar,av⟩;have ax:=Zd ar;have aw:Hid (Gr w w5 (λq=>¬Z q)):=(Gr.of ac).trans av;clear ar av C2;go_wp2;go_ret;exact⟨rfl,Za ax,Za aw⟩
theorem KeptOn.on{Z z:Nat->Prop}{w w':World}{d bm:Nat}{D:Dsk}(h:KeptOn Z w d bm D)(g:Gr w w' z)(hz:∀ q,z q->Z q)(Q:¬z d):KeptOn Z w' d bm D:=by
 obtain⟨q1,q2,q3,q4,q5,q6,q7,q8,q9,ac,ad,ae,box,dat,s⟩:=h;exact⟨q1,q2,q3,q4,q5,q6,q7,q8,q9,ac,ad,ae,g.heap box Q,λW g2=>dat W ((g.mono (λq _ e=>.inr (.inr (hz q e)))).trans g2),s⟩
theorem Zgw{D:Dsk}{wk no:Int}{lk:List (Int×Int)}(h:(mnR D wk no lk).1≠0):(mnR D wk no lk).2.1=Yq:=by
 unfold mnR at h ⊢;split
 ·rfl
 rename_i h1;rw[if_neg h1] at h;split
 ·rfl
 rename_i h2;rw[if_neg h2] at h;exact absurd rfl h
def Zkl(z:Nat)(b:Zl)(B:Nat)(V:World):Prop:=
 ∃ a n c,V.heap[z]? = some (cW [E J b.1,E J b.2.1,E J b.2.2.1,E J b.2.2.2.1,F a n c].toArray 39 (0,0))/\(∀ W,Gr V W (λq=>q<B)->TxsAt W a n b.2.2.2.2)/\SlOk a n c
theorem Zha(w:World)(b1 b2 b3 z:Nat)(wk no:Int)(la:Option Addr)(ln lc:Nat)(l:List (Int×Int))(K:List ByteArray)(N:List Int)(T:List Zl)(P:List TxD)(tip:Int)(β : Int->List Zj)(x:Int)(b:Zl)(D':Dsk)(hE:Env w)(hl:OpsAt w la ln l)(sl:SlOk la ln lc)(hn:ln<=8796093022208)(ht:(Lit.int .i64 tip).wf=true)(h1:0<=Y8 N T tip)(h2:Y8 N T tip<=1000)
  (c1:w.cell? ⟨b1,0,none⟩=some (.int .i64 wk)) (c2:w.cell? ⟨b2,0,none⟩=some (.int .i64 no)) (c3:w.cell? ⟨b3,0,none⟩=some (F la ln lc)) (aa:w.heap[z]? = some (cW [.int .i64 0,.int .i64 0,.int .i64 0,.int .i64 0,F none 0 0].toArray 39 (0,0))) (hx:mnR ⟨K,N,T,P,tip,β⟩ wk no l=(x,b,D')) :
  DoC 112 #[.pointer (some ⟨b1,0,none⟩),.pointer (some ⟨b2,0,none⟩),.pointer (some ⟨b3,0,none⟩),.pointer (some ⟨z,0,none⟩)] w (λq=>q=z) ⟨K,N,T,P,tip,β⟩ x D' (Zkl z b) where
 enters:=enters_of (fn:=Tryz.f112) (by kernel_rfl) (by kernel_rfl) rfl
 old q e:=by have e:q=z:=e;exact e ▸ aA aa
 on B V V':=by
  rintro ⟨a,n,c,h1,h2,h3⟩ g;have lb:=aA aa;refine⟨a,n,c,g.heap h1 (λe=>by have:=e.1;omega),λW g2=>h2 W ((g.mono (λq _ e=>e.2)).trans g2),h3⟩
 call B V d bm m hB hV hD hd hbm hm:=by
  obtain⟨k1,bz,bx,n1,cb,ca,t1,ct,cq,p1,ce,cd,f,hq⟩:=hD;have lb:=aA aa;have C1:=Zd (Zet hq w hV hE (by omega) (by omega) (by omega) ht h1 h2 wk no la ln lc l (hl.later hV) sl hn x b D' hx);have an:=(hV.block _ lb).trans aa;have q1:=Ze hV c1;have q2:=Ze hV c2;have q3:=Ze hV c3;have bh:=aF _ _ q1;have bi:=aF _ _ q2;have bj:=aF _ _ q3;have ag:=Zd an;have bk:=Zd hV.size;have be:=Zd (aA hq.box);clear hq hE hl sl hn ht h1 h2 hx an aa c1 c2 c3;show Calls aB 112 #[.pointer (some ⟨d,0,none⟩),.pointer (some ⟨b1,0,none⟩),.pointer (some ⟨b2,0,none⟩),.pointer (some ⟨b3,0,none⟩),.pointer (some ⟨z,0,none⟩)] V _;go_enter func112,ntmps112;go_wp2_with fail;refine C1.mono ?_;rintro e w1 ⟨a5,n5,c5,rfl,hF,s5,g1,hk⟩;dsimp only[Ji];have Q:=g1.heap ag (by rintro (e|e) <;> omega);have r0:=Zb Q 0 _ rfl;have r1:=Zb Q 1 _ rfl;have r2:=Zb Q 2 _ rfl;have r3:=Zb Q 3 _ rfl;have r4:=Zb Q 4 _ rfl;have f0:=Zg Q 0;have f1:=Zg Q 1;have f2:=Zg Q 2;have f3:=Zg Q 3;have f4:=Zg Q 4;have rl:=aA Q
  have bd:Hid (∀ W,W=(((((w1.setCell ⟨z,0,none⟩ (.int .i64 b.1)).setCell ⟨z,1,none⟩ (.int .i64 b.2.1)).setCell ⟨z,2,none⟩ (.int .i64 b.2.2.1)).setCell ⟨z,3,none⟩ (.int .i64 b.2.2.2.1)).setCell ⟨z,4,none⟩ (F a5 n5 c5))->Gr V W (λq=>q=d\/q=bm\/q=z)/\(x=0->KeptOn (λq=>q<B) W d bm D')/\Zkl z b B W):=λW hW=>by
   have g2:Gr w1 W (λq=>q=z):=(by rw[hW];exact (Gr.refl w1 (λq=>q=z)).five z (.inl rfl) _ _ _ _ _);have bu:V.heap.size≥B:=(by have:=Za be;omega);refine⟨(g1.mono (λq _ e=>?_)).trans (g2.mono (λq _ e=>.inr (.inr e))),λe=>(hk e).on g2 (λq e=>?_) (λe=>?_),a5,n5,c5,?_,λW2 g3=>hF W2 ((g2.mono (λq _ e=>?_)).trans (g3.mono (λq _ e=>?_))),s5⟩
   ·rcases e with e|e
    ·exact .inl e
    ·exact .inr (.inl e)
   ·have e:q=z:=e;show q<B;omega
   ·have e:d=z:=e;omega
   ·rw[hW];exact Tr.set_cells (Tr.set_cells (Tr.set_cells (Tr.set_cells (Tr.set_cells Q 0 _) 1 _) 2 _) 3 _) 4 _
   ·have e:q=z:=e;show q<V.heap.size;omega
   ·have e:q<B:=e;show q<V.heap.size;omega
  clear hF s5 g1 hk Q C1 ag q1 q2 q3 bh bi bj;go_wp2;go_ret;exact⟨rfl,bd _ rfl⟩
def nmR(K:List ByteArray)(N:List Int)(T:List Zl)(P:List TxD)(tip wk no:Int)(l:List (Int×Int)):Int×Zl×Dsk:=
 if opE K N T P tip≠0 then (opE K N T P tip,Yq,Dsk.none) else
 if (mnR ⟨K,N,T,P,tip,(Ye K N T noB).2⟩ wk no l).1≠0 then ((mnR ⟨K,N,T,P,tip,(Ye K N T noB).2⟩ wk no l).1,Yq,Dsk.none) else
 (0,(mnR ⟨K,N,T,P,tip,(Ye K N T noB).2⟩ wk no l).2.1,(mnR ⟨K,N,T,P,tip,(Ye K N T noB).2⟩ wk no l).2.2)
def NmkR(w w':World)(x:Int)(b:Zl)(D:Dsk)(e:Ending):Prop:=
 ∃ ka kn kc na nn nc ba bn bc pa pn pc a n c,e = cY (cZ #[.agg #[F ka kn kc],.agg #[F na nn nc,F ba bn bc,F pa pn pc,E J D.tip],Ji b a n c,E J x]) /\
  Fresh w.heap.size w' (λw2=>Qw w2 ka kn D.k na nn D.n ba bn D.t pa pn D.p/\TxsAt w2 a n b.2.2.2.2)/\SlOk ka kn kc/\SlOk na nn nc/\SlOk ba bn bc/\SlOk pa pn pc/\SlOk a n c/\Below w.heap.size w w'
