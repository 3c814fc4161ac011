import Derived.Test.YtmomfkikogbdeaaGreatDoorH
import Derived.Test.YtmomfkikogbdeaaGreatDoorG14
import Derived.Test.YtmomfkikogbdeaaGreatDoorG15
open Go renaming TypeId->cF,heap_alloc_new->aG,bodyPost_ret->bB,lt_of_block->aA
open Go.Ending renaming returned->dF
open Go.IntKind renaming i64->J
open Go.Obj renaming cells->dE
open Go.Value renaming int->E,slice->F,tuple->dG
open Go.World renaming cell?->bH
set_option maxHeartbeats 12800000
set_option maxRecDepth 10000
namespace Go.Proofs.YtmomfkikogbdeaaGreatDoor
open Go.RowKit
def Yb(b:Zk):List ByteArray:=b.2.2.2.2.map Zy++[Yw b]
def Xl(L:List ByteArray)(b:Zk):List ByteArray×Int×List Int×Int:=
  if Yq b≠0 then ([],0,[],Yq b)
  else if (Bk.allR L (Yb b)).2.2≠0 then ([],0,[],(Bk.allR L (Yb b)).2.2)
  else ((Bk.allR L (Yb b)).1,(Bk.allR L (Yb b)).2.1.getD b.2.2.2.2.length 0,(Bk.allR L (Yb b)).2.1.take b.2.2.2.2.length,0)
def NmR(w w':World)(M:List ByteArray)(nm:Int)(N:List Int)(x:Int)(e:Ending):Prop:=
  ∃ a' n' c' a2 n2 c2,e = dF (dG #[.agg #[F a' n' c'],E J nm,F a2 n2 c2,E J x])/\Bk.TextsAt w' a' n' M/\Bk.SlOk a' n' c'/\Bk.IntsAt w' a2 n2 N/\n2<=c2/\ZD w w'
theorem NmR.drew{w w':World}{M}{nm:Int}{N}{x:Int}{e}(h:NmR w w' M nm N x e):NmR w w'.drew M nm N x e:=by
  obtain⟨a,n,c,a2,n2,c2,h1,h2,h3,h4,h5,h6⟩:=h;exact⟨a,n,c,a2,n2,c2,h1,h2,h3,h4,h5,Zf h6 (Zi _)⟩
theorem Xu{fn:Func}{p u v z:Tmp}{ty:cF}(h:fn.results=#[.cell p ty,.tmp u,.tmp v,.tmp z])(tmps:Array Value)(P:Program)(w) :
    (results fn tmps).run P w =
      ((asAddr (tmps.getD p undef)).run P w).andThen λa w₁=>((loadVar ty a).run P w₁).andThen λx w₂=>.ok (dG #[x,tmps.getD u undef,tmps.getD v undef,tmps.getD z undef]) w₂:=by
  simp only[results,h];simp[Sem.run_bind,Result.andThen]
theorem Yp(w:World)(a)(t:cF):(w.alloc (dE #[a] t)).heap[w.heap.size]? = some (dE [a].toArray t (0,0)):=aG w _
theorem Gw{w:World}{base g cap m:Nat}{xs:List Value}{T:List TxD}{t:ByteArray}(ho:w.ownsRow base 9 1 (F (some ⟨g,0,none⟩) (m+1) cap) (m+1) (xs++[.string t]))(hz:T.length=m)(hl:xs.length=m)(hx:∀ j,j<m->xs[j]? = some (txV T j)):Bk.TextsAt w (some ⟨g,0,none⟩) (m+1) (T.map Zy++[t]):=by
  refine⟨by simp[hz],λ_=>⟨g,0,rfl,λi hi=>?_⟩⟩;have ad:i<m+1:=by simpa[hz] using hi
  rw[Nat.zero_add,ho.cellAt i (by omega)];by_cases h:i<m
  · rw[List.getElem?_append_left (by omega),hx i h]
    rw[List.getElem_append_left (by simp;omega)];simp[txV,(by omega:i<T.length)]
  · have e:i=m:=by omega
    subst e;rw[List.getElem?_append_right (by omega),List.getElem_append_right (by simp;omega)];simp[hl,hz]
theorem Zgb(ka kn kc)(p h k n:Int)(a m c T)(x:Int)(w)(hT:TxsAt w a m T)(hx:Yq (p,h,k,n,T)=x)(h0:x≠0) :
    Calls Tryz.prog 27 #[.agg #[F ka kn kc],.agg #[E J p,E J h,E J k,E J n,F a m c]] w λe w'=>NmR w w' [] 0 [] x e:=by
  obtain⟨X,hX⟩:=ZG (((w.alloc (dE #[F ka kn kc] 24)).alloc (dE #[E J p,E J h,E J k,E J n,F a m c] 39)).alloc (dE #[F none 0 0] 24));have ac:ZD w X:=by rw[hX];exact Zf (Zf (Zh _ _) (Zh _ _)) (Zh _ _)
  have ad:X.heap[w.heap.size+2]? = some (dE [F none 0 0].toArray 24 (0,0)):=by
    rw[hX];have:=Yp ((w.alloc (dE #[F ka kn kc] 24)).alloc (dE #[E J p,E J h,E J k,E J n,F a m c] 39)) (F none 0 0) 24;rw[show ((w.alloc (dE #[F ka kn kc] 24)).alloc (dE #[E J p,E J h,E J k,E J n,F a m c] 39)).heap.size=w.heap.size+2 by simp] at this;exact this
  obtain⟨C1,ag,af⟩:=kh3 (Jd p h k n a m c T x X (hT.later ac) hx h0) ad ac;have gx:(x != 0)=true:=by simp[h0]
  clear hT hx h0 ad ac;go_enter Tryz.func27,Tryz.ntmps27;go_wp2_with fail;rw[<-hX];clear hX;refine C1.mono ?_;rintro e w1 ⟨rfl,ab⟩;have h3:=ZE ab ag;obtain⟨z0,zf,zl⟩:=kf1 h3;have ae:=Zd (Zf af ab);clear ab h3;go_wp2;(try simp only[Exit.inBlock,Exit.then]);refine bB (v:=dG #[.agg #[F none 0 0],E J 0,F none 0 0,E J x]) ?_ rfl ⟨_,_,_,_,_,_,rfl,Bk.TextsAt.nil _ _,Bk.SlOk.nil,Bk.IntsAt.nil _ _,Nat.le_refl _,?_⟩
  · rw[Xu rfl]
    go_simp
  · exact ae.setCell (p:=⟨w.heap.size+2,0,none⟩) (by simp) _
def OutOk(ty:cF)(o:Nat)(W:World):Prop:=∃ a n c,W.heap[o]? = some (dE #[F a n c] ty (0,0))
theorem OutOk.later{ty:cF}{o:Nat}{W V:World}(h:OutOk ty o W)(hb:ZD W V):OutOk ty o V:=by
  obtain⟨a,n,c,h⟩:=h;exact⟨a,n,c,ZE hb h⟩
theorem OutOk.grown{ty:cF}{o B:Nat}{W V:World}(h:OutOk ty o W)(hg:W.grownBy V (some B))(hn:o≠B):OutOk ty o V:=by
  obtain⟨a,n,c,h⟩:=h;exact⟨a,n,c,(hg.block _ (aA h) (λe=>hn (Option.some.inj e))).trans h⟩
theorem OutOk.put{ty:cF}{o:Nat}{W:World}(h:OutOk ty o W)(b:Nat)(e:b=o)(a' n' c'):OutOk ty o (W.setCell ⟨b,0,none⟩ (F a' n' c')):=by
  subst e;obtain⟨a,n,c,h⟩:=h;exact⟨a',n',c',Vk h⟩
theorem OutOk.cell{ty:cF}{o:Nat}{W:World}(h:OutOk ty o W):∃ z,W.cell? ⟨o,0,none⟩=some z:=by
  obtain⟨a,n,c,h⟩:=h;exact⟨F a n c,by simp[bH,h]⟩
theorem OutOk.free{ty:cF}{o:Nat}{W:World}(h:OutOk ty o W):W.frozen? ⟨o,0,none⟩=false:=by
  obtain⟨a,n,c,h⟩:=h;simp[World.frozen?,h]
theorem OutOk.other{ty:cF}{o b j:Nat}{W:World}{v u}(h:OutOk ty o W)(hc:W.cell? ⟨b,j,none⟩=some v)(hv:∀ a n c,v ≠ F a n c):(W.setCell ⟨o,0,none⟩ u).cell? ⟨b,j,none⟩=some v:=by
  have ab:b≠o:=λe=>by
    subst e;obtain⟨a,n,c,h⟩:=h;cases j with
    | zero=>simp[bH,h] at hc;exact hv a n c hc.symm
    | succ i=>simp[bH,h] at hc
  rw[<-hc];exact World.cell?_of_block (a:=⟨b,j,none⟩) (Below.heap_setCell W ⟨o,0,none⟩ u b (λe=>ab e))
theorem Nb{ty:cF}{o:Nat}{W:World}{a n M u}(h:Bk.TextsAt W a n M)(ho:OutOk ty o W):Bk.TextsAt (W.setCell ⟨o,0,none⟩ u) a n M:=by
  refine⟨h.1,λh0=>?_⟩;obtain⟨b,off,e,hc⟩:=h.2 h0;exact⟨b,off,e,λi hi=>ho.other (hc i hi) (λ_ _ _ q=>by cases q)⟩
theorem Sh{ty:cF}{o:Nat}{W:World}{a n N u}(h:Bk.IntsAt W a n N)(ho:OutOk ty o W):Bk.IntsAt (W.setCell ⟨o,0,none⟩ u) a n N:=by
  refine⟨h.1,λh0=>?_⟩;obtain⟨b,off,e,hc⟩:=h.2 h0;exact⟨b,off,e,λi hi=>ho.other (hc i hi) (λ_ _ _ q=>by cases q)⟩
def NmS(ty:cF)(w1:World)(B:Nat)(v u:Value)(W:World):Prop:=Gr w1 W (λq=>q=B+2)/\W.cell? ⟨B,0,none⟩=some v/\W.cell? ⟨B+1,4,none⟩=some u/\OutOk ty (B+2) W
theorem Gr.grow2{w1 W V:World}{S:Nat->Prop}{B:Nat}(h:Gr w1 W S)(hg:W.grownBy V (some B))(hB:w1.heap.size<=B):Gr w1 V S:=h.grown hg (λk e=>.inr (by injection e with e;omega))
theorem Kv(ka kn kc L)(p h k n:Int)(a m c T M)(N:List Int)(x:Int)(w)(hE:Env w)(hL:Bk.TextsAt w ka kn L)(hT:TxsAt w a m T)(hx:Yq (p,h,k,n,T)=0)(hA:Bk.allR L (Yb (p,h,k,n,T))=(M,N,x))(hN:x=0->N.length=m+1)(M')(nm:Int)(N')(hR:(if x=0 then (M,N.getD m 0,N.take m) else (([]:List ByteArray),(0:Int),([]:List Int)))=(M',nm,N')) :
    Calls Tryz.prog 27 #[.agg #[F ka kn kc],.agg #[E J p,E J h,E J k,E J n,F a m c]] w λe w'=>NmR w w' M' nm N' x e:=by
  obtain⟨i0,ii,dq,dr,ds⟩:=info_parts Tryz.info9;obtain⟨f1,f2,f3,_,f5⟩:=Ww hx;have hz:T.length=m:=hT.1;obtain⟨X,hX⟩:=ZG (((w.alloc (dE #[F ka kn kc] 24)).alloc (dE #[E J p,E J h,E J k,E J n,F a m c] 39)).alloc (dE #[F none 0 0] 24));have bf:ZD w X:=by rw[hX];exact Zf (Zf (Zh _ _) (Zh _ _)) (Zh _ _)
  have dd:X.heap[w.heap.size]? = some (dE [F ka kn kc].toArray 24 (0,0)):=by
    rw[hX,Below.heap_alloc _ _ _ (by simp;omega),Below.heap_alloc _ _ _ (by simp)];exact Yp _ _ _
  have de:X.heap[w.heap.size+1]? = some (dE [E J p,E J h,E J k,E J n,F a m c].toArray 39 (0,0)):=by
    rw[hX,Below.heap_alloc _ _ _ (by simp)];have:=Zx (w.alloc (dE #[F ka kn kc] 24)) (E J p) (E J h) (E J k) (E J n) (F a m c) 39;rw[show (w.alloc (dE #[F ka kn kc] 24)).heap.size=w.heap.size+1 by simp] at this;exact this
  have df:X.heap[w.heap.size+2]? = some (dE [F none 0 0].toArray 24 (0,0)):=by
    rw[hX];have:=Yp ((w.alloc (dE #[F ka kn kc] 24)).alloc (dE #[E J p,E J h,E J k,E J n,F a m c] 39)) (F none 0 0) 24;rw[show ((w.alloc (dE #[F ka kn kc] 24)).alloc (dE #[E J p,E J h,E J k,E J n,F a m c] 39)).heap.size=w.heap.size+2 by simp] at this;exact this
  obtain⟨C1,ed,ee,cn,dz,HE⟩:=kh6 (U6 p h k n a m c T X (hE.later bf) (hT.later bf) hx) dd de df bf hE;obtain⟨b,off,rfl,_,dh⟩:=hT.2 (by omega)
  have PT:=Zd (λW (hb:ZD w W)=>(show Calls Tryz.prog 87 #[F (some ⟨b,off,none⟩) m c] W λe w'=>∃ (B:Nat) (xs:List Value),e = dF (F (some ⟨B,0,none⟩) m m)/\w'.ownsRow B 9 1 (F (some ⟨B,0,none⟩) m m) m xs/\xs.length=m/\(∀ j,j<m->xs[j]? = some (txV T j))/\B<w'.heap.size/\W.heap.size<=B/\ZD W w' from
    (Jm b off m c T W (HE.later hb) hz (by omega) f5 (λi hi=>TxAt.kept _ _ _ _ _ hb (dh i hi))).mono λe w' ⟨h1,h2⟩=>by
      obtain⟨xs,ho,hx⟩:=h2.ex;exact⟨W.heap.size,xs,h1,ho,by simpa using ho.1,hx,h2.lt,Nat.le_refl _,h2.bel⟩))
  have ft:m<=4:=by omega
  have HZ:=Zd hz;obtain⟨t,ht⟩:=ZF (Yw (p,h,k,n,T));have cx:Bk.allR L (T.map Zy++[t])=(M,N,x):=by rw[<-ht];exact hA
  rw[ht] at C1;have AL:=Zd (λW al gc (hb:ZD w W) (hl:Bk.TextsAt W al (m+1) (T.map Zy++[t]))=>Bk.all_is ka al kn kc (m+1) gc L (T.map Zy++[t]) M N x W (hL.later hb) hl (by omega) cx);obtain⟨HN,HR⟩:=kh2 hN hR;clear hE hL hT hx hA hN hR dd de df bf dh f1 f2 f3 f5 hz cx ht;go_enter Tryz.func27,Tryz.ntmps27;go_wp2_with fail;rw[<-hX];clear hX;refine C1.mono ?_;rintro e w1 ⟨rfl,ag⟩;have h1:=ZE ag ed;have h2:=ZE ag ee;have h3:=ZE ag cn;have k0:=Zb h1 0 _ rfl;have b4:=Zb h2 4 _ rfl;obtain⟨z0,zf,-⟩:=kf1 h3;have l1:=aA h1;have l2:=aA h2;have l3:=aA h3;have fh:=Zd ag;have fy:X.heap.size<=w1.heap.size:=ag.size;have fv:w.heap.size+3<=X.heap.size:=by have:=aA cn;omega
  have GB:Hid (∀ W,Gr w1 W (λq=>q=w.heap.size+2)->ZD w W):=λW g=>g.below (Zf dz ag) (by omega) (λk e=>by rw[e];omega)
  have KS:Hid (∀ W,Gr w1 W (λq=>q=w.heap.size+2)->OutOk 24 (w.heap.size+2) W->NmS 24 w1 (w.heap.size) (F ka kn kc) (F (some ⟨b,off,none⟩) m c) W):=
    λW g o=>⟨g,Zb (g.heap h1 (by omega)) 0 _ rfl,Zb (g.heap h2 (by omega)) 4 _ rfl,o⟩
  have O1:Hid (OutOk 24 (w.heap.size+2) w1):=⟨_,_,_,h3⟩
  have eg:=Zd (λW (g:Gr w1 W (λq=>q=w.heap.size+2))=>(show Calls Tryz.prog 87 #[F (some ⟨b,off,none⟩) m c] W λe w'=>∃ (B:Nat) (xs:List Value),e = dF (F (some ⟨B,0,none⟩) m m)/\w'.ownsRow B 9 1 (F (some ⟨B,0,none⟩) m m) m xs/\xs.length=m/\(∀ j,j<m->xs[j]? = some (txV T j))/\B<w'.heap.size/\w1.heap.size<=B/\ZD W w' from
    (PT W (GB W g)).mono λe w' ⟨B,xs,q1,q2,q3,q4,q5,q6,q7⟩=>⟨B,xs,q1,q2,q3,q4,q5,Nat.le_trans g.size q6,q7⟩))
  have dy:=Zd (λW al gc (g:Gr w1 W (λq=>q=w.heap.size+2)) hl=>AL W al gc (GB W g) hl);have l0:w.heap.size+2<w1.heap.size:=l3;clear ag h1 h2 h3 C1 PT AL z0 zf;go_wp2_with fail
  go_region_held3 (λW=>Gr w1 W (λq=>q=w.heap.size+2)/\W.cell? ⟨w.heap.size,0,none⟩=some (F ka kn kc)/\W.cell? ⟨w.heap.size+1,4,none⟩=some (F (some ⟨b,off,none⟩) m c)/\OutOk 24 (w.heap.size+2) W)
    (first
    | exact KS _ (Gr.refl _ _).draw O1
    | (go_split_ands;exact KS _ (Gr.new (by assumption) _) (OutOk.later (by assumption) (Zh _ _)))
    | (go_split_ands;exact KS _ (Gr.on (by assumption) aj) (OutOk.later (by assumption) aj))
    | (go_split_ands;exact KS _ (Gr.grow2 (by assumption) ak en) (OutOk.grown (by assumption) ak dj))
    | exact KS _ (cj.one (w.heap.size+1+1) 0 (.inl rfl) _) (OutOk.put af (w.heap.size+1+1) rfl _ _ _))
    (first
    | (refine step_append_lies _ (by rfl) _ _ _ (by rfl) B4 9 i0 _ 1 16 Tryz.underlying22 ii dq dr ds rfl (by omega) (F (some ⟨B4,0,none⟩) m m) m dx (by rfl) (dl.alloc _) ⟨w4.heap.size,0,none⟩ 1 1 [.string t] (by rfl) (by rfl) (World.news_of_block (cs:=#[.string t]) (t:=9) (fr:=(0,0)) (aG w4 _)) (by simp[Value.oneCell']) (by omega) (by unfold maxLen;omega) (by omega) (by simp;omega) (w4.heap.size+1) (by simp) ?_;intro gg cap w5 au ar bv es;have TX:=Zd (Gw au HZ di dm);have ak:=ar;change World.grownBy _ _ (some B4) at ak;(have dj:w.heap.size+2≠B4:=by omega);clear au bv ar)
    | (refine step_append_lies _ (by rfl) _ _ _ (by rfl) B4 9 i0 _ 1 16 Tryz.underlying22 ii dq dr ds rfl (by omega) (F (some ⟨B4,0,none⟩) m m) m dx (by rfl) dl ⟨w1.heap.size,0,none⟩ 1 1 [.string t] (by rfl) (by rfl) (World.news_of_block (cs:=#[.string t]) (t:=9) (fr:=(0,0)) eu) (by simp[Value.oneCell']) (by omega) (by unfold maxLen;omega) (by omega) (by omega) w4.heap.size (by rfl) ?_;intro gg cap w5 au ar bv es;have TX:=Zd (Gw au HZ di dm);have ak:=ar;change World.grownBy _ _ (some B4) at ak;(have dj:w.heap.size+2≠B4:=by omega);clear au bv ar)
    | (go_at_call 87
       refine (eg _ ?_).mono ?_
       · go_split_ands
         assumption
       rintro e w4 ⟨B4,dx,rfl,dl,di,dm,fk,en,aj⟩
       try have eu:=(aj.block w1.heap.size (by simp)).trans (aG w1 (dE #[.string t] 9)))
    | (go_at_call 86
       refine (dy _ _ _ ?_ TX).mono ?_
       · go_split_ands
         assumption
       rintro e w6 ⟨⟨a6,n6,c6,a7,n7,c7,rfl,dc,dw,cy,et,dg⟩,aj⟩;obtain⟨cm,ec,cl,ea,af,cj⟩:=kh6 dc dw cy dg (OutOk.later (by go_split_ands;assumption) aj) (Gr.on (by go_split_ands;assumption) aj);obtain⟨zz,z6⟩:=af.cell;have fg:=af.free;clear dc dw cy dg ak et))
  all_goals
    rename_i hH;obtain⟨bb,-,ep,bd⟩:=hH;have bu:Bk.TextsAt (w6.setCell ⟨w.heap.size+1+1,0,none⟩ (F a6 n6 c6)) a6 n6 M:=Nb cm af;have bs:Bk.IntsAt (w6.setCell ⟨w.heap.size+1+1,0,none⟩ (F a6 n6 c6)) a7 n7 N:=Sh cl af
    have ev:(w6.setCell ⟨w.heap.size+1+1,0,none⟩ (F a6 n6 c6)).cell? ⟨w.heap.size+2,0,none⟩=some (F a6 n6 c6):=by
      obtain⟨q1,q2,q3,q⟩:=Za af;have:=Vk (u:=F a6 n6 c6) q;simp[bH,this]
    have er:=bd.free;obtain⟨Q,hQ⟩:=ZG (w6.setCell ⟨w.heap.size+1+1,0,none⟩ (F a6 n6 c6));rw[<-hQ] at bb ep bd bu bs ev er ⊢;have fs:w.heap.size+2<Q.heap.size:=Nat.lt_of_lt_of_le l0 bb.size;obtain⟨bj,am,bo,ay⟩:=kh4 bb bd bu bs;clear hQ bb bd bu bs cm cl af cj z6 fg TX;by_cases bg:x=0
    · subst bg
      have bt:=HN rfl;have fu:m+1=n7:=(by rw[<-bt];exact ay.1);have fl:n7<=c7:=Za ea;obtain⟨b7,o7,rfl,bz⟩:=ay.2 (by omega);have bx:=bz m (by omega);have HG:Hid (N.getD m 0=N[m]):=(by show _=_;simp[bt]);have hr:=Za HR;rw[if_pos rfl] at hr;injection hr with r1 r2;injection r2 with r2 r3;rw[Za HG] at r2;rw[r2] at bx;subst r1 r3;have l7:=World.block_lt_of_cell? _ _ bx;have fm:(Q.setCell ⟨w.heap.size+1+1,0,none⟩ (F a6 n6 c6)).cell? ⟨b7,o7+m,none⟩=some (E J nm):=am.other bx (λ_ _ _ q=>by cases q);have fo:(0:Int)<=(m:Int):=(by omega);have fp:(m:Int)<(n7:Int):=(by omega);have fq:(m:Int)<=(c7:Int):=by omega
      have HF:Hid (NmR w (Q.setCell ⟨w.heap.size+2,0,none⟩ (F a6 n6 c6)) M nm (N.take m) 0 (dF (dG #[.agg #[F a6 n6 c6],E J nm,F (some ⟨b7,o7,none⟩) m c7,E J 0]))):=
        ⟨a6,n6,c6,some ⟨b7,o7,none⟩,m,c7,rfl,Nb bo am,Za ec,Sh ⟨by rw[List.length_take];omega,λ_=>⟨b7,o7,rfl,λi hi=>by
          have:=bz i (by rw[List.length_take] at hi;omega);rw[List.getElem_take];exact this⟩⟩ am,by omega,GB _ (bj.one (w.heap.size+2) 0 (.inl rfl) _)⟩
      clear bz bt r2 ay bo am HG HN HR;go_wp2_with fail
      go_region
      all_goals
        go_wp2;(try simp only[Exit.inBlock,Exit.then]);refine bB (v:=dG #[.agg #[F a6 n6 c6],E J nm,F (some ⟨b7,o7,none⟩) m c7,E J 0]) ?_ rfl ?_
        · rw[Xu rfl]
          go_simp
        · exact HF.drew
    · have gx:(x != 0)=true:=by simp[bg]
      have hr:=Za HR;rw[if_neg bg] at hr;injection hr with r1 r2;injection r2 with r2 r3;subst r1 r2 r3;have HF:Hid (ZD w (Q.setCell ⟨w.heap.size+1+1,0,none⟩ (F none 0 0))):=GB _ (bj.one (w.heap.size+1+1) 0 (.inl rfl) _);clear bg HN bo ay am bj HR;go_wp2;(try simp only[Exit.inBlock,Exit.then]);refine bB (v:=dG #[.agg #[F none 0 0],E J 0,F none 0 0,E J x]) ?_ rfl ⟨_,_,_,_,_,_,rfl,Bk.TextsAt.nil _ _,Bk.SlOk.nil,Bk.IntsAt.nil _ _,Nat.le_refl _,?_⟩
      · rw[Xu rfl]
        go_simp
      · exact Za HF
