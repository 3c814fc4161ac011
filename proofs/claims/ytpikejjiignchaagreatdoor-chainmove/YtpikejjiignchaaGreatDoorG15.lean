import Derived.Test.YtpikejjiignchaaGreatDoorH
import Derived.Test.YtpikejjiignchaaGreatDoorG13
import Derived.Test.YtpikejjiignchaaGreatDoorG14
open Go renaming TypeId->bO,undef->dP,heap_alloc_new->aK,lt_of_block->aA,bodyPost_ret->aR
open Go.Ending renaming returned->dX
open Go.IntKind renaming i64->J
open Go.Obj renaming cells->dW
open Go.Value renaming int->E,slice->F,tuple->dY
open Go.World renaming cell?->dI
set_option maxHeartbeats 12800000
set_option maxRecDepth 10000
namespace Go.Proofs.YtpikejjiignchaaGreatDoor
open Go.RowKit
def Xz(b:Zj):List ByteArray:=b.2.2.2.2.map Ye++[Qe b]
def Q7(L:List ByteArray)(b:Zj):List ByteArray×Int×List Int×Int:=
  if Xo b≠0 then ([],0,[],Xo b)
  else if (Bk.allR L (Xz b)).2.2≠0 then ([],0,[],(Bk.allR L (Xz b)).2.2)
  else ((Bk.allR L (Xz b)).1,(Bk.allR L (Xz b)).2.1.getD b.2.2.2.2.length 0,(Bk.allR L (Xz b)).2.1.take b.2.2.2.2.length,0)
def NmR(w w':World)(M:List ByteArray)(nm:Int)(N:List Int)(x:Int)(e:Ending):Prop:=
  ∃ a' z c' a2 O c2,e = dX (dY #[.agg #[F a' z c'],E J nm,F a2 O c2,E J x])/\Bk.TextsAt w' a' z M/\Bk.SlOk a' z c'/\Bk.IntsAt w' a2 O N/\O<=c2/\ZD w w'
theorem NmR.drew{w w':World}{M}{nm:Int}{N}{x:Int}{e}(h:NmR w w' M nm N x e):NmR w w'.drew M nm N x e:=by
  obtain⟨a,n,c,z,n2,O,h1,h2,h3,h4,h5,h6⟩:=h;exact⟨a,n,c,z,n2,O,h1,h2,h3,h4,h5,Ze h6 (Zh _)⟩
theorem Rf{fn:Func}{p u v z:Tmp}{ty:bO}(h:fn.results=#[.cell p ty,.tmp u,.tmp v,.tmp z])(tmps:Array Value)(P:Program)(w) :
    (results fn tmps).run P w =
      ((asAddr (tmps.getD p dP)).run P w).andThen λa O=>((loadVar ty a).run P O).andThen λx w₂=>.ok (dY #[x,tmps.getD u dP,tmps.getD v dP,tmps.getD z dP]) w₂:=by
  simp only[results,h];simp[Sem.run_bind,Result.andThen]
theorem Qs(w:World)(a)(t:bO):(w.alloc (dW #[a] t)).heap[w.heap.size]? = some (dW [a].toArray t (0,0)):=aK w _
theorem Zfb{w:World}{base g cap m:Nat}{xs:List Value}{T:List TxD}{t:ByteArray}(ho:w.ownsRow base 9 1 (F (some ⟨g,0,none⟩) (m+1) cap) (m+1) (xs++[.string t]))(z:T.length=m)(O:xs.length=m)(hx:∀ j,j<m->xs[j]? = some (txV T j)):Bk.TextsAt w (some ⟨g,0,none⟩) (m+1) (T.map Ye++[t]):=by
  refine⟨by simp[z],λ_=>⟨g,0,rfl,λi hi=>?_⟩⟩;have ac:i<m+1:=by simpa[z] using hi
  rw[Nat.zero_add,ho.cellAt i (by omega)];by_cases h:i<m
  · rw[List.getElem?_append_left (by omega),hx i h]
    rw[List.getElem_append_left (by simp;omega)];simp[txV,(by omega:i<T.length)]
  · have e:i=m:=by omega
    subst e;rw[List.getElem?_append_right (by omega),List.getElem_append_right (by simp;omega)];simp[O,z]
theorem Zih(O kn kc)(p h k n:Int)(a m c T)(x:Int)(w)(hT:TxsAt w a m T)(hx:Xo (p,h,k,n,T)=x)(h0:x≠0) :
    Calls Tryz.prog 37 #[.agg #[F O kn kc],.agg #[E J p,E J h,E J k,E J n,F a m c]] w λe w'=>NmR w w' [] 0 [] x e:=by
  obtain⟨X,z⟩:=ZG (((w.alloc (dW #[F O kn kc] 24)).alloc (dW #[E J p,E J h,E J k,E J n,F a m c] 68)).alloc (dW #[F none 0 0] 24));have ad:ZD w X:=by rw[z];exact Ze (Ze (Zg _ _) (Zg _ _)) (Zg _ _)
  have af:X.heap[w.heap.size+2]? = some (dW [F none 0 0].toArray 24 (0,0)):=by
    rw[z];have:=Qs ((w.alloc (dW #[F O kn kc] 24)).alloc (dW #[E J p,E J h,E J k,E J n,F a m c] 68)) (F none 0 0) 24;rw[show ((w.alloc (dW #[F O kn kc] 24)).alloc (dW #[E J p,E J h,E J k,E J n,F a m c] 68)).heap.size=w.heap.size+2 by simp] at this;exact this
  have C1:=Zb (C8 p h k n a m c T x X (hT.later ad) hx h0);have ak:=Zb af;have aj:=Zb ad;have gx:(x != 0)=true:=by simp[h0]
  clear hT hx h0 af ad;go_enter Tryz.func37,Tryz.ntmps37;go_wp2_with fail;rw[<-z];clear z;refine C1.mono ?_;rintro e w1 ⟨rfl,ac⟩;have h3:=ZE ac ak;have z0:=Zd h3 0 _ rfl;have zf:=Zi h3 0;have zl:=aA h3;have ai:=Zb (Ze aj ac);clear ac h3;go_wp2;(try simp only[Exit.inBlock,Exit.then]);refine aR (v:=dY #[.agg #[F none 0 0],E J 0,F none 0 0,E J x]) ?_ rfl ⟨_,_,_,_,_,_,rfl,Bk.TextsAt.nil _ _,Bk.SlOk.nil,Bk.IntsAt.nil _ _,Nat.le_refl _,?_⟩
  · rw[Rf rfl]
    go_simp
  · exact ai.setCell (p:=⟨w.heap.size+2,0,none⟩) (by simp) _
def OutOk(ty:bO)(o:Nat)(W:World):Prop:=∃ a n c,W.heap[o]? = some (dW #[F a n c] ty (0,0))
theorem OutOk.later{ty:bO}{o:Nat}{W V:World}(h:OutOk ty o W)(z:ZD W V):OutOk ty o V:=by
  obtain⟨a,n,c,h⟩:=h;exact⟨a,n,c,ZE z h⟩
theorem OutOk.grown{ty:bO}{o B:Nat}{W V:World}(h:OutOk ty o W)(z:W.grownBy V (some B))(O:o≠B):OutOk ty o V:=by
  obtain⟨a,n,c,h⟩:=h;exact⟨a,n,c,(z.block _ (aA h) (λe=>O (Option.some.inj e))).trans h⟩
theorem OutOk.put{ty:bO}{o:Nat}{W:World}(h:OutOk ty o W)(b:Nat)(e:b=o)(a')(O z):OutOk ty o (W.setCell ⟨b,0,none⟩ (F a' O z)):=by
  subst e;obtain⟨a,n,c,h⟩:=h;exact⟨a',O,z,Yz h⟩
theorem OutOk.cell{ty:bO}{o:Nat}{W:World}(h:OutOk ty o W):∃ z,W.cell? ⟨o,0,none⟩=some z:=by
  obtain⟨a,n,c,h⟩:=h;exact⟨F a n c,by simp[dI,h]⟩
theorem OutOk.free{ty:bO}{o:Nat}{W:World}(h:OutOk ty o W):W.frozen? ⟨o,0,none⟩=false:=by
  obtain⟨a,n,c,h⟩:=h;simp[World.frozen?,h]
theorem OutOk.other{ty:bO}{o b j:Nat}{W:World}{v u}(h:OutOk ty o W)(z:W.cell? ⟨b,j,none⟩=some v)(hv:∀ a n c,v ≠ F a n c):(W.setCell ⟨o,0,none⟩ u).cell? ⟨b,j,none⟩=some v:=by
  have O:b≠o:=λe=>by
    subst e;obtain⟨a,n,c,h⟩:=h;cases j with
    | zero=>simp[dI,h] at z;exact hv a n c z.symm
    | succ i=>simp[dI,h] at z
  rw[<-z];exact World.cell?_of_block (a:=⟨b,j,none⟩) (Below.heap_setCell W ⟨o,0,none⟩ u b (λe=>O e))
theorem Fx{ty:bO}{o:Nat}{W:World}{a n M u}(h:Bk.TextsAt W a n M)(O:OutOk ty o W):Bk.TextsAt (W.setCell ⟨o,0,none⟩ u) a n M:=by
  refine⟨h.1,λh0=>?_⟩;obtain⟨b,off,e,z⟩:=h.2 h0;exact⟨b,off,e,λi hi=>O.other (z i hi) (λ_ _ _ q=>by cases q)⟩
theorem Zbk{ty:bO}{o:Nat}{W:World}{a n N u}(h:Bk.IntsAt W a n N)(O:OutOk ty o W):Bk.IntsAt (W.setCell ⟨o,0,none⟩ u) a n N:=by
  refine⟨h.1,λh0=>?_⟩;obtain⟨b,off,e,z⟩:=h.2 h0;exact⟨b,off,e,λi hi=>O.other (z i hi) (λ_ _ _ q=>by cases q)⟩
def NmS(ty:bO)(z:World)(B:Nat)(v u:Value)(W:World):Prop:=Gr z W (λq=>q=B+2)/\W.cell? ⟨B,0,none⟩=some v/\W.cell? ⟨B+1,4,none⟩=some u/\OutOk ty (B+2) W
theorem Gr.grow2{z W V:World}{S:Nat->Prop}{B:Nat}(h:Gr z W S)(O:W.grownBy V (some B))(hB:z.heap.size<=B):Gr z V S:=h.grown O (λk e=>.inr (by injection e with e;omega))
theorem Nt(ka kn kc L)(p h k n:Int)(a m c T M)(N:List Int)(x:Int)(w)(hE:Env w)(hL:Bk.TextsAt w ka kn L)(hT:TxsAt w a m T)(hx:Xo (p,h,k,n,T)=0)(hA:Bk.allR L (Xz (p,h,k,n,T))=(M,N,x))(hN:x=0->N.length=m+1)(M')(nm:Int)(N')(hR:(if x=0 then (M,N.getD m 0,N.take m) else (([]:List ByteArray),(0:Int),([]:List Int)))=(M',nm,N')) :
    Calls Tryz.prog 37 #[.agg #[F ka kn kc],.agg #[E J p,E J h,E J k,E J n,F a m c]] w λe w'=>NmR w w' M' nm N' x e:=by
  obtain⟨i0,ii,ds,dt,du⟩:=info_parts Tryz.info9;obtain⟨f1,f2,f3,_,f5⟩:=Uo hx;have hz:T.length=m:=hT.1;obtain⟨X,hX⟩:=ZG (((w.alloc (dW #[F ka kn kc] 24)).alloc (dW #[E J p,E J h,E J k,E J n,F a m c] 68)).alloc (dW #[F none 0 0] 24));have be:ZD w X:=by rw[hX];exact Ze (Ze (Zg _ _) (Zg _ _)) (Zg _ _)
  have de:X.heap[w.heap.size]? = some (dW [F ka kn kc].toArray 24 (0,0)):=by
    rw[hX,Below.heap_alloc _ _ _ (by simp;omega),Below.heap_alloc _ _ _ (by simp)];exact Qs _ _ _
  have df:X.heap[w.heap.size+1]? = some (dW [E J p,E J h,E J k,E J n,F a m c].toArray 68 (0,0)):=by
    rw[hX,Below.heap_alloc _ _ _ (by simp)];have:=Z8 (w.alloc (dW #[F ka kn kc] 24)) (E J p) (E J h) (E J k) (E J n) (F a m c) 68;rw[show (w.alloc (dW #[F ka kn kc] 24)).heap.size=w.heap.size+1 by simp] at this;exact this
  have dg:X.heap[w.heap.size+2]? = some (dW [F none 0 0].toArray 24 (0,0)):=by
    rw[hX];have:=Qs ((w.alloc (dW #[F ka kn kc] 24)).alloc (dW #[E J p,E J h,E J k,E J n,F a m c] 68)) (F none 0 0) 24;rw[show ((w.alloc (dW #[F ka kn kc] 24)).alloc (dW #[E J p,E J h,E J k,E J n,F a m c] 68)).heap.size=w.heap.size+2 by simp] at this;exact this
  have C1:=Zb (Fu p h k n a m c T X (hE.later be) (hT.later be) hx);have ef:=Zb de;have eg:=Zb df;have cn:=Zb dg;have eb:=Zb be;have HE:=Zb hE;obtain⟨b,off,rfl,_,di⟩:=hT.2 (by omega)
  have PT:=Zb (λW (hb:ZD w W)=>(show Calls Tryz.prog 81 #[F (some ⟨b,off,none⟩) m c] W λe w'=>∃ (B:Nat) (xs:List Value),e = dX (F (some ⟨B,0,none⟩) m m)/\w'.ownsRow B 9 1 (F (some ⟨B,0,none⟩) m m) m xs/\xs.length=m/\(∀ j,j<m->xs[j]? = some (txV T j))/\B<w'.heap.size/\W.heap.size<=B/\ZD W w' from
    (Kj b off m c T W (HE.later hb) hz (by omega) f5 (λi hi=>TxAt.kept _ _ _ _ _ hb (di i hi))).mono λe w' ⟨h1,h2⟩=>by
      obtain⟨xs,ho,hx⟩:=h2.ex;exact⟨W.heap.size,xs,h1,ho,by simpa using ho.1,hx,h2.lt,Nat.le_refl _,h2.bel⟩))
  have fu:m<=4:=by omega
  have HZ:=Zb hz;obtain⟨t,ht⟩:=ZF (Qe (p,h,k,n,T));have cx:Bk.allR L (T.map Ye++[t])=(M,N,x):=by rw[<-ht];exact hA
  rw[ht] at C1;have AL:=Zb (λW gd gh (hb:ZD w W) (hl:Bk.TextsAt W gd (m+1) (T.map Ye++[t]))=>Bk.all_is ka gd kn kc (m+1) gh L (T.map Ye++[t]) M N x W (hL.later hb) hl (by omega) cx);have HN:=Zb hN;have HR:=Zb hR;clear hE hL hT hx hA hN hR de df dg be di f1 f2 f3 f5 hz cx ht;go_enter Tryz.func37,Tryz.ntmps37;go_wp2_with fail;rw[<-hX];clear hX;refine C1.mono ?_;rintro e z ⟨rfl,ah⟩;have h1:=ZE ah ef;have h2:=ZE ah eg;have h3:=ZE ah cn;have k0:=Zd h1 0 _ rfl;have b4:=Zd h2 4 _ rfl;have z0:=Zd h3 0 _ rfl;have zf:=Zi h3 0;have l1:=aA h1;have l2:=aA h2;have l3:=aA h3;have fi:=Zb ah;have fz:X.heap.size<=z.heap.size:=ah.size;have fw:w.heap.size+3<=X.heap.size:=by have:=aA cn;omega
  have GB:Hid (∀ W,Gr z W (λq=>q=w.heap.size+2)->ZD w W):=λW g=>g.below (Ze eb ah) (by omega) (λk e=>by rw[e];omega)
  have KS:Hid (∀ W,Gr z W (λq=>q=w.heap.size+2)->OutOk 24 (w.heap.size+2) W->NmS 24 z (w.heap.size) (F ka kn kc) (F (some ⟨b,off,none⟩) m c) W):=
    λW g o=>⟨g,Zd (g.heap h1 (by omega)) 0 _ rfl,Zd (g.heap h2 (by omega)) 4 _ rfl,o⟩
  have O1:Hid (OutOk 24 (w.heap.size+2) z):=⟨_,_,_,h3⟩
  have ei:=Zb (λW (g:Gr z W (λq=>q=w.heap.size+2))=>(show Calls Tryz.prog 81 #[F (some ⟨b,off,none⟩) m c] W λe w'=>∃ (B:Nat) (xs:List Value),e = dX (F (some ⟨B,0,none⟩) m m)/\w'.ownsRow B 9 1 (F (some ⟨B,0,none⟩) m m) m xs/\xs.length=m/\(∀ j,j<m->xs[j]? = some (txV T j))/\B<w'.heap.size/\z.heap.size<=B/\ZD W w' from
    (PT W (GB W g)).mono λe w' ⟨B,xs,q1,q2,q3,q4,q5,q6,q7⟩=>⟨B,xs,q1,q2,q3,q4,q5,Nat.le_trans g.size q6,q7⟩))
  have ea:=Zb (λW gd gh (g:Gr z W (λq=>q=w.heap.size+2)) hl=>AL W gd gh (GB W g) hl);have l0:w.heap.size+2<z.heap.size:=l3;clear ah h1 h2 h3 C1 PT AL z0 zf;go_wp2_with fail
  go_region_held3 (λW=>Gr z W (λq=>q=w.heap.size+2)/\W.cell? ⟨w.heap.size,0,none⟩=some (F ka kn kc)/\W.cell? ⟨w.heap.size+1,4,none⟩=some (F (some ⟨b,off,none⟩) m c)/\OutOk 24 (w.heap.size+2) W)
    (first
    | exact KS _ (Gr.refl _ _).draw O1
    | (go_split_ands;exact KS _ (Gr.new (by assumption) _) (OutOk.later (by assumption) (Zg _ _)))
    | (go_split_ands;exact KS _ (Gr.on (by assumption) aj) (OutOk.later (by assumption) aj))
    | (go_split_ands;exact KS _ (Gr.grow2 (by assumption) ak ep) (OutOk.grown (by assumption) ak dl))
    | exact KS _ (cj.one (w.heap.size+1+1) 0 (.inl rfl) _) (OutOk.put ag (w.heap.size+1+1) rfl _ _ _))
    (first
    | (refine step_append_lies _ (by rfl) _ _ _ (by rfl) B4 9 i0 _ 1 16 Tryz.underlying22 ii ds dt du rfl (by omega) (F (some ⟨B4,0,none⟩) m m) m dz (by rfl) (dn.alloc _) ⟨w4.heap.size,0,none⟩ 1 1 [.string t] (by rfl) (by rfl) (World.news_of_block (cs:=#[.string t]) (t:=9) (fr:=(0,0)) (aK w4 _)) (by simp[Value.oneCell']) (by omega) (by unfold maxLen;omega) (by omega) (by simp;omega) (w4.heap.size+1) (by simp) ?_;intro gg cap w5 aq ap bx et;have TX:=Zb (Zfb aq HZ dj dp);have ak:=ap;change World.grownBy _ _ (some B4) at ak;(have dl:w.heap.size+2≠B4:=by omega);clear aq bx ap)
    | (refine step_append_lies _ (by rfl) _ _ _ (by rfl) B4 9 i0 _ 1 16 Tryz.underlying22 ii ds dt du rfl (by omega) (F (some ⟨B4,0,none⟩) m m) m dz (by rfl) dn ⟨z.heap.size,0,none⟩ 1 1 [.string t] (by rfl) (by rfl) (World.news_of_block (cs:=#[.string t]) (t:=9) (fr:=(0,0)) ev) (by simp[Value.oneCell']) (by omega) (by unfold maxLen;omega) (by omega) (by omega) w4.heap.size (by rfl) ?_;intro gg cap w5 aq ap bx et;have TX:=Zb (Zfb aq HZ dj dp);have ak:=ap;change World.grownBy _ _ (some B4) at ak;(have dl:w.heap.size+2≠B4:=by omega);clear aq bx ap)
    | (go_at_call 81
       refine (ei _ ?_).mono ?_
       · go_split_ands
         assumption
       rintro e w4 ⟨B4,dz,rfl,dn,dj,dp,fl,ep,aj⟩
       try have ev:=(aj.block z.heap.size (by simp)).trans (aK z (dW #[.string t] 9)))
    | (go_at_call 80
       refine (ea _ _ _ ?_ TX).mono ?_
       · go_split_ands
         assumption
       rintro e w6 ⟨⟨O,n6,c6,a7,n7,c7,rfl,dd,dy,cy,eu,dh⟩,aj⟩;have cm:=Zb dd;have ee:=Zb dy;have cl:=Zb cy;have ec:=Zb dh;have ag:=Zb (OutOk.later (by go_split_ands;assumption) aj);have cj:=Zb (Gr.on (by go_split_ands;assumption) aj);obtain⟨zz,z6⟩:=ag.cell;have fh:=ag.free;clear dd dy cy dh ak eu))
  all_goals
    rename_i hH;obtain⟨ba,-,er,bb⟩:=hH;have bw:Bk.TextsAt (w6.setCell ⟨w.heap.size+1+1,0,none⟩ (F O n6 c6)) O n6 M:=Fx cm ag;have bu:Bk.IntsAt (w6.setCell ⟨w.heap.size+1+1,0,none⟩ (F O n6 c6)) a7 n7 N:=Zbk cl ag
    have ew:(w6.setCell ⟨w.heap.size+1+1,0,none⟩ (F O n6 c6)).cell? ⟨w.heap.size+2,0,none⟩=some (F O n6 c6):=by
      obtain⟨q1,q2,q3,q⟩:=Za ag;have:=Yz (u:=F O n6 c6) q;simp[dI,this]
    have es:=bb.free;obtain⟨Q,hQ⟩:=ZG (w6.setCell ⟨w.heap.size+1+1,0,none⟩ (F O n6 c6));rw[<-hQ] at ba er bb bw bu ew es ⊢;have ft:w.heap.size+2<Q.heap.size:=Nat.lt_of_lt_of_le l0 ba.size;have bn:=Zb ba;have al:=Zb bb;have bq:=Zb bw;have ax:=Zb bu;clear hQ ba bb bw bu cm cl ag cj z6 fh TX;by_cases bf:x=0
    · subst bf
      have bv:=HN rfl;have fv:m+1=n7:=(by rw[<-bv];exact ax.1);have fm:n7<=c7:=Za ec;obtain⟨b7,o7,rfl,ca⟩:=ax.2 (by omega);have bz:=ca m (by omega);have HG:Hid (N.getD m 0=N[m]):=(by show _=_;simp[bv]);have hr:=Za HR;rw[if_pos rfl] at hr;injection hr with r1 r2;injection r2 with r2 r3;rw[Za HG] at r2;rw[r2] at bz;subst r1 r3;have l7:=World.block_lt_of_cell? _ _ bz;have fo:(Q.setCell ⟨w.heap.size+1+1,0,none⟩ (F O n6 c6)).cell? ⟨b7,o7+m,none⟩=some (E J nm):=al.other bz (λ_ _ _ q=>by cases q);have fp:(0:Int)<=(m:Int):=(by omega);have fq:(m:Int)<(n7:Int):=(by omega);have fs:(m:Int)<=(c7:Int):=by omega
      have HF:Hid (NmR w (Q.setCell ⟨w.heap.size+2,0,none⟩ (F O n6 c6)) M nm (N.take m) 0 (dX (dY #[.agg #[F O n6 c6],E J nm,F (some ⟨b7,o7,none⟩) m c7,E J 0]))):=
        ⟨O,n6,c6,some ⟨b7,o7,none⟩,m,c7,rfl,Fx bq al,Za ee,Zbk ⟨by rw[List.length_take];omega,λ_=>⟨b7,o7,rfl,λi hi=>by
          have:=ca i (by rw[List.length_take] at hi;omega);rw[List.getElem_take];exact this⟩⟩ al,by omega,GB _ (bn.one (w.heap.size+2) 0 (.inl rfl) _)⟩
      clear ca bv r2 ax bq al HG HN HR;go_wp2_with fail
      go_region
      all_goals
        go_wp2;(try simp only[Exit.inBlock,Exit.then]);refine aR (v:=dY #[.agg #[F O n6 c6],E J nm,F (some ⟨b7,o7,none⟩) m c7,E J 0]) ?_ rfl ?_
        · rw[Rf rfl]
          go_simp
        · exact HF.drew
    · have gx:(x != 0)=true:=by simp[bf]
      have hr:=Za HR;rw[if_neg bf] at hr;injection hr with r1 r2;injection r2 with r2 r3;subst r1 r2 r3;have HF:Hid (ZD w (Q.setCell ⟨w.heap.size+1+1,0,none⟩ (F none 0 0))):=GB _ (bn.one (w.heap.size+1+1) 0 (.inl rfl) _);clear bf HN bq ax al bn HR;go_wp2;(try simp only[Exit.inBlock,Exit.then]);refine aR (v:=dY #[.agg #[F none 0 0],E J 0,F none 0 0,E J x]) ?_ rfl ⟨_,_,_,_,_,_,rfl,Bk.TextsAt.nil _ _,Bk.SlOk.nil,Bk.IntsAt.nil _ _,Nat.le_refl _,?_⟩
      · rw[Rf rfl]
        go_simp
      · exact Za HF
