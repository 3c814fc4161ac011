import Derived.Test.YtmomfkikogbdeaaGreatDoorH
import Derived.Test.YtmomfkikogbdeaaGreatDoorG23
open Go renaming bodyPost_ret->bB,lt_of_block->aA,heap_alloc_new->aG
open Go.Ending renaming returned->dF
open Go.IntKind renaming i64->J
open Go.Obj renaming cells->dE
open Go.Value renaming int->E,slice->F,tuple->dG
set_option maxHeartbeats 12800000
set_option maxRecDepth 10000
namespace Go.Proofs.YtmomfkikogbdeaaGreatDoor
open Go.RowKit
def NmF(w w':World)(M:List ByteArray)(nm:Int)(N:List Int)(x:Int)(e:Ending):Prop:=
  ∃ a' n' c' a2 n2 c2,e = dF (dG #[.agg #[F a' n' c'],E J nm,F a2 n2 c2,E J x])/\Fresh w.heap.size w' (λw2=>Bk.TextsAt w2 a' n' M)/\Bk.SlOk a' n' c'/\Bk.IntsAt w' a2 n2 N/\n2<=c2/\ZD w w'
theorem NmF.drew{w w':World}{M}{nm:Int}{N}{x:Int}{e}(h:NmF w w' M nm N x e):NmF w w'.drew M nm N x e:=by
  obtain⟨a,n,c,a2,n2,c2,h1,h2,h3,h4,h5,h6⟩:=h;exact⟨a,n,c,a2,n2,c2,h1,λw2 g=>h2 w2 ((Gr.of (Zi _)).trans g),h3,h4,h5,Zf h6 (Zi _)⟩
theorem Zbi(ka kn kc)(p h k n:Int)(a m c T)(x:Int)(w)(hT:TxsAt w a m T)(hx:Yq (p,h,k,n,T)=x)(h0:x≠0) :
    Calls Tryz.prog 27 #[.agg #[F ka kn kc],.agg #[E J p,E J h,E J k,E J n,F a m c]] w λe w'=>NmF w w' [] 0 [] x e:=by
  obtain⟨X,hX⟩:=ZG (((w.alloc (dE #[F ka kn kc] 24)).alloc (dE #[E J p,E J h,E J k,E J n,F a m c] 39)).alloc (dE #[F none 0 0] 24));have ac:ZD w X:=by rw[hX];exact Zf (Zf (Zh _ _) (Zh _ _)) (Zh _ _)
  have ad:X.heap[w.heap.size+2]? = some (dE [F none 0 0].toArray 24 (0,0)):=by
    rw[hX];have:=Yp ((w.alloc (dE #[F ka kn kc] 24)).alloc (dE #[E J p,E J h,E J k,E J n,F a m c] 39)) (F none 0 0) 24;rw[show ((w.alloc (dE #[F ka kn kc] 24)).alloc (dE #[E J p,E J h,E J k,E J n,F a m c] 39)).heap.size=w.heap.size+2 by simp] at this;exact this
  obtain⟨C1,ag,af⟩:=kh3 (Jd p h k n a m c T x X (hT.later ac) hx h0) ad ac;have gx:(x != 0)=true:=by simp[h0]
  clear hT hx h0 ad ac;go_enter Tryz.func27,Tryz.ntmps27;go_wp2_with fail;rw[<-hX];clear hX;refine C1.mono ?_;rintro e w1 ⟨rfl,ab⟩;have h3:=ZE ab ag;obtain⟨z0,zf,zl⟩:=kf1 h3;have ae:=Zd (Zf af ab);clear ab h3;go_wp2;(try simp only[Exit.inBlock,Exit.then]);refine bB (v:=dG #[.agg #[F none 0 0],E J 0,F none 0 0,E J x]) ?_ rfl ⟨_,_,_,_,_,_,rfl,λ_ _=>Bk.TextsAt.nil _ _,Bk.SlOk.nil,Bk.IntsAt.nil _ _,Nat.le_refl _,?_⟩
  · rw[Xu rfl]
    go_simp
  · exact ae.setCell (p:=⟨w.heap.size+2,0,none⟩) (by simp) _
theorem Gb(ka kn kc L)(p h k n:Int)(a m c T M)(N:List Int)(x:Int)(w)(hE:Env w)(hL:Bk.TextsAt w ka kn L)(hT:TxsAt w a m T)(hx:Yq (p,h,k,n,T)=0)(hA:Bk.allR L (Yb (p,h,k,n,T))=(M,N,x))(hN:x=0->N.length=m+1)(M')(nm:Int)(N')(hR:(if x=0 then (M,N.getD m 0,N.take m) else (([]:List ByteArray),(0:Int),([]:List Int)))=(M',nm,N')) :
    Calls Tryz.prog 27 #[.agg #[F ka kn kc],.agg #[E J p,E J h,E J k,E J n,F a m c]] w λe w'=>NmF w w' M' nm N' x e:=by
  obtain⟨i0,ii,eb,ec,ed⟩:=info_parts Tryz.info9;obtain⟨f1,f2,f3,_,f5⟩:=Ww hx;have hz:T.length=m:=hT.1;obtain⟨X,hX⟩:=ZG (((w.alloc (dE #[F ka kn kc] 24)).alloc (dE #[E J p,E J h,E J k,E J n,F a m c] 39)).alloc (dE #[F none 0 0] 24));have bo:ZD w X:=by rw[hX];exact Zf (Zf (Zh _ _) (Zh _ _)) (Zh _ _)
  have dp:X.heap[w.heap.size]? = some (dE [F ka kn kc].toArray 24 (0,0)):=by
    rw[hX,Below.heap_alloc _ _ _ (by simp;omega),Below.heap_alloc _ _ _ (by simp)];exact Yp _ _ _
  have dq:X.heap[w.heap.size+1]? = some (dE [E J p,E J h,E J k,E J n,F a m c].toArray 39 (0,0)):=by
    rw[hX,Below.heap_alloc _ _ _ (by simp)];have:=Zx (w.alloc (dE #[F ka kn kc] 24)) (E J p) (E J h) (E J k) (E J n) (F a m c) 39;rw[show (w.alloc (dE #[F ka kn kc] 24)).heap.size=w.heap.size+1 by simp] at this;exact this
  have dr:X.heap[w.heap.size+2]? = some (dE [F none 0 0].toArray 24 (0,0)):=by
    rw[hX];have:=Yp ((w.alloc (dE #[F ka kn kc] 24)).alloc (dE #[E J p,E J h,E J k,E J n,F a m c] 39)) (F none 0 0) 24;rw[show ((w.alloc (dE #[F ka kn kc] 24)).alloc (dE #[E J p,E J h,E J k,E J n,F a m c] 39)).heap.size=w.heap.size+2 by simp] at this;exact this
  obtain⟨C1,el,en,dc,eh,HE⟩:=kh6 (U6 p h k n a m c T X (hE.later bo) (hT.later bo) hx) dp dq dr bo hE;obtain⟨b,off,rfl,_,dt⟩:=hT.2 (by omega)
  have PT:=Zd (λW (hb:ZD w W)=>(show Calls Tryz.prog 87 #[F (some ⟨b,off,none⟩) m c] W λe w'=>∃ (B:Nat) (xs:List Value),e = dF (F (some ⟨B,0,none⟩) m m)/\w'.ownsRow B 9 1 (F (some ⟨B,0,none⟩) m m) m xs/\xs.length=m/\(∀ j,j<m->xs[j]? = some (txV T j))/\B<w'.heap.size/\W.heap.size<=B/\ZD W w' from
    (Jm b off m c T W (HE.later hb) hz (by omega) f5 (λi hi=>TxAt.kept _ _ _ _ _ hb (dt i hi))).mono λe w' ⟨h1,h2⟩=>by
      obtain⟨xs,ho,hx⟩:=h2.ex;exact⟨W.heap.size,xs,h1,ho,by simpa using ho.1,hx,h2.lt,Nat.le_refl _,h2.bel⟩))
  have ga:m<=4:=by omega
  have HZ:=Zd hz;obtain⟨t,ht⟩:=ZF (Yw (p,h,k,n,T));have di:Bk.allR L (T.map Zy++[t])=(M,N,x):=by rw[<-ht];exact hA
  rw[ht] at C1;have AL:=Zd (λW al gl (hb:ZD w W) (hl:Bk.TextsAt W al (m+1) (T.map Zy++[t]))=>Bk.all_isF ka al kn kc (m+1) gl L (T.map Zy++[t]) M N x W (hL.later hb) hl (by omega) di);obtain⟨HN,HR⟩:=kh2 hN hR;clear hE hL hT hx hA hN hR dp dq dr bo dt f1 f2 f3 f5 hz di ht;go_enter Tryz.func27,Tryz.ntmps27;go_wp2_with fail;rw[<-hX];clear hX;refine C1.mono ?_;rintro e w1 ⟨rfl,af⟩;have h1:=ZE af el;have h2:=ZE af en;have h3:=ZE af dc;have k0:=Zb h1 0 _ rfl;have b4:=Zb h2 4 _ rfl;obtain⟨z0,zf,-⟩:=kf1 h3;have l1:=aA h1;have l2:=aA h2;have l3:=aA h3;have fp:=Zd af;have gg:X.heap.size<=w1.heap.size:=af.size;have gc:w.heap.size+3<=X.heap.size:=by have:=aA dc;omega
  have GB:Hid (∀ W,Gr w1 W (λq=>q=w.heap.size+2)->ZD w W):=λW g=>g.below (Zf eh af) (by omega) (λk e=>by rw[e];omega)
  have KS:Hid (∀ W,Gr w1 W (λq=>q=w.heap.size+2)->OutOk 24 (w.heap.size+2) W->NmS 24 w1 (w.heap.size) (F ka kn kc) (F (some ⟨b,off,none⟩) m c) W):=
    λW g o=>⟨g,Zb (g.heap h1 (by omega)) 0 _ rfl,Zb (g.heap h2 (by omega)) 4 _ rfl,o⟩
  have O1:Hid (OutOk 24 (w.heap.size+2) w1):=⟨_,_,_,h3⟩
  have ep:=Zd (λW (g:Gr w1 W (λq=>q=w.heap.size+2))=>(show Calls Tryz.prog 87 #[F (some ⟨b,off,none⟩) m c] W λe w'=>∃ (B:Nat) (xs:List Value),e = dF (F (some ⟨B,0,none⟩) m m)/\w'.ownsRow B 9 1 (F (some ⟨B,0,none⟩) m m) m xs/\xs.length=m/\(∀ j,j<m->xs[j]? = some (txV T j))/\B<w'.heap.size/\w1.heap.size<=B/\ZD W w' from
    (PT W (GB W g)).mono λe w' ⟨B,xs,q1,q2,q3,q4,q5,q6,q7⟩=>⟨B,xs,q1,q2,q3,q4,q5,Nat.le_trans g.size q6,q7⟩))
  have eg:=Zd (λW al gl (g:Gr w1 W (λq=>q=w.heap.size+2)) (hl:Bk.TextsAt W al (m+1) (T.map Zy++[t]))=>(AL W al gl (GB W g) hl).mono (R':=λe w'=>(∃ a' n' c' a2 n2 c2,e = dF (dG #[.agg #[F a' n' c'],F a2 n2 c2,E J x])/\(∀ w2,Gr w' w2 (λk=>k<w.heap.size+3)->Bk.TextsAt w2 a' n' M)/\Bk.SlOk a' n' c'/\Bk.IntsAt w' a2 n2 N/\n2<=m+1/\n2<=c2)/\ZD W w') λe w' ⟨⟨a',n',c',a2,n2,c2,q1,q2,q3⟩,q4⟩=>⟨⟨a',n',c',a2,n2,c2,q1,λw2 g2=>q2 w2 (g2.mono (λk _ hk=>by have hk:k<w.heap.size+3:=hk;have:=g.size;show k<W.heap.size;omega)),q3⟩,q4⟩);have l0:w.heap.size+2<w1.heap.size:=l3;clear af h1 h2 h3 C1 PT AL z0 zf;go_wp2_with fail
  go_region_held3 (λW=>Gr w1 W (λq=>q=w.heap.size+2)/\W.cell? ⟨w.heap.size,0,none⟩=some (F ka kn kc)/\W.cell? ⟨w.heap.size+1,4,none⟩=some (F (some ⟨b,off,none⟩) m c)/\OutOk 24 (w.heap.size+2) W)
    (first
    | exact KS _ (Gr.refl _ _).draw O1
    | (go_split_ands;exact KS _ (Gr.new (by assumption) _) (OutOk.later (by assumption) (Zh _ _)))
    | (go_split_ands;exact KS _ (Gr.on (by assumption) aj) (OutOk.later (by assumption) aj))
    | (go_split_ands;exact KS _ (Gr.grow2 (by assumption) ak ew) (OutOk.grown (by assumption) ak dv))
    | exact KS _ (cz.one (w.heap.size+1+1) 0 (.inl rfl) _) (OutOk.put ag (w.heap.size+1+1) rfl _ _ _))
    (first
    | (refine step_append_lies _ (by rfl) _ _ _ (by rfl) B4 9 i0 _ 1 16 Tryz.underlying22 ii eb ec ed rfl (by omega) (F (some ⟨B4,0,none⟩) m m) m ef (by rfl) (dx.alloc _) ⟨w4.heap.size,0,none⟩ 1 1 [.string t] (by rfl) (by rfl) (World.news_of_block (cs:=#[.string t]) (t:=9) (fr:=(0,0)) (aG w4 _)) (by simp[Value.oneCell']) (by omega) (by unfold maxLen;omega) (by omega) (by simp;omega) (w4.heap.size+1) (by simp) ?_;intro gm cap w5 av au cg fb;have TX:=Zd (Gw av HZ du dy);have ak:=au;change World.grownBy _ _ (some B4) at ak;(have dv:w.heap.size+2≠B4:=by omega);clear av cg au)
    | (refine step_append_lies _ (by rfl) _ _ _ (by rfl) B4 9 i0 _ 1 16 Tryz.underlying22 ii eb ec ed rfl (by omega) (F (some ⟨B4,0,none⟩) m m) m ef (by rfl) dx ⟨w1.heap.size,0,none⟩ 1 1 [.string t] (by rfl) (by rfl) (World.news_of_block (cs:=#[.string t]) (t:=9) (fr:=(0,0)) fd) (by simp[Value.oneCell']) (by omega) (by unfold maxLen;omega) (by omega) (by omega) w4.heap.size (by rfl) ?_;intro gm cap w5 av au cg fb;have TX:=Zd (Gw av HZ du dy);have ak:=au;change World.grownBy _ _ (some B4) at ak;(have dv:w.heap.size+2≠B4:=by omega);clear av cg au)
    | (go_at_call 87
       refine (ep _ ?_).mono ?_
       · go_split_ands
         assumption
       rintro e w4 ⟨B4,ef,rfl,dx,du,dy,ft,ew,aj⟩
       try have fd:=(aj.block w1.heap.size (by simp)).trans (aG w1 (dE #[.string t] 9)))
    | (go_at_call 86
       refine (eg _ _ _ ?_ TX).mono ?_
       · go_split_ands
         assumption
       rintro e w6 ⟨⟨a6,n6,c6,a7,n7,c7,rfl,dn,ee,dj,fc,ds⟩,aj⟩;obtain⟨db,ek,da,ei,ag,cz⟩:=kh6 dn ee dj ds (OutOk.later (by go_split_ands;assumption) aj) (Gr.on (by go_split_ands;assumption) aj);obtain⟨zz,z6⟩:=ag.cell;have fo:=ag.free;clear dn ee dj ds ak fc))
  all_goals
    rename_i hH;obtain⟨bi,-,ez,bj⟩:=hH;have cf:∀ w2,Gr (w6.setCell ⟨w.heap.size+1+1,0,none⟩ (F a6 n6 c6)) w2 (λk=>k<w.heap.size+3)->Bk.TextsAt w2 a6 n6 M:=λw2 g2=>db w2 (((Gr.refl w6 (λk=>k<w.heap.size+3)).one (w.heap.size+1+1) 0 (.inl (by show w.heap.size+1+1<w.heap.size+3;omega)) _).trans g2);have cd:Bk.IntsAt (w6.setCell ⟨w.heap.size+1+1,0,none⟩ (F a6 n6 c6)) a7 n7 N:=Sh da ag
    have fe:(w6.setCell ⟨w.heap.size+1+1,0,none⟩ (F a6 n6 c6)).cell? ⟨w.heap.size+2,0,none⟩=some (F a6 n6 c6):=by
      obtain⟨q1,q2,q3,q⟩:=Za ag;have:=Vk (u:=F a6 n6 c6) q;simp[World.cell?,this]
    have fa:=bj.free;obtain⟨Q,hQ⟩:=ZG (w6.setCell ⟨w.heap.size+1+1,0,none⟩ (F a6 n6 c6));rw[<-hQ] at bi ez bj cf cd fe fa ⊢;have fz:w.heap.size+2<Q.heap.size:=Nat.lt_of_lt_of_le l0 bi.size;obtain⟨bx,bd,ca,bb⟩:=kh4 bi bj cf cd;clear hQ bi bj cf cd db da ag cz z6 fo TX;by_cases bq:x=0
    · subst bq
      have ce:=HN rfl;have gb:m+1=n7:=(by rw[<-ce];exact bb.1);have fu:n7<=c7:=Za ei;obtain⟨b7,o7,rfl,cl⟩:=bb.2 (by omega);have cj:=cl m (by omega);have HG:Hid (N.getD m 0=N[m]):=(by show _=_;simp[ce]);have hr:=Za HR;rw[if_pos rfl] at hr;injection hr with r1 r2;injection r2 with r2 r3;rw[Za HG] at r2;rw[r2] at cj;subst r1 r3;have l7:=World.block_lt_of_cell? _ _ cj;have fv:(Q.setCell ⟨w.heap.size+1+1,0,none⟩ (F a6 n6 c6)).cell? ⟨b7,o7+m,none⟩=some (E J nm):=bd.other cj (λ_ _ _ q=>by cases q);have fw:(0:Int)<=(m:Int):=(by omega);have fx:(m:Int)<(n7:Int):=(by omega);have fy:(m:Int)<=(c7:Int):=by omega
      have HF:Hid (NmF w (Q.setCell ⟨w.heap.size+2,0,none⟩ (F a6 n6 c6)) M nm (N.take m) 0 (dF (dG #[.agg #[F a6 n6 c6],E J nm,F (some ⟨b7,o7,none⟩) m c7,E J 0]))):=
        ⟨a6,n6,c6,some ⟨b7,o7,none⟩,m,c7,rfl,λw2 g2=>ca w2 (((Gr.refl Q (λk=>k<w.heap.size+3)).one (w.heap.size+2) 0 (.inl (by show w.heap.size+2<w.heap.size+3;omega)) _).trans (g2.mono (λk _ hk=>by omega))),Za ek,Sh ⟨by rw[List.length_take];omega,λ_=>⟨b7,o7,rfl,λi hi=>by
          have:=cl i (by rw[List.length_take] at hi;omega);rw[List.getElem_take];exact this⟩⟩ bd,by omega,GB _ (bx.one (w.heap.size+2) 0 (.inl rfl) _)⟩
      clear cl ce r2 bb ca bd HG HN HR;go_wp2_with fail
      go_region
      all_goals
        go_wp2;(try simp only[Exit.inBlock,Exit.then]);refine bB (v:=dG #[.agg #[F a6 n6 c6],E J nm,F (some ⟨b7,o7,none⟩) m c7,E J 0]) ?_ rfl ?_
        · rw[Xu rfl]
          go_simp
        · exact HF.drew
    · have gx:(x != 0)=true:=by simp[bq]
      have hr:=Za HR;rw[if_neg bq] at hr;injection hr with r1 r2;injection r2 with r2 r3;subst r1 r2 r3;have HF:Hid (ZD w (Q.setCell ⟨w.heap.size+1+1,0,none⟩ (F none 0 0))):=GB _ (bx.one (w.heap.size+1+1) 0 (.inl rfl) _);clear bq HN ca bb bd bx HR;go_wp2;(try simp only[Exit.inBlock,Exit.then]);refine bB (v:=dG #[.agg #[F none 0 0],E J 0,F none 0 0,E J x]) ?_ rfl ⟨_,_,_,_,_,_,rfl,λ_ _=>Bk.TextsAt.nil _ _,Bk.SlOk.nil,Bk.IntsAt.nil _ _,Nat.le_refl _,?_⟩
      · rw[Xu rfl]
        go_simp
      · exact Za HF
theorem Zbj(ka kn kc L)(p h k n:Int)(a m c T M)(nm:Int)(N)(x:Int)(w)(hE:Env w)(hL:Bk.TextsAt w ka kn L)(hT:TxsAt w a m T)(hx:Xl L (p,h,k,n,T)=(M,nm,N,x)) :
    Calls Tryz.prog 27 #[.agg #[F ka kn kc],.agg #[E J p,E J h,E J k,E J n,F a m c]] w λe w'=>NmF w w' M nm N x e:=by
  have hz:T.length=m:=hT.1;unfold Xl at hx;by_cases h0:Yq (p,h,k,n,T)=0
  · rw[if_neg (by rw[h0];decide)] at hx
    obtain⟨⟨M',N',x'⟩,hr⟩:=ZF (Bk.allR L (Yb (p,h,k,n,T)));rw[hr] at hx;simp only[hz] at hx
    have ak:x'=0->N'.length=m+1:=λe=>by
      subst e;rw[Mf hr];unfold Yb;simp[hz]
    by_cases af:x'=0
    · subst af
      rw[if_neg (by decide)] at hx;injection hx with e1 e2;injection e2 with e2 e3;injection e3 with e3 e4;subst e1 e2 e3 e4;exact Gb ka kn kc L p h k n a m c T M' N' 0 w hE hL hT h0 hr ak _ _ _ (if_pos rfl)
    · rw[if_pos af] at hx
      injection hx with e1 e2;injection e2 with e2 e3;injection e3 with e3 e4;subst e1 e2 e3 e4;exact Gb ka kn kc L p h k n a m c T M' N' x' w hE hL hT h0 hr ak _ _ _ (if_neg af)
  · rw[if_pos h0] at hx
    injection hx with e1 e2;injection e2 with e2 e3;injection e3 with e3 e4;subst e1 e2 e3;exact Zbi ka kn kc p h k n a m c T x w hT e4 (by rw[<-e4];exact h0)
