import Derived.Test.YtpikejjiignchaaGreatDoorG15
import Derived.Test.YtpikejjiignchaaGreatDoorG16
set_option maxHeartbeats 12800000
set_option maxRecDepth 10000
namespace Go.Proofs.YtpikejjiignchaaGreatDoor
open Go.RowKit
def Xl(b:Zk):List ByteArray:=b.2.2.2.2.map Zz++[Ui b]
def Qt(L:List ByteArray)(b:Zk):List ByteArray×Int×List Int×Int:=
  if Xb b≠0 then ([],0,[],Xb b)
  else if (Bk.allR L (Xl b)).2.2≠0 then ([],0,[],(Bk.allR L (Xl b)).2.2)
  else ((Bk.allR L (Xl b)).1,(Bk.allR L (Xl b)).2.1.getD b.2.2.2.2.length 0,(Bk.allR L (Xl b)).2.1.take b.2.2.2.2.length,0)
def NmR(w w':World)(M:List ByteArray)(nm:Int)(N:List Int)(x:Int)(e:Ending):Prop:=
  ∃ a' n' c' a2 n2 c2,e = .returned (.tuple #[.agg #[.slice a' n' c'],.int .i64 nm,.slice a2 n2 c2,.int .i64 x])∧Bk.TextsAt w' a' n' M∧Bk.SlOk a' n' c'∧Bk.IntsAt w' a2 n2 N∧n2≤c2∧Below w.heap.size w w'
theorem NmR.drew{w w':World}{M:List ByteArray}{nm:Int}{N:List Int}{x:Int}{e:Ending}(h:NmR w w' M nm N x e):NmR w w'.drew M nm N x e:=by
  obtain⟨a,n,c,a2,n2,c2,h1,h2,h3,h4,h5,h6⟩:=h
  exact⟨a,n,c,a2,n2,c2,h1,h2,h3,h4,h5,Ze h6 (Zh _)⟩
theorem Q6{fn:Func}{p u v z:Tmp}{ty:TypeId}(h:fn.results=#[.cell p ty,.tmp u,.tmp v,.tmp z])(tmps:Array Value)(P:Program)(w:World) :
    (results fn tmps).run P w =
      ((asAddr (tmps.getD p undef)).run P w).andThen fun a w₁=>((loadVar ty a).run P w₁).andThen fun x w₂=>.ok (.tuple #[x,tmps.getD u undef,tmps.getD v undef,tmps.getD z undef]) w₂:=by
  simp only[results,h]
  simp[Sem.run_bind,Result.andThen]
theorem Qs(w:World)(a:Value)(t:TypeId):(w.alloc (.cells #[a] t)).heap[w.heap.size]? = some (.cells [a].toArray t (0,0)):=heap_alloc_new w _
theorem Zbi{w:World}{base g cap m:Nat}{xs:List Value}{T:List TxD}{t:ByteArray}(ho:w.ownsRow base 9 1 (.slice (some ⟨g,0,none⟩) (m+1) cap) (m+1) (xs++[.string t]))(hz:T.length=m)(hl:xs.length=m)(hx:∀ j,j<m→xs[j]? = some (txV T j)):Bk.TextsAt w (some ⟨g,0,none⟩) (m+1) (T.map Zz++[t]):=by
  refine⟨by simp[hz],fun _=>⟨g,0,rfl,fun i hi=>?_⟩⟩
  have hi':i<m+1:=by simpa[hz] using hi
  rw[Nat.zero_add,ho.cellAt i (by omega)]
  by_cases h:i<m
  · rw[List.getElem?_append_left (by omega),hx i h]
    rw[List.getElem_append_left (by simp;omega)]
    simp[txV,(by omega:i<T.length)]
  · have e:i=m:=by omega
    subst e
    rw[List.getElem?_append_right (by omega),List.getElem_append_right (by simp;omega)]
    simp[hl,hz]
theorem Zdw(ka:Option Addr)(kn kc:Nat)(p h k n:Int)(a:Option Addr)(m c:Nat)(T:List TxD)(x:Int)(w:World)(hT:TxsAt w a m T)(hx:Xb (p,h,k,n,T)=x)(h0:x≠0) :
    Calls Tryz.prog 37 #[.agg #[.slice ka kn kc],.agg #[.int .i64 p,.int .i64 h,.int .i64 k,.int .i64 n,.slice a m c]] w fun e w'=>NmR w w' [] 0 [] x e:=by
  obtain⟨X,hX⟩:∃ X,X=((w.alloc (.cells #[.slice ka kn kc] 24)).alloc (.cells #[.int .i64 p,.int .i64 h,.int .i64 k,.int .i64 n,.slice a m c] 68)).alloc (.cells #[.slice none 0 0] 24):=⟨_,rfl⟩
  have hbX:Below w.heap.size w X:=by rw[hX];exact Ze (Ze (Zg _ _) (Zg _ _)) (Zg _ _)
  have hX3:X.heap[w.heap.size+2]? = some (.cells [.slice none 0 0].toArray 24 (0,0)):=by
    rw[hX]
    have:=Qs ((w.alloc (.cells #[.slice ka kn kc] 24)).alloc (.cells #[.int .i64 p,.int .i64 h,.int .i64 k,.int .i64 n,.slice a m c] 68)) (.slice none 0 0) 24
    rw[show ((w.alloc (.cells #[.slice ka kn kc] 24)).alloc (.cells #[.int .i64 p,.int .i64 h,.int .i64 k,.int .i64 n,.slice a m c] 68)).heap.size=w.heap.size+2 by simp] at this
    exact this
  have C1:=Zb (Fz p h k n a m c T x X (hT.later hbX) hx h0)
  have HX3:=Zb hX3
  have HBX:=Zb hbX
  have gx:(x != 0)=true:=by simp[h0]
  clear hT hx h0 hX3 hbX
  go_enter Tryz.func37,Tryz.ntmps37
  go_wp2_with fail
  rw[←hX]
  clear hX
  refine (Za C1).mono ?_
  rintro e w1 ⟨rfl,hb1⟩
  have h3:=(hb1.block _ (lt_of_block (Za HX3))).trans (Za HX3)
  have z0:=Zd h3 0 _ rfl
  have zf:=Zi h3 0
  have zl:=lt_of_block h3
  have HB1:=Zb (Ze (Za HBX) hb1)
  clear hb1 h3
  go_wp2
  (try simp only[Exit.inBlock,Exit.then])
  refine bodyPost_ret (v:=.tuple #[.agg #[.slice none 0 0],.int .i64 0,.slice none 0 0,.int .i64 x]) ?_ rfl ⟨_,_,_,_,_,_,rfl,Bk.TextsAt.nil _ _,Bk.SlOk.nil,Bk.IntsAt.nil _ _,Nat.le_refl _,?_⟩
  · rw[Q6 rfl]
    go_simp
  · exact (Za HB1).setCell (p:=⟨w.heap.size+2,0,none⟩) (by simp) _
def OutOk(ty:TypeId)(o:Nat)(W:World):Prop:=∃ a n c,W.heap[o]? = some (.cells #[.slice a n c] ty (0,0))
theorem OutOk.later{ty:TypeId}{o:Nat}{W V:World}(h:OutOk ty o W)(hb:Below W.heap.size W V):OutOk ty o V:=by
  obtain⟨a,n,c,h⟩:=h
  exact⟨a,n,c,(hb.block _ (lt_of_block h)).trans h⟩
theorem OutOk.grown{ty:TypeId}{o B:Nat}{W V:World}(h:OutOk ty o W)(hg:W.grownBy V (some B))(hn:o≠B):OutOk ty o V:=by
  obtain⟨a,n,c,h⟩:=h
  exact⟨a,n,c,(hg.block _ (lt_of_block h) (fun e=>hn (Option.some.inj e))).trans h⟩
theorem OutOk.put{ty:TypeId}{o:Nat}{W:World}(h:OutOk ty o W)(b:Nat)(e:b=o)(a':Option Addr)(n' c':Nat):OutOk ty o (W.setCell ⟨b,0,none⟩ (.slice a' n' c')):=by
  subst e
  obtain⟨a,n,c,h⟩:=h
  exact⟨a',n',c',Rp h⟩
theorem OutOk.cell{ty:TypeId}{o:Nat}{W:World}(h:OutOk ty o W):∃ z,W.cell? ⟨o,0,none⟩=some z:=by
  obtain⟨a,n,c,h⟩:=h
  exact⟨.slice a n c,by simp[World.cell?,h]⟩
theorem OutOk.free{ty:TypeId}{o:Nat}{W:World}(h:OutOk ty o W):W.frozen? ⟨o,0,none⟩=false:=by
  obtain⟨a,n,c,h⟩:=h
  simp[World.frozen?,h]
theorem OutOk.other{ty:TypeId}{o b j:Nat}{W:World}{v u:Value}(h:OutOk ty o W)(hc:W.cell? ⟨b,j,none⟩=some v)(hv:∀ a n c,v ≠ .slice a n c):(W.setCell ⟨o,0,none⟩ u).cell? ⟨b,j,none⟩=some v:=by
  have hne:b≠o:=fun e=>by
    subst e
    obtain⟨a,n,c,h⟩:=h
    cases j with
    | zero=>simp[World.cell?,h] at hc;exact hv a n c hc.symm
    | succ i=>simp[World.cell?,h] at hc
  rw[←hc]
  exact World.cell?_of_block (a:=⟨b,j,none⟩) (Below.heap_setCell W ⟨o,0,none⟩ u b (fun e=>hne e))
theorem M8{ty:TypeId}{o:Nat}{W:World}{a:Option Addr}{n:Nat}{M:List ByteArray}{u:Value}(h:Bk.TextsAt W a n M)(ho:OutOk ty o W):Bk.TextsAt (W.setCell ⟨o,0,none⟩ u) a n M:=by
  refine⟨h.1,fun h0=>?_⟩
  obtain⟨b,off,e,hc⟩:=h.2 h0
  exact⟨b,off,e,fun i hi=>ho.other (hc i hi) (fun _ _ _ q=>by cases q)⟩
theorem Bz{ty:TypeId}{o:Nat}{W:World}{a:Option Addr}{n:Nat}{N:List Int}{u:Value}(h:Bk.IntsAt W a n N)(ho:OutOk ty o W):Bk.IntsAt (W.setCell ⟨o,0,none⟩ u) a n N:=by
  refine⟨h.1,fun h0=>?_⟩
  obtain⟨b,off,e,hc⟩:=h.2 h0
  exact⟨b,off,e,fun i hi=>ho.other (hc i hi) (fun _ _ _ q=>by cases q)⟩
def NmS(ty:TypeId)(w1:World)(B:Nat)(v u:Value)(W:World):Prop:=Gr w1 W (fun q=>q=B+2)∧W.cell? ⟨B,0,none⟩=some v∧W.cell? ⟨B+1,4,none⟩=some u∧OutOk ty (B+2) W
theorem Gr.grow2{w1 W V:World}{S:Nat→Prop}{B:Nat}(h:Gr w1 W S)(hg:W.grownBy V (some B))(hB:w1.heap.size≤B):Gr w1 V S:=h.grown hg (fun k e=>.inr (by injection e with e;omega))
theorem K8(ka:Option Addr)(kn kc:Nat)(L:List ByteArray)(p h k n:Int)(a:Option Addr)(m c:Nat)(T:List TxD)(M:List ByteArray)(N:List Int)(x:Int)(w:World)(hE:Env w)(hL:Bk.TextsAt w ka kn L)(hT:TxsAt w a m T)(hx:Xb (p,h,k,n,T)=0)(hA:Bk.allR L (Xl (p,h,k,n,T))=(M,N,x))(hN:x=0→N.length=m+1)(M':List ByteArray)(nm:Int)(N':List Int)(hR:(if x=0 then (M,N.getD m 0,N.take m) else (([]:List ByteArray),(0:Int),([]:List Int)))=(M',nm,N')) :
    Calls Tryz.prog 37 #[.agg #[.slice ka kn kc],.agg #[.int .i64 p,.int .i64 h,.int .i64 k,.int .i64 n,.slice a m c]] w fun e w'=>NmR w w' M' nm N' x e:=by
  obtain⟨i0,ii,iz0,iz1,iz2⟩:=info_parts Tryz.info9
  obtain⟨f1,f2,f3,_,f5⟩:=Un hx
  have hz:T.length=m:=hT.1
  obtain⟨X,hX⟩:∃ X,X=((w.alloc (.cells #[.slice ka kn kc] 24)).alloc (.cells #[.int .i64 p,.int .i64 h,.int .i64 k,.int .i64 n,.slice a m c] 68)).alloc (.cells #[.slice none 0 0] 24):=⟨_,rfl⟩
  have hbX:Below w.heap.size w X:=by rw[hX];exact Ze (Ze (Zg _ _) (Zg _ _)) (Zg _ _)
  have hX1:X.heap[w.heap.size]? = some (.cells [.slice ka kn kc].toArray 24 (0,0)):=by
    rw[hX,Below.heap_alloc _ _ _ (by simp;omega),Below.heap_alloc _ _ _ (by simp)];exact Qs _ _ _
  have hX2:X.heap[w.heap.size+1]? = some (.cells [.int .i64 p,.int .i64 h,.int .i64 k,.int .i64 n,.slice a m c].toArray 68 (0,0)):=by
    rw[hX,Below.heap_alloc _ _ _ (by simp)]
    have:=Yd (w.alloc (.cells #[.slice ka kn kc] 24)) (.int .i64 p) (.int .i64 h) (.int .i64 k) (.int .i64 n) (.slice a m c) 68
    rw[show (w.alloc (.cells #[.slice ka kn kc] 24)).heap.size=w.heap.size+1 by simp] at this
    exact this
  have hX3:X.heap[w.heap.size+2]? = some (.cells [.slice none 0 0].toArray 24 (0,0)):=by
    rw[hX]
    have:=Qs ((w.alloc (.cells #[.slice ka kn kc] 24)).alloc (.cells #[.int .i64 p,.int .i64 h,.int .i64 k,.int .i64 n,.slice a m c] 68)) (.slice none 0 0) 24
    rw[show ((w.alloc (.cells #[.slice ka kn kc] 24)).alloc (.cells #[.int .i64 p,.int .i64 h,.int .i64 k,.int .i64 n,.slice a m c] 68)).heap.size=w.heap.size+2 by simp] at this
    exact this
  have C1:=Zb (Mz p h k n a m c T X (hE.later hbX) (hT.later hbX) hx)
  have HX1:=Zb hX1
  have HX2:=Zb hX2
  have HX3:=Zb hX3
  have HBX:=Zb hbX
  have HE:=Zb hE
  obtain⟨b,off,rfl,_,hcell⟩:=hT.2 (by omega)
  have PT:=Zb (fun W (hb:Below w.heap.size w W)=>(show Calls Tryz.prog 81 #[.slice (some ⟨b,off,none⟩) m c] W fun e w'=>∃ (B:Nat) (xs:List Value),e = .returned (.slice (some ⟨B,0,none⟩) m m)∧w'.ownsRow B 9 1 (.slice (some ⟨B,0,none⟩) m m) m xs∧xs.length=m∧(∀ j,j<m→xs[j]? = some (txV T j))∧B<w'.heap.size∧W.heap.size≤B∧Below W.heap.size W w' from
    (Ge b off m c T W ((Za HE).later hb) hz (by omega) f5 (fun i hi=>TxAt.kept _ _ _ _ _ hb (hcell i hi))).mono fun e w' ⟨h1,h2⟩=>by
      obtain⟨xs,ho,hx⟩:=h2.ex
      exact⟨W.heap.size,xs,h1,ho,by simpa using ho.1,hx,h2.lt,Nat.le_refl _,h2.bel⟩))
  have hm4:m≤4:=by omega
  have HZ:=Zb hz
  obtain⟨t,ht⟩:∃ t,Ui (p,h,k,n,T)=t:=⟨_,rfl⟩
  have hA':Bk.allR L (T.map Zz++[t])=(M,N,x):=by rw[←ht];exact hA
  rw[ht] at C1
  have AL:=Zb (fun W al cl (hb:Below w.heap.size w W) (hl:Bk.TextsAt W al (m+1) (T.map Zz++[t]))=>Bk.all_is ka al kn kc (m+1) cl L (T.map Zz++[t]) M N x W (hL.later hb) hl (by omega) hA')
  have HN:=Zb hN
  have HR:=Zb hR
  clear hE hL hT hx hA hN hR hX1 hX2 hX3 hbX hcell f1 f2 f3 f5 hz hA' ht
  go_enter Tryz.func37,Tryz.ntmps37
  go_wp2_with fail
  rw[←hX]
  clear hX
  refine (Za C1).mono ?_
  rintro e w1 ⟨rfl,hb1⟩
  have h1:=(hb1.block _ (lt_of_block (Za HX1))).trans (Za HX1)
  have h2:=(hb1.block _ (lt_of_block (Za HX2))).trans (Za HX2)
  have h3:=(hb1.block _ (lt_of_block (Za HX3))).trans (Za HX3)
  have k0:=Zd h1 0 _ rfl
  have b4:=Zd h2 4 _ rfl
  have z0:=Zd h3 0 _ rfl
  have zf:=Zi h3 0
  have l1:=lt_of_block h1
  have l2:=lt_of_block h2
  have l3:=lt_of_block h3
  have HB1:=Zb hb1
  have l12:X.heap.size≤w1.heap.size:=hb1.size
  have hw3:w.heap.size+3≤X.heap.size:=by have:=lt_of_block (Za HX3);omega
  have GB:Hid (∀ W,Gr w1 W (fun q=>q=w.heap.size+2)→Below w.heap.size w W):=fun W g=>g.below (Ze (Za HBX) hb1) (by omega) (fun k e=>by rw[e];omega)
  have KS:Hid (∀ W,Gr w1 W (fun q=>q=w.heap.size+2)→OutOk 24 (w.heap.size+2) W→NmS 24 w1 (w.heap.size) (.slice ka kn kc) (.slice (some ⟨b,off,none⟩) m c) W):=
    fun W g o=>⟨g,Zd (g.heap h1 (by omega)) 0 _ rfl,Zd (g.heap h2 (by omega)) 4 _ rfl,o⟩
  have O1:Hid (OutOk 24 (w.heap.size+2) w1):=⟨_,_,_,h3⟩
  have PT1:=Zb (fun W (g:Gr w1 W (fun q=>q=w.heap.size+2))=>(show Calls Tryz.prog 81 #[.slice (some ⟨b,off,none⟩) m c] W fun e w'=>∃ (B:Nat) (xs:List Value),e = .returned (.slice (some ⟨B,0,none⟩) m m)∧w'.ownsRow B 9 1 (.slice (some ⟨B,0,none⟩) m m) m xs∧xs.length=m∧(∀ j,j<m→xs[j]? = some (txV T j))∧B<w'.heap.size∧w1.heap.size≤B∧Below W.heap.size W w' from
    ((Za PT) W ((Za GB) W g)).mono fun e w' ⟨B,xs,q1,q2,q3,q4,q5,q6,q7⟩=>⟨B,xs,q1,q2,q3,q4,q5,Nat.le_trans g.size q6,q7⟩))
  have AL1:=Zb (fun W al cl (g:Gr w1 W (fun q=>q=w.heap.size+2)) hl=>(Za AL) W al cl ((Za GB) W g) hl)
  have l0:w.heap.size+2<w1.heap.size:=l3
  clear hb1 h1 h2 h3 C1 PT AL z0 zf
  go_wp2_with fail
  go_region_held3 (fun W=>Gr w1 W (fun q=>q=w.heap.size+2)∧W.cell? ⟨w.heap.size,0,none⟩=some (.slice ka kn kc)∧W.cell? ⟨w.heap.size+1,4,none⟩=some (.slice (some ⟨b,off,none⟩) m c)∧OutOk 24 (w.heap.size+2) W)
    (first
    | exact (Za KS) _ (Gr.refl _ _).draw (Za O1)
    | (go_split_ands;exact (Za KS) _ (Gr.new (by assumption) _) (OutOk.later (by assumption) (Zg _ _)))
    | (go_split_ands;exact (Za KS) _ (Gr.on (by assumption) hbc) (OutOk.later (by assumption) hbc))
    | (go_split_ands;exact (Za KS) _ (Gr.grow2 (by assumption) hg5 hB1) (OutOk.grown (by assumption) hg5 hne5))
    | exact (Za KS) _ ((Za HG6).one (w.heap.size+1+1) 0 (.inl rfl) _) (OutOk.put (Za HO6) (w.heap.size+1+1) rfl _ _ _))
    (first
    | (refine step_append_lies _ (by rfl) _ _ _ (by rfl) B4 9 i0 _ 1 16 Tryz.underlying22 ii iz0 iz1 iz2 rfl (by omega) (.slice (some ⟨B4,0,none⟩) m m) m xs4 (by rfl) (ho4.alloc _) ⟨w4.heap.size,0,none⟩ 1 1 [.string t] (by rfl) (by rfl) (World.news_of_block (cs:=#[.string t]) (t:=9) (fr:=(0,0)) (heap_alloc_new w4 _)) (by simp[Value.oneCell']) (by omega) (by unfold maxLen;omega) (by omega) (by simp;omega) (w4.heap.size+1) (by simp) ?_;intro gg cap w5 hown5 hgrow5 hat5 hlt5;have TX:=Zb (Zbi hown5 (Za HZ) hl4 hx4);have hg5:=hgrow5;change World.grownBy _ _ (some B4) at hg5;(have hne5:w.heap.size+2≠B4:=by omega);clear hown5 hat5 hgrow5)
    | (refine step_append_lies _ (by rfl) _ _ _ (by rfl) B4 9 i0 _ 1 16 Tryz.underlying22 ii iz0 iz1 iz2 rfl (by omega) (.slice (some ⟨B4,0,none⟩) m m) m xs4 (by rfl) ho4 ⟨w1.heap.size,0,none⟩ 1 1 [.string t] (by rfl) (by rfl) (World.news_of_block (cs:=#[.string t]) (t:=9) (fr:=(0,0)) hnb4) (by simp[Value.oneCell']) (by omega) (by unfold maxLen;omega) (by omega) (by omega) w4.heap.size (by rfl) ?_;intro gg cap w5 hown5 hgrow5 hat5 hlt5;have TX:=Zb (Zbi hown5 (Za HZ) hl4 hx4);have hg5:=hgrow5;change World.grownBy _ _ (some B4) at hg5;(have hne5:w.heap.size+2≠B4:=by omega);clear hown5 hat5 hgrow5)
    | (go_at_call 81
       refine ((Za PT1) _ ?_).mono ?_
       · go_split_ands
         assumption
       rintro e w4 ⟨B4,xs4,rfl,ho4,hl4,hx4,hB4,hB1,hbc⟩
       try have hnb4:=(hbc.block w1.heap.size (by simp)).trans (heap_alloc_new w1 (.cells #[.string t] 9)))
    | (go_at_call 80
       refine ((Za AL1) _ _ _ ?_ (Za TX)).mono ?_
       · go_split_ands
         assumption
       rintro e w6 ⟨⟨a6,n6,c6,a7,n7,c7,rfl,hT6,sT6,hI6,hn6,hc6⟩,hbc⟩
       have HT6:=Zb hT6
       have HS6:=Zb sT6
       have HI6:=Zb hI6
       have HC6:=Zb hc6
       have HO6:=Zb (OutOk.later (by go_split_ands;assumption) hbc)
       have HG6:=Zb (Gr.on (by go_split_ands;assumption) hbc)
       obtain⟨zz,z6⟩:=(Za HO6).cell
       have zf6:=(Za HO6).free
       clear hT6 sT6 hI6 hc6 hg5 hn6))
  all_goals
    rename_i hH
    obtain⟨hGQ,-,hQ4,hQo⟩:=hH
    have hT7:Bk.TextsAt (w6.setCell ⟨w.heap.size+1+1,0,none⟩ (.slice a6 n6 c6)) a6 n6 M:=M8 (Za HT6) (Za HO6)
    have hI7:Bk.IntsAt (w6.setCell ⟨w.heap.size+1+1,0,none⟩ (.slice a6 n6 c6)) a7 n7 N:=Bz (Za HI6) (Za HO6)
    have hz7:(w6.setCell ⟨w.heap.size+1+1,0,none⟩ (.slice a6 n6 c6)).cell? ⟨w.heap.size+2,0,none⟩=some (.slice a6 n6 c6):=by
      obtain⟨q1,q2,q3,q⟩:=Za HO6
      have:=Rp (u:=.slice a6 n6 c6) q
      simp[World.cell?,this]
    have hf7:=hQo.free
    obtain⟨Q,hQ⟩:∃ Q,Q=w6.setCell ⟨w.heap.size+1+1,0,none⟩ (.slice a6 n6 c6):=⟨_,rfl⟩
    rw[←hQ] at hGQ hQ4 hQo hT7 hI7 hz7 hf7 ⊢
    have hlQ:w.heap.size+2<Q.heap.size:=Nat.lt_of_lt_of_le l0 hGQ.size
    have HGQ:=Zb hGQ
    have HQO:=Zb hQo
    have HT7:=Zb hT7
    have HI7:=Zb hI7
    clear hQ hGQ hQo hT7 hI7 HT6 HI6 HO6 HG6 z6 zf6 TX
    by_cases hx0:x=0
    · subst hx0
      have hNl:=(Za HN) rfl
      have hn7:m+1=n7:=by rw[←hNl];exact (Za HI7).1
      have hc7:n7≤c7:=Za HC6
      obtain⟨b7,o7,rfl,hcs7⟩:=(Za HI7).2 (by omega)
      have hcm:=hcs7 m (by omega)
      have HG:Hid (N.getD m 0=N[m]):=by show _=_;simp[hNl]
      have hr:=Za HR
      rw[if_pos rfl] at hr
      injection hr with r1 r2
      injection r2 with r2 r3
      rw[Za HG] at r2
      rw[r2] at hcm
      subst r1 r3
      have l7:=World.block_lt_of_cell? _ _ hcm
      have hcm2:(Q.setCell ⟨w.heap.size+1+1,0,none⟩ (.slice a6 n6 c6)).cell? ⟨b7,o7+m,none⟩=some (.int .i64 nm):=(Za HQO).other hcm (fun _ _ _ q=>by cases q)
      have hi1:(0:Int)≤(m:Int):=by omega
      have hi2:(m:Int)<(n7:Int):=by omega
      have hi3:(m:Int)≤(c7:Int):=by omega
      have HF:Hid (NmR w (Q.setCell ⟨w.heap.size+2,0,none⟩ (.slice a6 n6 c6)) M nm (N.take m) 0 (.returned (.tuple #[.agg #[.slice a6 n6 c6],.int .i64 nm,.slice (some ⟨b7,o7,none⟩) m c7,.int .i64 0]))):=
        ⟨a6,n6,c6,some ⟨b7,o7,none⟩,m,c7,rfl,M8 (Za HT7) (Za HQO),Za HS6,Bz ⟨by rw[List.length_take];omega,fun _=>⟨b7,o7,rfl,fun i hi=>by
          have:=hcs7 i (by rw[List.length_take] at hi;omega)
          rw[List.getElem_take];exact this⟩⟩ (Za HQO),by omega,(Za GB) _ ((Za HGQ).one (w.heap.size+2) 0 (.inl rfl) _)⟩
      clear hcs7 hNl r2 HI7 HT7 HQO HG HN HR
      go_wp2_with fail
      go_region
      all_goals
        go_wp2
        (try simp only[Exit.inBlock,Exit.then])
        refine bodyPost_ret (v:=.tuple #[.agg #[.slice a6 n6 c6],.int .i64 nm,.slice (some ⟨b7,o7,none⟩) m c7,.int .i64 0]) ?_ rfl ?_
        · rw[Q6 rfl]
          go_simp
        · exact (Za HF).drew
    · have gx:(x != 0)=true:=by simp[hx0]
      have hr:=Za HR
      rw[if_neg hx0] at hr
      injection hr with r1 r2
      injection r2 with r2 r3
      subst r1 r2 r3
      have HF:Hid (Below w.heap.size w (Q.setCell ⟨w.heap.size+1+1,0,none⟩ (.slice none 0 0))):=(Za GB) _ ((Za HGQ).one (w.heap.size+1+1) 0 (.inl rfl) _)
      clear hx0 HN HT7 HI7 HQO HGQ HR
      go_wp2
      (try simp only[Exit.inBlock,Exit.then])
      refine bodyPost_ret (v:=.tuple #[.agg #[.slice none 0 0],.int .i64 0,.slice none 0 0,.int .i64 x]) ?_ rfl ⟨_,_,_,_,_,_,rfl,Bk.TextsAt.nil _ _,Bk.SlOk.nil,Bk.IntsAt.nil _ _,Nat.le_refl _,?_⟩
      · rw[Q6 rfl]
        go_simp
      · exact Za HF
end Go.Proofs.YtpikejjiignchaaGreatDoor
