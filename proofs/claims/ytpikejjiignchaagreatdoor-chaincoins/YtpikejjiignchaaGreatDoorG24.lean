import Derived.Test.YtpikejjiignchaaGreatDoorG21
set_option maxHeartbeats 6400000
set_option maxRecDepth 10000
namespace Go.Proofs.YtpikejjiignchaaGreatDoor
open Go.RowKit
theorem Gi:∀ (l L:List ByteArray) (N:List Int) (M:List ByteArray) (N':List Int),Bk.nmGo L N l=(M,N',0)→N'=N++l.map (fun s=>(Bk.place s M:Int))∧∀ s∈l,0<Bk.place s M∧s.size≤4000
 | [],L,N,M,N',h=>by
  unfold Bk.nmGo at h
  injection h with _ h
  injection h with h _
  exact⟨by simp[h],fun s hs=>by cases hs⟩
 | s :: r,L,N,M,N',h=>by
  rw[Bk.nmGo] at h
  split at h
  ·next q=>
   obtain⟨p1,p2,p3⟩:=Bk.nm_place q
   obtain⟨X,hX⟩:=Bk.nmGo_grows r (Bk.nm L s).1 (N++[(Bk.nm L s).2.1]) (by rw[h])
   rw[h] at hX
   simp only at hX
   obtain⟨h1,h2⟩:=Gi r _ _ M N' h
   have e:Bk.place s M=Bk.place s (Bk.nm L s).1:=by rw[hX];exact Bk.place_stays X p2
   refine⟨?_,fun z hz=>?_⟩
   ·rw[h1,List.append_assoc,p1,←e]
    rfl
   ·rcases List.mem_cons.1 hz with rfl|hz
    ·exact⟨by rw[e];exact p2,p3⟩
    ·exact h2 z hz
  ·next q=>
   injection h with _ h
   injection h with _ h
   exact absurd h q
theorem Dl{K l X:List ByteArray}{N:List Int}(h:Bk.allR K l=(X,N,0)):Bk.Right K∧Bk.nmGo K [] l=(X,N,0):=by
 unfold Bk.allR at h
 split at h
 ·next q=>exact⟨(Bk.right_iff K).1 q,h⟩
 ·next q=>
  injection h with _ h
  injection h with _ h
  exact absurd h q
theorem Zbf{K l X:List ByteArray}{N:List Int}(h:Bk.allR K l=(X,N,0)):Bk.Right X∧∃ M,X=K++M:=by
 obtain⟨h1,h2⟩:=Dl h
 have r:=Bk.nmGo_right l K [] h1 (by rw[h2])
 have g:=Bk.nmGo_grows l K [] (by rw[h2])
 rw[h2] at r g
 exact⟨r,g⟩
theorem Sk{K:List ByteArray}{b:Zk}{X:List ByteArray}{n:Int}{ns:List Int}(h:Qt K b=(X,n,ns,0)):Xb b=0∧Bk.Right X∧(∀ s∈Xl b,0<Bk.place s X∧s.size≤4000)∧n=(Bk.place (Ui b) X:Int)∧ns=b.2.2.2.2.map (fun t=>(Bk.place (Zz t) X:Int))∧∃ M,X=K++M:=by
 unfold Qt at h
 split at h
 ·next q=>
  injection h with _ h
  injection h with _ h
  injection h with _ h
  exact absurd h q
 ·next q=>
  split at h
  ·next q2=>
   injection h with _ h
   injection h with _ h
   injection h with _ h
   exact absurd h q2
  ·next q2=>
   obtain⟨X',N,x,e⟩:∃ X' N x,Bk.allR K (Xl b)=(X',N,x):=⟨_,_,_,rfl⟩
   rw[e] at h q2
   obtain rfl:x=0:=Decidable.not_not.1 q2
   injection h with h1 h
   injection h with h2 h
   injection h with h3 _
   simp only at h1 h2 h3
   subst h1
   obtain⟨r,g⟩:=Zbf e
   obtain⟨p1,p2⟩:=Gi _ _ _ _ _ (Dl e).2
   rw[List.nil_append] at p1
   refine⟨Decidable.not_not.1 q,r,p2,?_,?_,g⟩
   ·rw[←h2,p1]
    simp[Xl]
   ·rw[←h3,p1]
    simp[Xl]
def Vl:List (Int×Int)→List Value
 | []=>[]
 | o :: r=>.int .i64 o.1 :: .int .i64 o.2 :: Vl r
theorem Vc:∀ l:List (Int×Int),(Vl l).length=l.length*2
 | []=>rfl
 | _ :: r=>by simp only[Vl,List.length_cons,Vc r];omega
theorem Sp:∀ (l:List (Int×Int)) (i:Nat),i<l.length→(Vl l)[i*2]? = some (.int .i64 (l.getD i (0,0)).1)∧(Vl l)[i*2+1]? = some (.int .i64 (l.getD i (0,0)).2)
 | [],_,h=>absurd h (by simp)
 | o :: r,0,_=>⟨rfl,rfl⟩
 | o :: r,i+1,h=>by
  have:=Sp r i (by simpa using h)
  rw[show (i+1)*2=i*2+2 by omega]
  simpa[Vl] using this
theorem Py:∀ (l:List (Int×Int)) (u:Value),u∈Vl l→u.oneCell'=true
 | [],u,h=>by cases h
 | o :: r,u,h=>by
  simp only[Vl,List.mem_cons] at h
  rcases h with rfl|rfl|h
  ·rfl
  ·rfl
  ·exact Py r u h
theorem Gu{w:World}{b off n:Nat}{l:List (Int×Int)}(hz:l.length=n)(hc:∀ i,i<n→w.cell? ⟨b,off+i*2,none⟩=some (.int .i64 (l.getD i (0,0)).1)∧w.cell? ⟨b,off+i*2+1,none⟩=some (.int .i64 (l.getD i (0,0)).2))(j:Nat)(u:Value)(hj:(Vl l)[j]? = some u):w.cell? ⟨b,off+j,none⟩=some u:=by
 have hjl:j<l.length*2:=by rw[←Vc];exact (List.getElem?_eq_some_iff.1 hj).1
 obtain⟨f0,f1⟩:=Sp l (j / 2) (by omega)
 obtain⟨c0,c1⟩:=hc (j / 2) (by omega)
 rcases (show j % 2=0∨j % 2=1 by omega) with q|q
 ·have e:j=j / 2*2:=by omega
  rw[←e] at f0 c0
  rw[f0] at hj
  rw[c0,←hj]
 ·have e:j=j / 2*2+1:=by omega
  rw[←e] at f1
  rw[show off+j / 2*2+1=off+j by omega] at c1
  rw[f1] at hj
  rw[c1,←hj]
theorem Hm{w:World}{base:Nat}{v:Value}{n:Nat}{l:List (Int×Int)}(h:w.ownsRow base 122 2 v n (Vl l)):∃ a c,v = .slice a n c∧OpsAt w a n l∧SlOk a n c∧(∀ ad,a=some ad→base≤ad.block):=by
 have hl:l.length=n:=by have:=h.1;rw[Vc] at this;omega
 rcases h.2 with ⟨rfl,rfl⟩|⟨g,cap,cur,rfl,hg,hh,h1,h2,h3,h4⟩
 ·exact⟨none,0,rfl,⟨hl,fun h=>absurd h (by omega)⟩,⟨Nat.le_refl _,Nat.zero_le _,fun _=>⟨rfl,rfl⟩⟩,fun ad e=>by cases e⟩
 ·refine⟨_,cap,rfl,⟨hl,fun _=>⟨g,0,rfl,fun i hi=>?_⟩⟩,⟨h1,h2,fun e=>by cases e⟩,fun ad e=>by cases e;exact hg⟩
  obtain⟨f0,f1⟩:=Sp l i (by omega)
  rw[Nat.zero_add,World.ownsRow.cellAt h _ (by omega),World.ownsRow.cellAt h _ (by omega)]
  exact⟨f0,f1⟩
theorem Tryz.infoOpC:(Tryz.prog.info? 122).map (fun i=>(i.zero,i.size,i.bytes))=some (some (.agg #[.int .i64 0,.int .i64 0]),2,16):=by kernel_rfl
theorem Gy(w:World):Calls Tryz.prog 102 #[.slice none 0 0] w fun e w'=>e = .returned (.slice none 0 0)∧w=w':=by
 have he:=fun w=>Lib.run_eql_slice_nil (P:=Tryz.prog) w 66 122 none 0 0 0 0 Tryz.underlying66
 go_enter Tryz.func102,Tryz.ntmps102
 go_wp2
 go_ret
 exact⟨rfl,rfl⟩
theorem Jm(ad:Addr)(n c:Nat)(l:List (Int×Int))(w:World)(hn:n≤4096)(hz:l.length=n)(hc:∀ j u,(Vl l)[j]? = some u→w.cell? (ad.add j)=some u) :
  Calls Tryz.prog 102 #[.slice (some ad) n c] w fun e w'=>∃ v,e = .returned v∧w'.ownsRow w.heap.size 122 2 v n (Vl l)∧Below w.heap.size w w':=by
 obtain⟨i0,hi,hz0,hz1,hz2⟩:=info_parts Tryz.infoOpC
 have hb:=Zg w (.cells #[] 122)
 have HC:Hid (∀ j u,(Vl l)[j]? = some u→(w.alloc (.cells #[] 122)).cell? (ad.add j)=some u):=fun j u hj=>Zc hb (hc j u hj)
 have HB:=Zb hb
 have HZ:=Zb hz
 have HO:=Zb (U7 w 122 2)
 have he:=fun w=>Lib.run_eql_slice_nil (P:=Tryz.prog) w 66 122 (some ad) n c 0 0 Tryz.underlying66
 clear hc hb hz
 go_enter Tryz.func102,Tryz.ntmps102
 go_wp2_with (at_builtin;refine wpList_append_own _ rfl _ _ 66 rfl w.heap.size 122 i0 (.agg #[.int .i64 0,.int .i64 0]) 2 16 Tryz.underlying66 hi hz0 hz1 hz2 rfl (by decide) _ _ _ rfl (Za HO) ad n c (Vl l) rfl (by rw[Vc,Za HZ]) (Za HC) (Py l) (by unfold maxLen;omega) (by omega) (Za HB).size ?_;intro v2 w3 hown3 hgrow3 _)
 have HW:Hid (w3.ownsRow w.heap.size 122 2 v2 n (Vl l)):=by show World.ownsRow _ _ _ _ _ _ _;simpa using hown3
 have HB3:=Zb ((Za HB).grown hgrow3 (Za HB).size (Yx (Za HO)))
 clear hown3 hgrow3
 go_wp2
 go_ret
 exact⟨v2,rfl,Za HW,Za HB3⟩
theorem Qa(a:Option Addr)(n c:Nat)(l:List (Int×Int))(w:World)(hn:n≤4096)(h:OpsAt w a n l)(hs:SlOk a n c) :
  Calls Tryz.prog 102 #[.slice a n c] w fun e w'=>∃ a' c',e = .returned (.slice a' n c')∧OpsAt w' a' n l∧SlOk a' n c'∧(∀ ad,a'=some ad→w.heap.size≤ad.block)∧Below w.heap.size w w':=by
 obtain⟨hl,hc⟩:=h
 cases a with
 | none=>
  obtain⟨rfl,rfl⟩:=hs.2.2 rfl
  exact (Gy w).mono fun e w' ⟨x,y⟩=>⟨none,0,x,⟨hl,fun h=>absurd h (by omega)⟩,hs,fun ad e=>(by cases e),y ▸ Below.refl _ _⟩
 | some ad=>
  have hc2:∀ j u,(Vl l)[j]? = some u→w.cell? (ad.add j)=some u:=fun j u hj=>by
   have hjl:j<l.length*2:=by rw[←Vc];exact (List.getElem?_eq_some_iff.1 hj).1
   obtain⟨b,off,e,hcell⟩:=hc (by omega)
   cases e
   rw[Addr.add_lit]
   exact Gu hl hcell j u hj
  refine (Jm ad n c l w hn hl hc2).mono ?_
  rintro e w' ⟨v,rfl,x,y⟩
  obtain⟨a',c',rfl,h1,h2,h3⟩:=Hm x
  exact⟨a',c',rfl,h1,h2,h3,y⟩
theorem Rt{fn:Func}{p:Tmp}{ty:TypeId}(h:fn.results=#[.cell p ty])(tmps:Array Value)(P:Program)(w:World) :
  (results fn tmps).run P w=((asAddr (tmps.getD p undef)).run P w).andThen fun a w₁=>(loadVar ty a).run P w₁:=by
 simp only[results,h]
 simp[Sem.run_bind,Result.andThen]
theorem OpsAt.gr{w w':World}{S:Nat→Prop}{a:Option Addr}{n:Nat}{l:List (Int×Int)}(h:OpsAt w a n l)(g:Gr w w' S)(hn:∀ ad,a=some ad→¬S ad.block):OpsAt w' a n l:=by
 refine⟨h.1,fun h0=>?_⟩
 obtain⟨b,off,rfl,hc⟩:=h.2 h0
 refine⟨b,off,rfl,fun i hi=>?_⟩
 obtain⟨c0,c1⟩:=hc i hi
 have hb:=g.block b (World.block_lt_of_cell? _ _ c0) (hn _ rfl)
 exact⟨(World.cell?_of_block (a:=⟨b,off+i*2,none⟩) hb).trans c0,(World.cell?_of_block (a:=⟨b,off+i*2+1,none⟩) hb).trans c1⟩
theorem Tf(x:Int)(a:Option Addr)(n c:Nat)(l:List (Int×Int))(w:World)(hn:n≤4096)(h:OpsAt w a n l)(hs:SlOk a n c) :
  Calls Tryz.prog 103 #[.agg #[.int .i64 x,.slice a n c]] w fun e w'=>∃ a' c',e = .returned (.agg #[.int .i64 x,.slice a' n c'])∧OpsAt w' a' n l∧SlOk a' n c'∧(∀ ad,a'=some ad→w.heap.size≤ad.block)∧Below w.heap.size w w':=by
 obtain⟨X,hX⟩:∃ X,X=(w.alloc (.cells #[.int .i64 x,.slice a n c] 101)).alloc (.cells #[.int .i64 0,.slice none 0 0] 101):=⟨_,rfl⟩
 have hbX:Below w.heap.size w X:=by rw[hX];exact Ze (Zg _ _) (Zg _ _)
 have x0:X.cell? ⟨w.heap.size,0,none⟩=some (.int .i64 x):=by rw[hX];exact Zc (Zg _ _) (Yg w _ _ _).1
 have x1:X.cell? ⟨w.heap.size,1,none⟩=some (.slice a n c):=by rw[hX];exact Zc (Zg _ _) (Yg w _ _ _).2
 have hX1:X.heap[w.heap.size+1]? = some (.cells [.int .i64 0,.slice none 0 0].toArray 101 (0,0)):=by
  rw[hX]
  have:=heap_alloc_new (w.alloc (.cells #[.int .i64 x,.slice a n c] 101)) (.cells #[.int .i64 0,.slice none 0 0] 101)
  rw[show (w.alloc (.cells #[.int .i64 x,.slice a n c] 101)).heap.size=w.heap.size+1 by simp] at this
  exact this
 have C:=Zb (Qa a n c l X.drew hn (h.later (Ze hbX (Zh X))) hs)
 have HX1:=Zb hX1
 have HBX:=Zb hbX
 clear h hs hbX hX1
 go_enter Tryz.func103,Tryz.ntmps103
 go_wp2_with fail
 rw[←hX]
 clear hX
 go_region_with (go_at_call 102;refine (Za C).mono ?_;rintro e w3 ⟨a',c',rfl,ho3,hs3,hb3',hb3⟩;have o2:w3.cell? ⟨w.heap.size,0,none⟩=some (.int .i64 x):=Zc hb3 (Zc (Zh _) x0);have hz3:=(hb3.block _ (lt_of_block (Za HX1))).trans (Za HX1);have c0:=Zd hz3 0 _ rfl;have c1:=Zd hz3 1 _ rfl;have f0:=Zi hz3 0;have f1:=Zi hz3 1;have H3:Hid (OpsAt w3 a' n l∧SlOk a' n c'∧(∀ ad,a'=some ad→X.heap.size≤ad.block)∧Below X.drew.heap.size X.drew w3):=⟨ho3,hs3,hb3',hb3⟩;clear ho3 hs3 hb3' hb3 hz3)
 all_goals
  go_wp2
  (try simp only[Exit.inBlock,Exit.then])
  obtain⟨ho3,hs3,hb3',hb3⟩:=Za H3
  have hG:=((Gr.refl w3 (fun q=>q=w.heap.size+1)).one (w.heap.size+1) 0 (.inl rfl) (.int .i64 x)).one (w.heap.size+1) 1 (.inl rfl) (.slice a' n c')
  have hlt:=lt_of_block (Za HX1)
  refine bodyPost_ret (v:=.agg #[.int .i64 x,.slice a' n c']) ?_ rfl ⟨a',c',rfl,ho3.gr hG (fun ad e q=>?_),hs3,fun ad e=>?_,?_⟩
  ·rw[Rt rfl]
   go_simp
  ·have:=hb3' ad e;omega
  ·have:=hb3' ad e;omega
  ·have hsz:X.heap.size≤w3.heap.size:=hb3.size
   exact hG.below (Ze (Ze (Za HBX) (Zh _)) hb3) (by omega) (fun k hk=>by omega)
theorem Ck(x:Zf)(a:Option Addr)(n c:Nat)(w:World)(hn:n≤4096)(h:OpsAt w a n (ck x))(hs:SlOk a n c) :
  Calls Tryz.prog 89 #[cnV x a n c] w fun e w'=>∃ a' c',e = .returned (cnV x a' n c')∧OpsAt w' a' n (ck x)∧SlOk a' n c'∧(∀ ad,a'=some ad→w.heap.size≤ad.block)∧Below w.heap.size w w':=by
 unfold cnV
 obtain⟨X,hX⟩:∃ X,X=(w.alloc (.cells #[.int .i64 x.1,.int .i64 x.2.1,.int .i64 (cv x),.slice a n c,.int .i64 (ch x),.bool (cr x)] 103)).alloc (.cells #[.int .i64 0,.int .i64 0,.int .i64 0,.slice none 0 0,.int .i64 0,.bool false] 103):=⟨_,rfl⟩
 have hbX:Below w.heap.size w X:=by rw[hX];exact Ze (Zg _ _) (Zg _ _)
 have hX0:X.heap[w.heap.size]? = some (.cells [.int .i64 x.1,.int .i64 x.2.1,.int .i64 (cv x),.slice a n c,.int .i64 (ch x),.bool (cr x)].toArray 103 (0,0)):=by
  rw[hX,Below.heap_alloc _ _ _ (by simp)];exact Qn _ _ _ _ _ _ _ _
 have hX1:X.heap[w.heap.size+1]? = some (.cells zeroCs.toArray 103 (0,0)):=by
  rw[hX]
  have:=heap_alloc_new (w.alloc (.cells #[.int .i64 x.1,.int .i64 x.2.1,.int .i64 (cv x),.slice a n c,.int .i64 (ch x),.bool (cr x)] 103)) (.cells zeroCs.toArray 103)
  rw[show (w.alloc (.cells #[.int .i64 x.1,.int .i64 x.2.1,.int .i64 (cv x),.slice a n c,.int .i64 (ch x),.bool (cr x)] 103)).heap.size=w.heap.size+1 by simp] at this
  exact this
 have C:=Zb (Tf (cv x) a n c (ck x) X hn (h.later hbX) hs)
 have HX0:=Zb hX0
 have HX1:=Zb hX1
 have HBX:=Zb hbX
 have x2:=Zd hX0 2 _ rfl
 have x3:=Zd hX0 3 _ rfl
 clear h hs hbX hX1 hX0
 go_enter Tryz.func89,Tryz.ntmps89
 go_wp2_with fail
 rw[←hX]
 clear hX x2 x3
 refine (Za C).mono ?_
 rintro e w3 ⟨a',c',rfl,ho3,hs3,hb3',hb3⟩
 have h0:=(hb3.block _ (lt_of_block (Za HX0))).trans (Za HX0)
 have h1:=(hb3.block _ (lt_of_block (Za HX1))).trans (Za HX1)
 have c0:=Zd h0 0 _ rfl
 have c1:=Zd h0 1 _ rfl
 have c2:=Zd h0 2 _ rfl
 have c3:=Zd h0 3 _ rfl
 have c4:=Zd h0 4 _ rfl
 have c5:=Zd h0 5 _ rfl
 have f2:=Zi h0 2
 have f3:=Zi h0 3
 have z0:=Zd h1 0 _ rfl
 have z1:=Zd h1 1 _ rfl
 have z2:=Zd h1 2 _ rfl
 have z3:=Zd h1 3 _ rfl
 have z4:=Zd h1 4 _ rfl
 have z5:=Zd h1 5 _ rfl
 have y0:=Zi h1 0
 have y1:=Zi h1 1
 have y2:=Zi h1 2
 have y3:=Zi h1 3
 have y4:=Zi h1 4
 have y5:=Zi h1 5
 have HX2:Hid (w.heap.size+1<X.heap.size):=lt_of_block (Za HX1)
 have H3:Hid (OpsAt w3 a' n (ck x)∧SlOk a' n c'∧(∀ ad,a'=some ad→X.heap.size≤ad.block)∧Below X.heap.size X w3):=⟨ho3,hs3,hb3',hb3⟩
 clear ho3 hs3 hb3' hb3 h0 h1
 go_wp2
 (try simp only[Exit.inBlock,Exit.then])
 obtain⟨ho3,hs3,hb3',hb3⟩:=Za H3
 have hlt:=Za HX2
 have hG:=(((Gr.refl w3 (fun q=>q=w.heap.size∨q=w.heap.size+1)).one w.heap.size 2 (.inl (.inl rfl)) (.int .i64 (cv x))).one w.heap.size 3 (.inl (.inl rfl)) (.slice a' n c')).six (w.heap.size+1) (.inl (.inr rfl)) (.int .i64 x.1) (.int .i64 x.2.1) (.int .i64 (cv x)) (.slice a' n c') (.int .i64 (ch x)) (.bool (cr x))
 refine bodyPost_ret (v:=.agg #[.int .i64 x.1,.int .i64 x.2.1,.int .i64 (cv x),.slice a' n c',.int .i64 (ch x),.bool (cr x)]) ?_ rfl ⟨a',c',rfl,ho3.gr hG (fun ad e q=>?_),hs3,fun ad e=>?_,?_⟩
 ·rw[Rt rfl]
  go_simp
 ·have:=hb3' ad e;rcases q with q|q <;> omega
 ·have:=hb3' ad e;omega
 ·exact hG.below (Ze (Za HBX) hb3) (Nat.le_of_lt (Nat.lt_of_lt_of_le (by omega) hb3.size)) (fun k hk=>by rcases hk with q|q <;> omega)
def LkIn(w:World)(s:Nat)(x:CV):Prop:=LkAt w x∧∀ ad,x.2.1=some ad→s≤ad.block
theorem LkIn.later{w w':World}{s:Nat}{x:CV}(h:LkIn w s x)(hb:Below w.heap.size w w'):LkIn w' s x:=⟨h.1.later hb,h.2⟩
def Fresh(B:Nat)(w:World)(Q:World→Prop):Prop:=∀ w2,Gr w w2 (fun k=>k<B)→Q w2
theorem Kr{w:World}{base:Nat}{e:TypeId}{size:Nat}{v:Value}{n:Nat}{xs:List Value}(h:w.ownsRow base e size v n xs):∃ a c,v = .slice a n c∧SlOk a n c∧(0<n→∃ g,a=some ⟨g,0,none⟩∧base≤g∧g<w.heap.size):=by
 rcases h.2 with ⟨rfl,rfl⟩|⟨g,cap,cur,rfl,hg,hh,h1,h2,h3,h4⟩
 ·exact⟨none,0,rfl,⟨Nat.le_refl _,Nat.zero_le _,fun _=>⟨rfl,rfl⟩⟩,fun h=>absurd h (by omega)⟩
 ·exact⟨_,cap,rfl,⟨h1,h2,fun e=>by cases e⟩,fun _=>⟨g,rfl,hg,lt_of_block hh⟩⟩
theorem Sv(a:Option Addr)(n c:Nat)(L:List Zf)(w:World)(hn:n≤4096)(h:CoinsAt w a n L)(hsl:SlOk a n c)(hk:∀ x∈L,(ck x).length≤4096) :
  Calls Tryz.prog 47 #[.slice a n c] w fun e w'=>∃ a' c',e = .returned (.slice a' n c')∧Fresh w.heap.size w' (fun w2=>CoinsAt w2 a' n L)∧SlOk a' n c'∧Below w.heap.size w w':=by
 have C1:=Zb (R5 a n c L w hn h hsl)
 have HZ:=Zb h.1
 have HK:=Zb hk
 clear h hk hsl
 go_enter Tryz.func47,Tryz.ntmps47
 go_wp2_with fail
 refine (Za C1).mono ?_
 rintro e w2 ⟨v,K,rfl,hK,hlk,hown,hb2⟩
 have hKn:K.length=n:=by rw[←Za HZ,←hK,List.length_map]
 rw[hKn] at hown
 obtain⟨a1,c1,rfl,hs1,hg1⟩:=Kr hown
 obtain⟨G,hG⟩:∃ G,w2.heap.size=G:=⟨_,rfl⟩
 rw[hG] at hg1
 have HG1:=Zb hg1
 have HS1:=Zb hs1
 have HKK:=Zb hK
 have HKL:=Zb hKn
 have HLK:=Zb hlk
 have ST:Hid (w2.ownsRow w.heap.size 103 6 (.slice a1 n c1) n (Zj ([]++K.drop 0))):=hown
 have HB2:=Zb hb2
 have HGl:Hid (G≤w2.heap.size):=Nat.le_of_eq hG.symm
 have HwG:Hid (w.heap.size≤G):=by rw[←hG];exact hb2.size
 clear hown hb2 hK hlk hs1 hg1 C1 hG hKn
 go_wp2_with fail
 go_loopw [9] (fun i wr=>∃ (k:Nat) (T:List CV),k≤n∧i = .int .i64 k∧Hid (T.map (·.1)=L.take k)∧Hid (T.length=k)∧Hid (wr.ownsRow w.heap.size 103 6 (.slice a1 n c1) n (Zj (T++K.drop k)))∧Hid (∀ z∈T,LkIn wr G z)∧Hid (Below w.heap.size w wr)∧Hid (G≤wr.heap.size)) (fun i _=>n - (intOf i).toNat)
 case atStart=>exact⟨0,[],Nat.zero_le _,rfl,rfl,rfl,ST,(fun z hz=>(by cases hz):∀ z∈([]:List CV),LkIn w2 G z),HB2,HGl⟩
 case round=>
  obtain⟨k,T,hk,rfl,HT,HTl,HO,HLk,HB,HGr⟩:=hrel
  clear ST HB2 HGl
  by_cases hlt:k<n
  ·have hlk:k<L.length:=by rw[Za HZ];exact hlt
   have hkK:k<K.length:=by rw[Za HKL];exact hlt
   obtain⟨g,rfl,hgw,hgG⟩:=(Za HG1) (by omega)
   have hKx:(K[k]).1=L[k]:=by
    have:=Za HKK
    subst this
    rw[List.getElem_map]
   have hkl:=(Za HK) _ (List.getElem_mem hlk)
   have hLK:=((Za HLK) _ (List.getElem_mem hkK)).later (Za HB)
   have HTK:Hid (L.take (k+1)=L.take k++[L[k]]):=List.take_succ_eq_append_getElem hlk
   have HR':Hid (T++K.drop k=T++K[k] :: K.drop (k+1)):=by
    show _=_
    rw[List.drop_eq_getElem_cons hkK]
   obtain⟨z,hz⟩:∃ z,K[k]=z:=⟨_,rfl⟩
   rw[hz] at hKx HR' hLK
   rw[←hKx] at HTK hkl
   obtain⟨x,la,ln,lc⟩:=z
   simp only at HTK hkl
   obtain⟨hO4,hs4⟩:=hLK
   simp only at hO4 hs4
   have hln:ln≤4096:=by rw[←hO4.1];exact hkl
   have hTk:=Za HTl
   have hOr:=Za HO
   rw[Za HR'] at hOr
   have har:∀ j,j<6→wr.cell? ⟨g,k*6+j,none⟩=(Al (x,la,ln,lc))[j]?:=fun j hj=>by
    rw[World.ownsRow.cellAt hOr _ (by omega),←hTk,Jk _ _ _ j hj]
   have g0:wr.cell? ⟨g,k*6,none⟩=some (.int .i64 x.1):=(har 0 (by decide)).trans rfl
   have g1:wr.cell? ⟨g,k*6+1,none⟩=some (.int .i64 x.2.1):=(har 1 (by decide)).trans rfl
   have g2:wr.cell? ⟨g,k*6+2,none⟩=some (.int .i64 (cv x)):=(har 2 (by decide)).trans rfl
   have g3:wr.cell? ⟨g,k*6+3,none⟩=some (.slice la ln lc):=(har 3 (by decide)).trans rfl
   have g4:wr.cell? ⟨g,k*6+4,none⟩=some (.int .i64 (ch x)):=(har 4 (by decide)).trans rfl
   have g5:wr.cell? ⟨g,k*6+5,none⟩=some (.bool (cr x)):=(har 5 (by decide)).trans rfl
   obtain⟨X,hX⟩:∃ X,X=wr.alloc (.cells #[.int .i64 x.1,.int .i64 x.2.1,.int .i64 (cv x),.slice la ln lc,.int .i64 (ch x),.bool (cr x)] 103):=⟨_,rfl⟩
   have hbX:Below wr.heap.size wr X:=by rw[hX];exact Zg _ _
   have C:=Ck x la ln lc X hln (hO4.later hbX) hs4
   unfold cnV at C
   have HC:=Zb C
   have HBX:=Zb hbX
   have hkI:(k:Int)<(n:Int):=by omega
   have HOr:=Zb hOr
   clear C hbX hO4 hs4 hkl hOr har hKx hz
   go_wp2_with fail
   rw[←hX]
   clear hX g0 g1 g2 g3 g4 g5
   refine (Za HC).mono ?_
   rintro e w5 ⟨a5,c5,rfl,ho5,hs5,hba5,hb5⟩
   have hbw5:=Ze (Za HBX) hb5
   have hO5:=(Gr.of (S:=fun _=>False) hbw5).own (Za HOr) (fun _ _ q=>q)
   have hat:∀ j,j<6→w5.cell? ⟨g,k*6+j,none⟩=(Al (x,la,ln,lc))[j]?:=fun j hj=>by
    rw[World.ownsRow.cellAt hO5 _ (by omega),←hTk,Jk _ _ _ j hj]
   have t0:w5.cell? ⟨g,k*6,none⟩=some (.int .i64 x.1):=(hat 0 (by decide)).trans rfl
   have t1:w5.cell? ⟨g,k*6+1,none⟩=some (.int .i64 x.2.1):=(hat 1 (by decide)).trans rfl
   have t2:w5.cell? ⟨g,k*6+2,none⟩=some (.int .i64 (cv x)):=(hat 2 (by decide)).trans rfl
   have t3:w5.cell? ⟨g,k*6+3,none⟩=some (.slice la ln lc):=(hat 3 (by decide)).trans rfl
   have t4:w5.cell? ⟨g,k*6+4,none⟩=some (.int .i64 (ch x)):=(hat 4 (by decide)).trans rfl
   have t5:w5.cell? ⟨g,k*6+5,none⟩=some (.bool (cr x)):=(hat 5 (by decide)).trans rfl
   have z0:=hO5.frozenAt (k*6)
   have z1:=hO5.frozenAt (k*6+1)
   have z2:=hO5.frozenAt (k*6+2)
   have z3:=hO5.frozenAt (k*6+3)
   have z4:=hO5.frozenAt (k*6+4)
   have z5:=hO5.frozenAt (k*6+5)
   have hsl5:g<w5.heap.size:=(hO5.lt _ rfl).2
   have TAIL:Hid (∃ T':List CV,Hid (T'.map (·.1)=L.take (k+1))∧Hid (T'.length=k+1)∧Hid (((((((w5.setCell ⟨g,k*6,none⟩ (.int .i64 x.1)).setCell ⟨g,k*6+1,none⟩ (.int .i64 x.2.1)).setCell ⟨g,k*6+2,none⟩ (.int .i64 (cv x))).setCell ⟨g,k*6+3,none⟩ (.slice a5 ln c5)).setCell ⟨g,k*6+4,none⟩ (.int .i64 (ch x))).setCell ⟨g,k*6+5,none⟩ (.bool (cr x))).ownsRow w.heap.size 103 6 (.slice (some ⟨g,0,none⟩) n c1) n (Zj (T'++K.drop (k+1)))) ∧
     Hid (∀ z∈T',LkIn ((((((w5.setCell ⟨g,k*6,none⟩ (.int .i64 x.1)).setCell ⟨g,k*6+1,none⟩ (.int .i64 x.2.1)).setCell ⟨g,k*6+2,none⟩ (.int .i64 (cv x))).setCell ⟨g,k*6+3,none⟩ (.slice a5 ln c5)).setCell ⟨g,k*6+4,none⟩ (.int .i64 (ch x))).setCell ⟨g,k*6+5,none⟩ (.bool (cr x))) G z) ∧
     Hid (Below w.heap.size w ((((((w5.setCell ⟨g,k*6,none⟩ (.int .i64 x.1)).setCell ⟨g,k*6+1,none⟩ (.int .i64 x.2.1)).setCell ⟨g,k*6+2,none⟩ (.int .i64 (cv x))).setCell ⟨g,k*6+3,none⟩ (.slice a5 ln c5)).setCell ⟨g,k*6+4,none⟩ (.int .i64 (ch x))).setCell ⟨g,k*6+5,none⟩ (.bool (cr x)))) ∧
     Hid (G≤((((((w5.setCell ⟨g,k*6,none⟩ (.int .i64 x.1)).setCell ⟨g,k*6+1,none⟩ (.int .i64 x.2.1)).setCell ⟨g,k*6+2,none⟩ (.int .i64 (cv x))).setCell ⟨g,k*6+3,none⟩ (.slice a5 ln c5)).setCell ⟨g,k*6+4,none⟩ (.int .i64 (ch x))).setCell ⟨g,k*6+5,none⟩ (.bool (cr x))).heap.size)):=by
    have hG:=(Gr.refl w5 (fun q=>q=g)).sixAt g (k*6) (.inl rfl) (.int .i64 x.1) (.int .i64 x.2.1) (.int .i64 (cv x)) (.slice a5 ln c5) (.int .i64 (ch x)) (.bool (cr x))
    have hO6:=Zbj hO5 (k*6) (.int .i64 x.1) (.int .i64 x.2.1) (.int .i64 (cv x)) (.slice a5 ln c5) (.int .i64 (ch x)) (.bool (cr x))
    have hset:=Ry T (K.drop (k+1)) (x,la,ln,lc) (x,a5,ln,c5)
    rw[hTk] at hset
    simp only at hset
    rw[hset] at hO6
    have hXs:wr.heap.size≤X.heap.size:=(Za HBX).size
    have hGr:=Za HGr
    have hs5':=hbw5.size
    have hs6:=hG.size
    refine⟨T++[(x,a5,ln,c5)],?_,?_,?_,?_,?_,?_⟩
    ·show _=_;rw[List.map_append,Za HT,Za HTK];rfl
    ·show _=_;rw[List.length_append,hTk];rfl
    ·show World.ownsRow _ _ _ _ _ _ _
     rw[List.append_assoc]
     exact hO6
    ·intro z hz
     rcases List.mem_append.1 hz with hz|hz
     ·have h1:=((Za HLk) z hz).later hbw5
      exact⟨⟨h1.1.1.gr hG (fun ad e q=>by have:=h1.2 ad e;omega),h1.1.2⟩,h1.2⟩
     ·rw[List.mem_singleton.1 hz]
      have h3:∀ ad,a5=some ad→G≤ad.block:=fun ad e=>by have:=hba5 ad e;omega
      exact⟨⟨ho5.gr hG (fun ad e q=>by have:=h3 ad e;omega),hs5⟩,h3⟩
    ·exact hG.below (Ze (Za HB) hbw5) (by have:=Za HwG;omega) (fun q hq=>by omega)
    ·show _≤_;omega
   clear ho5 hs5 hba5 hb5 hbw5 hO5 hat HC HOr
   go_wp2
   go_roundw
   case rel=>
    obtain⟨T',f1,f2,f3,f4,f5,f6⟩:=Za TAIL
    exact⟨k+1,T',by omega,by go_num,f1,f2,f3,f4,f5,f6⟩
   case measure=>simp[intOf];omega
  ·have e:k=n:=by omega
   subst e
   have HR:Hid (Fresh w.heap.size wr (fun w2=>CoinsAt w2 a1 k L)∧SlOk a1 k c1):=by
    have h1:=Za HO
    have hKL:=Za HKL
    rw[List.drop_of_length_le (by omega),List.append_nil,←Za HTl] at h1
    have hF:Fresh w.heap.size wr (fun w2=>CoinsAt w2 a1 k L):=fun w2 hG=>by
     have h2:=hG.own h1 (fun q hq=>by have:=(h1.lt q hq).1;omega)
     obtain⟨a',c',e,h3,_⟩:=Z5 h2 (fun z hz=>⟨((Za HLk) z hz).1.1.gr hG (fun ad e q=>by have:=((Za HLk) z hz).2 ad e;have:=Za HwG;omega),((Za HLk) z hz).1.2⟩)
     cases e
     rw[Za HT,List.take_of_length_le (by rw[Za HZ];exact Nat.le_refl _)] at h3
     rw[Za HTl] at h3
     exact h3
    exact⟨hF,Za HS1⟩
   clear HO HT HTl HLk HG1
   go_wp2
   go_ret
   obtain⟨h1,h2⟩:=Za HR
   exact⟨_,_,rfl,h1,h2,Za HB⟩
def Ac(m i:Nat):Value:=.int .i64 (((i+1) % m:Nat):Int)
theorem Zfb(m:Nat)(w:World)(h0:0<m)(hm:m≤4) :
  Calls Tryz.prog 121 #[.int .i64 m] w fun e w'=>e = .returned (.slice (some ⟨w.heap.size,0,none⟩) m m)∧FillV w.heap.size 3 m (Ac m) w w' m:=by
 obtain⟨i0,hi,hz0,hz1,hz2⟩:=info_parts Tryz.infoInt
 go_enter Tryz.func121,Tryz.ntmps121
 go_wp2_with (at_make;refine wpList_make_full _ rfl _ _ 25 rfl w.heap.size 3 i0 (.int .i64 0) 1 Tryz.underlying25 hi hz0 hz1 .i64 .i64 _ _ m rfl rfl rfl rfl (by rw[hz2];omega) (by unfold maxLen;omega) (Nat.le_refl _) ?_;intro w2 hown2 hgrow2)
 have hst:FillV w.heap.size 3 m (Ac m) w w2 0:=⟨⟨_,hown2,fun j hj=>absurd hj (by omega)⟩,(Below.refl _ _).grown hgrow2 (Nat.le_refl _) (fun k h=>by cases h)⟩
 have HST:=Zb hst
 clear hst hown2 hgrow2
 go_loopw [8] (fun i wr=>∃ k:Nat,k≤m∧i = .int .i64 k∧FillV w.heap.size 3 m (Ac m) w wr k) (fun i _=>m - (intOf i).toNat)
 case atStart=>exact⟨0,Nat.zero_le _,rfl,Za HST⟩
 case round=>
  obtain⟨k,hk,rfl,hfl⟩:=hrel
  have HF:=Zb hfl
  by_cases hlt:k<m
  ·obtain⟨v,hold⟩:=hfl.old hlt
   have hfree:=hfl.free k
   have hl3:=hfl.lt
   have hne:(m:Int)≠0:=by omega
   have hmod:((k:Int)+1).tmod (m:Int)=(((k+1) % m:Nat):Int):=by
    rw[show ((k:Int)+1)=((k+1:Nat):Int) by omega]
    rfl
   have hlm:(k+1) % m<m:=Nat.mod_lt _ h0
   obtain⟨q,hq⟩:∃ q,(k+1) % m=q:=⟨_,rfl⟩
   rw[hq] at hmod hlm
   have HQ:=Zb hq
   clear hfl hq
   go_wp2
   go_roundw
   case rel=>
    refine⟨k+1,by omega,by go_num,(Za HF).step hlt ?_⟩
    unfold Ac
    rw[Za HQ]
   case measure=>simp[intOf];omega
  ·clear hfl
   have e:k=m:=by omega
   subst e
   clear hk hlt
   go_wp2
   go_ret
   exact⟨rfl,Za HF⟩
def rwN:Nat→Nat
 | 0=>64
 | n+1=>rwN n / 2
theorem Pg:∀ n,rwN n≤64
 | 0=>Nat.le_refl _
 | n+1=>by
  have:=Pg n
  unfold rwN
  omega
def rwD(h:Int):Int×Int:=if (decide (1≤h) && decide (h≤1000))=true then ((rwN ((h - 1).toNat / 8):Nat),0) else (0,3)
theorem Zdb(h r x:Int)(w:World)(hx:rwD h=(r,x)) :
  Calls Tryz.prog 66 #[.int .i64 h] w fun e w'=>e = .returned (.tuple #[.int .i64 r,.int .i64 x])∧Below w.heap.size w w':=by
 unfold rwD at hx
 cases q:(decide ((1:Int)≤h) && decide (h≤1000)) with
 | false=>
  rw[q,if_neg (by decide)] at hx
  injection hx with e1 e2
  subst e1 e2
  have CC:=Zb (Xk h 1 1000 false w q)
  clear q
  go_enter Tryz.func66,Tryz.ntmps66
  go_wp2_with fail
  refine (Za CC).mono ?_
  rintro e w1 ⟨rfl,hb1⟩
  have HB:=Zb hb1
  clear hb1
  go_wp2
  go_ret2
  exact⟨rfl,Za HB⟩
 | true=>
  rw[q,if_pos rfl] at hx
  injection hx with e1 e2
  subst e2
  have CC:=Zb (Xk h 1 1000 true w q)
  rw[Bool.and_eq_true,decide_eq_true_eq,decide_eq_true_eq] at q
  obtain⟨k,rfl⟩:∃ k:Nat,h=(k:Int)+1:=⟨(h - 1).toNat,by omega⟩
  have hk:k<1000:=by omega
  rw[show (((k:Int)+1 - 1).toNat)=k by omega] at e1
  obtain⟨n,hn⟩:∃ n,k / 8=n:=⟨_,rfl⟩
  have hq:((k:Int)).tdiv 8=(n:Int):=by rw[←hn];rfl
  have hn2:n≤125:=by omega
  rw[hn] at e1
  have HR:=Zb e1
  clear q e1 hn
  go_enter Tryz.func66,Tryz.ntmps66
  go_wp2_with fail
  refine (Za CC).mono ?_
  rintro e w1 ⟨rfl,hb1⟩
  have HB:=Zb hb1
  clear hb1
  go_wp2
  go_loopw [4,11] (fun v i wr=>∃ j:Nat,j≤n∧v = .int .i64 (rwN j:Nat)∧i = .int .i64 j∧Hid (Below w.heap.size w wr)) (fun _ i _=>n - (intOf i).toNat)
  case atStart=>exact⟨0,Nat.zero_le _,rfl,rfl,HB⟩
  case round=>
   obtain⟨j,hj,rfl,rfl,HBr⟩:=hrel
   have hle:=Pg j
   by_cases hlt:j<n
   ·have hd:((rwN j:Nat):Int).tdiv 2=((rwN (j+1):Nat):Int):=rfl
    have hle2:=Pg (j+1)
    obtain⟨a,ha⟩:∃ a,rwN j=a:=⟨_,rfl⟩
    obtain⟨b,hb⟩:∃ b,rwN (j+1)=b:=⟨_,rfl⟩
    rw[ha,hb] at hd
    rw[ha] at hle
    rw[hb] at hle2
    rw[ha]
    have HBB:=Zb hb
    clear ha hb
    go_wp2
    go_roundw
    case rel=>exact⟨j+1,by omega,by rw[Za HBB],by go_num,HBr⟩
    case measure=>simp[intOf];omega
   ·have e:j=n:=by omega
    subst e
    go_wp2
    go_ret2
    exact⟨by rw[Za HR];rfl,Za HBr⟩
end Go.Proofs.YtpikejjiignchaaGreatDoor
