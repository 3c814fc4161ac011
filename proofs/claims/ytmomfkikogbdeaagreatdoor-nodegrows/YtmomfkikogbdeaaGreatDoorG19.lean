import Derived.Test.YtmomfkikogbdeaaGreatDoorG18
import Derived.Test.YtmomfkikogbdeaaGreatDoorG17
set_option maxHeartbeats 12800000
set_option maxRecDepth 10000
namespace Go.Proofs.YtmomfkikogbdeaaGreatDoor
open Go.RowKit
def Xa:List (Int×Int)→List Value
 | []=>[]
 | o :: r=>.int .i64 o.1 :: .int .i64 o.2 :: Xa r
theorem Xd:∀ l:List (Int×Int),(Xa l).length=l.length*2
 | []=>rfl
 | _ :: r=>by simp only[Xa,List.length_cons,Xd r];omega
theorem Ti:∀ (l:List (Int×Int)) (i:Nat),i<l.length→(Xa l)[i*2]? = some (.int .i64 (l.getD i (0,0)).1)∧(Xa l)[i*2+1]? = some (.int .i64 (l.getD i (0,0)).2)
 | [],_,h=>absurd h (by simp)
 | o :: r,0,_=>⟨rfl,rfl⟩
 | o :: r,i+1,h=>by
  have:=Ti r i (by simpa using h)
  rw[show (i+1)*2=i*2+2 by omega]
  simpa[Xa] using this
theorem Jw:∀ (l:List (Int×Int)) (u:Value),u∈Xa l→u.oneCell'=true
 | [],u,h=>by cases h
 | o :: r,u,h=>by
  simp only[Xa,List.mem_cons] at h
  rcases h with rfl|rfl|h
  ·rfl
  ·rfl
  ·exact Jw r u h
theorem Jg{w:World}{b off n:Nat}{l:List (Int×Int)}(hz:l.length=n)(hc:∀ i,i<n→w.cell? ⟨b,off+i*2,none⟩=some (.int .i64 (l.getD i (0,0)).1)∧w.cell? ⟨b,off+i*2+1,none⟩=some (.int .i64 (l.getD i (0,0)).2))(j:Nat)(u:Value)(hj:(Xa l)[j]? = some u):w.cell? ⟨b,off+j,none⟩=some u:=by
 have hjl:j<l.length*2:=by rw[←Xd];exact (List.getElem?_eq_some_iff.1 hj).1
 obtain⟨f0,f1⟩:=Ti l (j / 2) (by omega)
 obtain⟨c0,c1⟩:=hc (j / 2) (by omega)
 rcases (show j % 2=0∨j % 2=1 by omega) with q|q
 ·have e:j=j / 2*2:=by omega
  rw[←e] at f0 c0
  rw[f0] at hj
  rw[c0,←hj]
 ·have e:j=j / 2*2+1:=by omega
  rw[←e] at f1
  rw[show off+j / 2*2+1=off+j by omega] at c1
  rw[f1] at hj
  rw[c1,←hj]
theorem Jr{w:World}{base:Nat}{v:Value}{n:Nat}{l:List (Int×Int)}(h:w.ownsRow base 164 2 v n (Xa l)):∃ a c,v = .slice a n c∧OpsAt w a n l∧SlOk a n c∧(∀ ad,a=some ad→base≤ad.block):=by
 have hl:l.length=n:=by have:=h.1;rw[Xd] at this;omega
 rcases h.2 with ⟨rfl,rfl⟩|⟨g,cap,cur,rfl,hg,hh,h1,h2,h3,h4⟩
 ·exact⟨none,0,rfl,⟨hl,fun h=>absurd h (by omega)⟩,⟨Nat.le_refl _,Nat.zero_le _,fun _=>⟨rfl,rfl⟩⟩,fun ad e=>by cases e⟩
 ·refine⟨_,cap,rfl,⟨hl,fun _=>⟨g,0,rfl,fun i hi=>?_⟩⟩,⟨h1,h2,fun e=>by cases e⟩,fun ad e=>by cases e;exact hg⟩
  obtain⟨f0,f1⟩:=Ti l i (by omega)
  rw[Nat.zero_add,World.ownsRow.cellAt h _ (by omega),World.ownsRow.cellAt h _ (by omega)]
  exact⟨f0,f1⟩
theorem Tryz.infoOpC:(Tryz.prog.info? 164).map (fun i=>(i.zero,i.size,i.bytes))=some (some (.agg #[.int .i64 0,.int .i64 0]),2,16):=by kernel_rfl
theorem Ji(w:World):Calls Tryz.prog 150 #[.slice none 0 0] w fun e w'=>e = .returned (.slice none 0 0)∧w=w':=by
 have he:=fun w=>Lib.run_eql_slice_nil (P:=Tryz.prog) w 48 164 none 0 0 0 0 Tryz.underlying48
 go_enter Tryz.func150,Tryz.ntmps150
 go_wp2
 go_ret
 exact⟨rfl,rfl⟩
theorem Qt(ad:Addr)(n c:Nat)(l:List (Int×Int))(w:World)(hn:n≤4096)(hz:l.length=n)(hc:∀ j u,(Xa l)[j]? = some u→w.cell? (ad.add j)=some u) :
  Calls Tryz.prog 150 #[.slice (some ad) n c] w fun e w'=>∃ v,e = .returned v∧w'.ownsRow w.heap.size 164 2 v n (Xa l)∧Below w.heap.size w w':=by
 obtain⟨i0,hi,hz0,hz1,hz2⟩:=info_parts Tryz.infoOpC
 have hb:=Zi w (.cells #[] 164)
 have HC:Hid (∀ j u,(Xa l)[j]? = some u→(w.alloc (.cells #[] 164)).cell? (ad.add j)=some u):=fun j u hj=>Ze hb (hc j u hj)
 have HB:=Zb hb
 have HZ:=Zb hz
 have HO:=Zb (Vl w 164 2)
 have he:=fun w=>Lib.run_eql_slice_nil (P:=Tryz.prog) w 48 164 (some ad) n c 0 0 Tryz.underlying48
 clear hc hb hz
 go_enter Tryz.func150,Tryz.ntmps150
 go_wp2_with (at_builtin;refine wpList_append_own _ rfl _ _ 48 rfl w.heap.size 164 i0 (.agg #[.int .i64 0,.int .i64 0]) 2 16 Tryz.underlying48 hi hz0 hz1 hz2 rfl (by decide) _ _ _ rfl (Za HO) ad n c (Xa l) rfl (by rw[Xd,Za HZ]) (Za HC) (Jw l) (by unfold maxLen;omega) (by omega) (Za HB).size ?_;intro v2 w3 hown3 hgrow3 _)
 have HW:Hid (w3.ownsRow w.heap.size 164 2 v2 n (Xa l)):=by show World.ownsRow _ _ _ _ _ _ _;simpa using hown3
 have HB3:=Zb ((Za HB).grown hgrow3 (Za HB).size (Wk (Za HO)))
 clear hown3 hgrow3
 go_wp2
 go_ret
 exact⟨v2,rfl,Za HW,Za HB3⟩
theorem Ul(a:Option Addr)(n c:Nat)(l:List (Int×Int))(w:World)(hn:n≤4096)(h:OpsAt w a n l)(hs:SlOk a n c) :
  Calls Tryz.prog 150 #[.slice a n c] w fun e w'=>∃ a' c',e = .returned (.slice a' n c')∧OpsAt w' a' n l∧SlOk a' n c'∧(∀ ad,a'=some ad→w.heap.size≤ad.block)∧Below w.heap.size w w':=by
 obtain⟨hl,hc⟩:=h
 cases a with
 | none=>
  obtain⟨rfl,rfl⟩:=hs.2.2 rfl
  exact (Ji w).mono fun e w' ⟨x,y⟩=>⟨none,0,x,⟨hl,fun h=>absurd h (by omega)⟩,hs,fun ad e=>(by cases e),y ▸ Below.refl _ _⟩
 | some ad=>
  have hc2:∀ j u,(Xa l)[j]? = some u→w.cell? (ad.add j)=some u:=fun j u hj=>by
   have hjl:j<l.length*2:=by rw[←Xd];exact (List.getElem?_eq_some_iff.1 hj).1
   obtain⟨b,off,e,hcell⟩:=hc (by omega)
   cases e
   rw[Addr.add_lit]
   exact Jg hl hcell j u hj
  refine (Qt ad n c l w hn hl hc2).mono ?_
  rintro e w' ⟨v,rfl,x,y⟩
  obtain⟨a',c',rfl,h1,h2,h3⟩:=Jr x
  exact⟨a',c',rfl,h1,h2,h3,y⟩
theorem Jz{fn:Func}{p:Tmp}{ty:TypeId}(h:fn.results=#[.cell p ty])(tmps:Array Value)(P:Program)(w:World) :
  (results fn tmps).run P w=((asAddr (tmps.getD p undef)).run P w).andThen fun a w₁=>(loadVar ty a).run P w₁:=by
 simp only[results,h]
 simp[Sem.run_bind,Result.andThen]
theorem OpsAt.gr{w w':World}{S:Nat→Prop}{a:Option Addr}{n:Nat}{l:List (Int×Int)}(h:OpsAt w a n l)(g:Gr w w' S)(hn:∀ ad,a=some ad→¬S ad.block):OpsAt w' a n l:=by
 refine⟨h.1,fun h0=>?_⟩
 obtain⟨b,off,rfl,hc⟩:=h.2 h0
 refine⟨b,off,rfl,fun i hi=>?_⟩
 obtain⟨c0,c1⟩:=hc i hi
 have hb:=g.block b (World.block_lt_of_cell? _ _ c0) (hn _ rfl)
 exact⟨(World.cell?_of_block (a:=⟨b,off+i*2,none⟩) hb).trans c0,(World.cell?_of_block (a:=⟨b,off+i*2+1,none⟩) hb).trans c1⟩
theorem Ri(x:Int)(a:Option Addr)(n c:Nat)(l:List (Int×Int))(w:World)(hn:n≤4096)(h:OpsAt w a n l)(hs:SlOk a n c) :
  Calls Tryz.prog 161 #[.agg #[.int .i64 x,.slice a n c]] w fun e w'=>∃ a' c',e = .returned (.agg #[.int .i64 x,.slice a' n c'])∧OpsAt w' a' n l∧SlOk a' n c'∧(∀ ad,a'=some ad→w.heap.size≤ad.block)∧Below w.heap.size w w':=by
 obtain⟨X,hX⟩:∃ X,X=(w.alloc (.cells #[.int .i64 x,.slice a n c] 122)).alloc (.cells #[.int .i64 0,.slice none 0 0] 122):=⟨_,rfl⟩
 have hbX:Below w.heap.size w X:=by rw[hX];exact Zf (Zi _ _) (Zi _ _)
 have x0:X.cell? ⟨w.heap.size,0,none⟩=some (.int .i64 x):=by rw[hX];exact Ze (Zi _ _) (Z7 w _ _ _).1
 have x1:X.cell? ⟨w.heap.size,1,none⟩=some (.slice a n c):=by rw[hX];exact Ze (Zi _ _) (Z7 w _ _ _).2
 have hX1:X.heap[w.heap.size+1]? = some (.cells [.int .i64 0,.slice none 0 0].toArray 122 (0,0)):=by
  rw[hX]
  have:=heap_alloc_new (w.alloc (.cells #[.int .i64 x,.slice a n c] 122)) (.cells #[.int .i64 0,.slice none 0 0] 122)
  rw[show (w.alloc (.cells #[.int .i64 x,.slice a n c] 122)).heap.size=w.heap.size+1 by simp] at this
  exact this
 have C:=Zb (Ul a n c l X.drew hn (h.later (Zf hbX (Zj X))) hs)
 have HX1:=Zb hX1
 have HBX:=Zb hbX
 clear h hs hbX hX1
 go_enter Tryz.func161,Tryz.ntmps161
 go_wp2_with fail
 rw[←hX]
 clear hX
 go_region_with (go_at_call 150;refine (Za C).mono ?_;rintro e w3 ⟨a',c',rfl,ho3,hs3,hb3',hb3⟩;have o2:w3.cell? ⟨w.heap.size,0,none⟩=some (.int .i64 x):=Ze hb3 (Ze (Zj _) x0);have hz3:=(hb3.block _ (lt_of_block (Za HX1))).trans (Za HX1);have c0:=Zd hz3 0 _ rfl;have c1:=Zd hz3 1 _ rfl;have f0:=Zg hz3 0;have f1:=Zg hz3 1;have H3:Hid (OpsAt w3 a' n l∧SlOk a' n c'∧(∀ ad,a'=some ad→X.heap.size≤ad.block)∧Below X.drew.heap.size X.drew w3):=⟨ho3,hs3,hb3',hb3⟩;clear ho3 hs3 hb3' hb3 hz3)
 all_goals
  go_wp2
  (try simp only[Exit.inBlock,Exit.then])
  obtain⟨ho3,hs3,hb3',hb3⟩:=Za H3
  have hG:=((Gr.refl w3 (fun q=>q=w.heap.size+1)).one (w.heap.size+1) 0 (.inl rfl) (.int .i64 x)).one (w.heap.size+1) 1 (.inl rfl) (.slice a' n c')
  have hlt:=lt_of_block (Za HX1)
  refine bodyPost_ret (v:=.agg #[.int .i64 x,.slice a' n c']) ?_ rfl ⟨a',c',rfl,ho3.gr hG (fun ad e q=>?_),hs3,fun ad e=>?_,?_⟩
  ·rw[Jz rfl]
   go_simp
  ·have:=hb3' ad e;omega
  ·have:=hb3' ad e;omega
  ·have hsz:X.heap.size≤w3.heap.size:=hb3.size
   exact hG.below (Zf (Zf (Za HBX) (Zj _)) hb3) (by omega) (fun k hk=>by omega)
theorem Fg(x:Zh)(a:Option Addr)(n c:Nat)(w:World)(hn:n≤4096)(h:OpsAt w a n (ck x))(hs:SlOk a n c) :
  Calls Tryz.prog 139 #[cnV x a n c] w fun e w'=>∃ a' c',e = .returned (cnV x a' n c')∧OpsAt w' a' n (ck x)∧SlOk a' n c'∧(∀ ad,a'=some ad→w.heap.size≤ad.block)∧Below w.heap.size w w':=by
 unfold cnV
 obtain⟨X,hX⟩:∃ X,X=(w.alloc (.cells #[.int .i64 x.1,.int .i64 x.2.1,.int .i64 (cv x),.slice a n c,.int .i64 (ch x),.bool (cr x)] 124)).alloc (.cells #[.int .i64 0,.int .i64 0,.int .i64 0,.slice none 0 0,.int .i64 0,.bool false] 124):=⟨_,rfl⟩
 have hbX:Below w.heap.size w X:=by rw[hX];exact Zf (Zi _ _) (Zi _ _)
 have hX0:X.heap[w.heap.size]? = some (.cells [.int .i64 x.1,.int .i64 x.2.1,.int .i64 (cv x),.slice a n c,.int .i64 (ch x),.bool (cr x)].toArray 124 (0,0)):=by
  rw[hX,Below.heap_alloc _ _ _ (by simp)];exact Wi _ _ _ _ _ _ _ _
 have hX1:X.heap[w.heap.size+1]? = some (.cells zeroCs.toArray 124 (0,0)):=by
  rw[hX]
  have:=heap_alloc_new (w.alloc (.cells #[.int .i64 x.1,.int .i64 x.2.1,.int .i64 (cv x),.slice a n c,.int .i64 (ch x),.bool (cr x)] 124)) (.cells zeroCs.toArray 124)
  rw[show (w.alloc (.cells #[.int .i64 x.1,.int .i64 x.2.1,.int .i64 (cv x),.slice a n c,.int .i64 (ch x),.bool (cr x)] 124)).heap.size=w.heap.size+1 by simp] at this
  exact this
 have C:=Zb (Ri (cv x) a n c (ck x) X hn (h.later hbX) hs)
 have HX0:=Zb hX0
 have HX1:=Zb hX1
 have HBX:=Zb hbX
 have x2:=Zd hX0 2 _ rfl
 have x3:=Zd hX0 3 _ rfl
 clear h hs hbX hX1 hX0
 go_enter Tryz.func139,Tryz.ntmps139
 go_wp2_with fail
 rw[←hX]
 clear hX x2 x3
 refine (Za C).mono ?_
 rintro e w3 ⟨a',c',rfl,ho3,hs3,hb3',hb3⟩
 have h0:=(hb3.block _ (lt_of_block (Za HX0))).trans (Za HX0)
 have h1:=(hb3.block _ (lt_of_block (Za HX1))).trans (Za HX1)
 have c0:=Zd h0 0 _ rfl
 have c1:=Zd h0 1 _ rfl
 have c2:=Zd h0 2 _ rfl
 have c3:=Zd h0 3 _ rfl
 have c4:=Zd h0 4 _ rfl
 have c5:=Zd h0 5 _ rfl
 have f2:=Zg h0 2
 have f3:=Zg h0 3
 have z0:=Zd h1 0 _ rfl
 have z1:=Zd h1 1 _ rfl
 have z2:=Zd h1 2 _ rfl
 have z3:=Zd h1 3 _ rfl
 have z4:=Zd h1 4 _ rfl
 have z5:=Zd h1 5 _ rfl
 have y0:=Zg h1 0
 have y1:=Zg h1 1
 have y2:=Zg h1 2
 have y3:=Zg h1 3
 have y4:=Zg h1 4
 have y5:=Zg h1 5
 have HX2:Hid (w.heap.size+1<X.heap.size):=lt_of_block (Za HX1)
 have H3:Hid (OpsAt w3 a' n (ck x)∧SlOk a' n c'∧(∀ ad,a'=some ad→X.heap.size≤ad.block)∧Below X.heap.size X w3):=⟨ho3,hs3,hb3',hb3⟩
 clear ho3 hs3 hb3' hb3 h0 h1
 go_wp2
 (try simp only[Exit.inBlock,Exit.then])
 obtain⟨ho3,hs3,hb3',hb3⟩:=Za H3
 have hlt:=Za HX2
 have hG:=(((Gr.refl w3 (fun q=>q=w.heap.size∨q=w.heap.size+1)).one w.heap.size 2 (.inl (.inl rfl)) (.int .i64 (cv x))).one w.heap.size 3 (.inl (.inl rfl)) (.slice a' n c')).six (w.heap.size+1) (.inl (.inr rfl)) (.int .i64 x.1) (.int .i64 x.2.1) (.int .i64 (cv x)) (.slice a' n c') (.int .i64 (ch x)) (.bool (cr x))
 refine bodyPost_ret (v:=.agg #[.int .i64 x.1,.int .i64 x.2.1,.int .i64 (cv x),.slice a' n c',.int .i64 (ch x),.bool (cr x)]) ?_ rfl ⟨a',c',rfl,ho3.gr hG (fun ad e q=>?_),hs3,fun ad e=>?_,?_⟩
 ·rw[Jz rfl]
  go_simp
 ·have:=hb3' ad e;rcases q with q|q <;> omega
 ·have:=hb3' ad e;omega
 ·exact hG.below (Zf (Za HBX) hb3) (Nat.le_of_lt (Nat.lt_of_lt_of_le (by omega) hb3.size)) (fun k hk=>by rcases hk with q|q <;> omega)
def LkIn(w:World)(s:Nat)(x:CV):Prop:=LkAt w x∧∀ ad,x.2.1=some ad→s≤ad.block
theorem LkIn.later{w w':World}{s:Nat}{x:CV}(h:LkIn w s x)(hb:Below w.heap.size w w'):LkIn w' s x:=⟨h.1.later hb,h.2⟩
def Fresh(B:Nat)(w:World)(Q:World→Prop):Prop:=∀ w2,Gr w w2 (fun k=>k<B)→Q w2
theorem Zcu{w:World}{base:Nat}{e:TypeId}{size:Nat}{v:Value}{n:Nat}{xs:List Value}(h:w.ownsRow base e size v n xs):∃ a c,v = .slice a n c∧SlOk a n c∧(0<n→∃ g,a=some ⟨g,0,none⟩∧base≤g∧g<w.heap.size):=by
 rcases h.2 with ⟨rfl,rfl⟩|⟨g,cap,cur,rfl,hg,hh,h1,h2,h3,h4⟩
 ·exact⟨none,0,rfl,⟨Nat.le_refl _,Nat.zero_le _,fun _=>⟨rfl,rfl⟩⟩,fun h=>absurd h (by omega)⟩
 ·exact⟨_,cap,rfl,⟨h1,h2,fun e=>by cases e⟩,fun _=>⟨g,rfl,hg,lt_of_block hh⟩⟩
theorem Qs(a:Option Addr)(n c:Nat)(L:List Zh)(w:World)(hn:n≤4096)(h:CoinsAt w a n L)(hsl:SlOk a n c)(hk:∀ x∈L,(ck x).length≤4096) :
  Calls Tryz.prog 66 #[.slice a n c] w fun e w'=>∃ a' c',e = .returned (.slice a' n c')∧Fresh w.heap.size w' (fun w2=>CoinsAt w2 a' n L)∧SlOk a' n c'∧Below w.heap.size w w':=by
 have C1:=Zb (Ra a n c L w hn h hsl)
 have HZ:=Zb h.1
 have HK:=Zb hk
 clear h hk hsl
 go_enter Tryz.func66,Tryz.ntmps66
 go_wp2_with fail
 refine (Za C1).mono ?_
 rintro e w2 ⟨v,K,rfl,hK,hlk,hown,hb2⟩
 have hKn:K.length=n:=by rw[←Za HZ,←hK,List.length_map]
 rw[hKn] at hown
 obtain⟨a1,c1,rfl,hs1,hg1⟩:=Zcu hown
 obtain⟨G,hG⟩:∃ G,w2.heap.size=G:=⟨_,rfl⟩
 rw[hG] at hg1
 have HG1:=Zb hg1
 have HS1:=Zb hs1
 have HKK:=Zb hK
 have HKL:=Zb hKn
 have HLK:=Zb hlk
 have ST:Hid (w2.ownsRow w.heap.size 124 6 (.slice a1 n c1) n (Zn ([]++K.drop 0))):=hown
 have HB2:=Zb hb2
 have HGl:Hid (G≤w2.heap.size):=Nat.le_of_eq hG.symm
 have HwG:Hid (w.heap.size≤G):=by rw[←hG];exact hb2.size
 clear hown hb2 hK hlk hs1 hg1 C1 hG hKn
 go_wp2_with fail
 go_loopw [9] (fun i wr=>∃ (k:Nat) (T:List CV),k≤n∧i = .int .i64 k∧Hid (T.map (·.1)=L.take k)∧Hid (T.length=k)∧Hid (wr.ownsRow w.heap.size 124 6 (.slice a1 n c1) n (Zn (T++K.drop k)))∧Hid (∀ z∈T,LkIn wr G z)∧Hid (Below w.heap.size w wr)∧Hid (G≤wr.heap.size)) (fun i _=>n - (intOf i).toNat)
 case atStart=>exact⟨0,[],Nat.zero_le _,rfl,rfl,rfl,ST,(fun z hz=>(by cases hz):∀ z∈([]:List CV),LkIn w2 G z),HB2,HGl⟩
 case round=>
  obtain⟨k,T,hk,rfl,HT,HTl,HO,HLk,HB,HGr⟩:=hrel
  clear ST HB2 HGl
  by_cases hlt:k<n
  ·have hlk:k<L.length:=by rw[Za HZ];exact hlt
   have hkK:k<K.length:=by rw[Za HKL];exact hlt
   obtain⟨g,rfl,hgw,hgG⟩:=(Za HG1) (by omega)
   have hKx:(K[k]).1=L[k]:=by
    have:=Za HKK
    subst this
    rw[List.getElem_map]
   have hkl:=(Za HK) _ (List.getElem_mem hlk)
   have hLK:=((Za HLK) _ (List.getElem_mem hkK)).later (Za HB)
   have HTK:Hid (L.take (k+1)=L.take k++[L[k]]):=List.take_succ_eq_append_getElem hlk
   have HR':Hid (T++K.drop k=T++K[k] :: K.drop (k+1)):=by
    show _=_
    rw[List.drop_eq_getElem_cons hkK]
   obtain⟨z,hz⟩:∃ z,K[k]=z:=⟨_,rfl⟩
   rw[hz] at hKx HR' hLK
   rw[←hKx] at HTK hkl
   obtain⟨x,la,ln,lc⟩:=z
   simp only at HTK hkl
   obtain⟨hO4,hs4⟩:=hLK
   simp only at hO4 hs4
   have hln:ln≤4096:=by rw[←hO4.1];exact hkl
   have hTk:=Za HTl
   have hOr:=Za HO
   rw[Za HR'] at hOr
   have har:∀ j,j<6→wr.cell? ⟨g,k*6+j,none⟩=(Nq (x,la,ln,lc))[j]?:=fun j hj=>by
    rw[World.ownsRow.cellAt hOr _ (by omega),←hTk,Qq _ _ _ j hj]
   have g0:wr.cell? ⟨g,k*6,none⟩=some (.int .i64 x.1):=(har 0 (by decide)).trans rfl
   have g1:wr.cell? ⟨g,k*6+1,none⟩=some (.int .i64 x.2.1):=(har 1 (by decide)).trans rfl
   have g2:wr.cell? ⟨g,k*6+2,none⟩=some (.int .i64 (cv x)):=(har 2 (by decide)).trans rfl
   have g3:wr.cell? ⟨g,k*6+3,none⟩=some (.slice la ln lc):=(har 3 (by decide)).trans rfl
   have g4:wr.cell? ⟨g,k*6+4,none⟩=some (.int .i64 (ch x)):=(har 4 (by decide)).trans rfl
   have g5:wr.cell? ⟨g,k*6+5,none⟩=some (.bool (cr x)):=(har 5 (by decide)).trans rfl
   obtain⟨X,hX⟩:∃ X,X=wr.alloc (.cells #[.int .i64 x.1,.int .i64 x.2.1,.int .i64 (cv x),.slice la ln lc,.int .i64 (ch x),.bool (cr x)] 124):=⟨_,rfl⟩
   have hbX:Below wr.heap.size wr X:=by rw[hX];exact Zi _ _
   have C:=Fg x la ln lc X hln (hO4.later hbX) hs4
   unfold cnV at C
   have HC:=Zb C
   have HBX:=Zb hbX
   have hkI:(k:Int)<(n:Int):=by omega
   have HOr:=Zb hOr
   clear C hbX hO4 hs4 hkl hOr har hKx hz
   go_wp2_with fail
   rw[←hX]
   clear hX g0 g1 g2 g3 g4 g5
   refine (Za HC).mono ?_
   rintro e w5 ⟨a5,c5,rfl,ho5,hs5,hba5,hb5⟩
   have hbw5:=Zf (Za HBX) hb5
   have hO5:=(Gr.of (S:=fun _=>False) hbw5).own (Za HOr) (fun _ _ q=>q)
   have hat:∀ j,j<6→w5.cell? ⟨g,k*6+j,none⟩=(Nq (x,la,ln,lc))[j]?:=fun j hj=>by
    rw[World.ownsRow.cellAt hO5 _ (by omega),←hTk,Qq _ _ _ j hj]
   have t0:w5.cell? ⟨g,k*6,none⟩=some (.int .i64 x.1):=(hat 0 (by decide)).trans rfl
   have t1:w5.cell? ⟨g,k*6+1,none⟩=some (.int .i64 x.2.1):=(hat 1 (by decide)).trans rfl
   have t2:w5.cell? ⟨g,k*6+2,none⟩=some (.int .i64 (cv x)):=(hat 2 (by decide)).trans rfl
   have t3:w5.cell? ⟨g,k*6+3,none⟩=some (.slice la ln lc):=(hat 3 (by decide)).trans rfl
   have t4:w5.cell? ⟨g,k*6+4,none⟩=some (.int .i64 (ch x)):=(hat 4 (by decide)).trans rfl
   have t5:w5.cell? ⟨g,k*6+5,none⟩=some (.bool (cr x)):=(hat 5 (by decide)).trans rfl
   have z0:=hO5.frozenAt (k*6)
   have z1:=hO5.frozenAt (k*6+1)
   have z2:=hO5.frozenAt (k*6+2)
   have z3:=hO5.frozenAt (k*6+3)
   have z4:=hO5.frozenAt (k*6+4)
   have z5:=hO5.frozenAt (k*6+5)
   have hsl5:g<w5.heap.size:=(hO5.lt _ rfl).2
   have TAIL:Hid (∃ T':List CV,Hid (T'.map (·.1)=L.take (k+1))∧Hid (T'.length=k+1)∧Hid (((((((w5.setCell ⟨g,k*6,none⟩ (.int .i64 x.1)).setCell ⟨g,k*6+1,none⟩ (.int .i64 x.2.1)).setCell ⟨g,k*6+2,none⟩ (.int .i64 (cv x))).setCell ⟨g,k*6+3,none⟩ (.slice a5 ln c5)).setCell ⟨g,k*6+4,none⟩ (.int .i64 (ch x))).setCell ⟨g,k*6+5,none⟩ (.bool (cr x))).ownsRow w.heap.size 124 6 (.slice (some ⟨g,0,none⟩) n c1) n (Zn (T'++K.drop (k+1)))) ∧
     Hid (∀ z∈T',LkIn ((((((w5.setCell ⟨g,k*6,none⟩ (.int .i64 x.1)).setCell ⟨g,k*6+1,none⟩ (.int .i64 x.2.1)).setCell ⟨g,k*6+2,none⟩ (.int .i64 (cv x))).setCell ⟨g,k*6+3,none⟩ (.slice a5 ln c5)).setCell ⟨g,k*6+4,none⟩ (.int .i64 (ch x))).setCell ⟨g,k*6+5,none⟩ (.bool (cr x))) G z) ∧
     Hid (Below w.heap.size w ((((((w5.setCell ⟨g,k*6,none⟩ (.int .i64 x.1)).setCell ⟨g,k*6+1,none⟩ (.int .i64 x.2.1)).setCell ⟨g,k*6+2,none⟩ (.int .i64 (cv x))).setCell ⟨g,k*6+3,none⟩ (.slice a5 ln c5)).setCell ⟨g,k*6+4,none⟩ (.int .i64 (ch x))).setCell ⟨g,k*6+5,none⟩ (.bool (cr x)))) ∧
     Hid (G≤((((((w5.setCell ⟨g,k*6,none⟩ (.int .i64 x.1)).setCell ⟨g,k*6+1,none⟩ (.int .i64 x.2.1)).setCell ⟨g,k*6+2,none⟩ (.int .i64 (cv x))).setCell ⟨g,k*6+3,none⟩ (.slice a5 ln c5)).setCell ⟨g,k*6+4,none⟩ (.int .i64 (ch x))).setCell ⟨g,k*6+5,none⟩ (.bool (cr x))).heap.size)):=by
    have hG:=(Gr.refl w5 (fun q=>q=g)).sixAt g (k*6) (.inl rfl) (.int .i64 x.1) (.int .i64 x.2.1) (.int .i64 (cv x)) (.slice a5 ln c5) (.int .i64 (ch x)) (.bool (cr x))
    have hO6:=Cg hO5 (k*6) (.int .i64 x.1) (.int .i64 x.2.1) (.int .i64 (cv x)) (.slice a5 ln c5) (.int .i64 (ch x)) (.bool (cr x))
    have hset:=J6 T (K.drop (k+1)) (x,la,ln,lc) (x,a5,ln,c5)
    rw[hTk] at hset
    simp only at hset
    rw[hset] at hO6
    have hXs:wr.heap.size≤X.heap.size:=(Za HBX).size
    have hGr:=Za HGr
    have hs5':=hbw5.size
    have hs6:=hG.size
    refine⟨T++[(x,a5,ln,c5)],?_,?_,?_,?_,?_,?_⟩
    ·show _=_;rw[List.map_append,Za HT,Za HTK];rfl
    ·show _=_;rw[List.length_append,hTk];rfl
    ·show World.ownsRow _ _ _ _ _ _ _
     rw[List.append_assoc]
     exact hO6
    ·intro z hz
     rcases List.mem_append.1 hz with hz|hz
     ·have h1:=((Za HLk) z hz).later hbw5
      exact⟨⟨h1.1.1.gr hG (fun ad e q=>by have:=h1.2 ad e;omega),h1.1.2⟩,h1.2⟩
     ·rw[List.mem_singleton.1 hz]
      have h3:∀ ad,a5=some ad→G≤ad.block:=fun ad e=>by have:=hba5 ad e;omega
      exact⟨⟨ho5.gr hG (fun ad e q=>by have:=h3 ad e;omega),hs5⟩,h3⟩
    ·exact hG.below (Zf (Za HB) hbw5) (by have:=Za HwG;omega) (fun q hq=>by omega)
    ·show _≤_;omega
   clear ho5 hs5 hba5 hb5 hbw5 hO5 hat HC HOr
   go_wp2
   go_roundw
   case rel=>
    obtain⟨T',f1,f2,f3,f4,f5,f6⟩:=Za TAIL
    exact⟨k+1,T',by omega,by go_num,f1,f2,f3,f4,f5,f6⟩
   case measure=>simp[intOf];omega
  ·have e:k=n:=by omega
   subst e
   have HR:Hid (Fresh w.heap.size wr (fun w2=>CoinsAt w2 a1 k L)∧SlOk a1 k c1):=by
    have h1:=Za HO
    have hKL:=Za HKL
    rw[List.drop_of_length_le (by omega),List.append_nil,←Za HTl] at h1
    have hF:Fresh w.heap.size wr (fun w2=>CoinsAt w2 a1 k L):=fun w2 hG=>by
     have h2:=hG.own h1 (fun q hq=>by have:=(h1.lt q hq).1;omega)
     obtain⟨a',c',e,h3,_⟩:=Wn h2 (fun z hz=>⟨((Za HLk) z hz).1.1.gr hG (fun ad e q=>by have:=((Za HLk) z hz).2 ad e;have:=Za HwG;omega),((Za HLk) z hz).1.2⟩)
     cases e
     rw[Za HT,List.take_of_length_le (by rw[Za HZ];exact Nat.le_refl _)] at h3
     rw[Za HTl] at h3
     exact h3
    exact⟨hF,Za HS1⟩
   clear HO HT HTl HLk HG1
   go_wp2
   go_ret
   obtain⟨h1,h2⟩:=Za HR
   exact⟨_,_,rfl,h1,h2,Za HB⟩
theorem R5:∀ (L:List Zh) (k:Nat),(∀ c∈L,0≤cv c∧cv c≤1000000000)→0≤Zo (L.take k)∧Zo (L.take k)≤1000000000*(k:Int)
 | [],k,_=>by simp[Zo];omega
 | c :: r,0,_=>by simp[Zo]
 | c :: r,k+1,h=>by
  have h1:=h c (List.mem_cons_self ..)
  have h2:=R5 r k (fun x hx=>h x (List.mem_cons_of_mem _ hx))
  rw[List.take_succ_cons,Y0]
  omega
theorem L7:∀ (L:List Z0) (k:Nat),(∀ c∈L,0≤c.1∧c.1≤1000000000)→0≤Yw (L.take k)∧Yw (L.take k)≤1000000000*(k:Int)
 | [],k,_=>by simp[Yw];omega
 | c :: r,0,_=>by simp[Yw]
 | c :: r,k+1,h=>by
  have h1:=h c (List.mem_cons_self ..)
  have h2:=L7 r k (fun x hx=>h x (List.mem_cons_of_mem _ hx))
  rw[List.take_succ_cons]
  have e:Yw (c :: r.take k)=c.1+Yw (r.take k):=by simp[Yw]
  rw[e]
  omega
theorem Zay(sa:Option Addr)(ns cs:Nat)(S:List Zh)(ht:Int)(ai ao:Option Addr)(ni ci no co:Nat)(O:List Z0)(x:Int)(w:World)(hns:ns≤6)(hno:no≤6)(hS:CoinsAt w sa ns S)(hO:OutsAt w ao no O)
  (hs:∀ c∈S,0≤cv c∧cv c≤1000000000) (ho:∀ c∈O,0≤c.1∧c.1≤1000000000) (hx:(if Zo S - Yw O<0∧decide (ni=0)=false then 9 else 0)=x) :
  Calls Tryz.prog 147 #[.slice sa ns cs,.agg #[.int .i64 ht,.slice ai ni ci,.slice ao no co]] w fun e w'=>e = .returned (.int .i64 x)∧Below w.heap.size w w':=by
 obtain⟨X0,hX0⟩:∃ X0,X0=w.alloc (.cells #[.int .i64 ht,.slice ai ni ci,.slice ao no co] 59):=⟨_,rfl⟩
 have hb0:Below w.heap.size w X0:=by rw[hX0];exact Zi _ _
 have hX1:X0.heap[w.heap.size]? = some (.cells [.int .i64 ht,.slice ai ni ci,.slice ao no co].toArray 59 (0,0)):=by rw[hX0];exact Zu _ _ _ _ _
 have HSB:=Zb (fun k=>R5 S k hs)
 have HOB:=Zb (fun k=>L7 O k ho)
 have HS:=Zb (hS.later hb0)
 have HO:=Zb (hO.later hb0)
 have HZS:=Zb hS.1
 have HZO:=Zb hO.1
 have HX:=Zb hx
 have HX1:=Zb hX1
 have HB0:=Zb hb0
 clear hS hO hs ho hx hX1 hb0
 go_enter Tryz.func147,Tryz.ntmps147
 go_wp2
 rw[←hX0]
 clear hX0
 go_loopw [5,12] (fun sv i wr=>∃ (k:Nat) (s:Int),k≤ns∧sv = .int .i64 s∧i = .int .i64 k∧Hid (s=Zo (S.take k))∧Hid (Below X0.heap.size X0 wr)) (fun _ i _=>ns - (intOf i).toNat)
 case atStart=>exact⟨0,0,Nat.zero_le _,rfl,rfl,rfl,Below.refl _ _⟩
 case round=>
  obtain⟨k,s,hk,rfl,rfl,A,HB⟩:=hrel
  by_cases hlt:k<ns
  ·have hlk:k<S.length:=by rw[Za HZS];exact hlt
   obtain⟨b,off,rfl,hbl,hcell⟩:=(Za HS).2 (by omega)
   have hin:=CoinAt.kept _ _ _ _ _ (Za HB) (hcell k hlk)
   have b1:=(Za HSB) k
   have b2:=(Za HSB) (k+1)
   have hst:=Tz S k hlk
   obtain⟨c,hc⟩:∃ c,S[k]=c:=⟨_,rfl⟩
   rw[hc] at hin hst
   obtain⟨la,ln,lc,g0,g1,g2,g3,g4,g5,_,_⟩:=hin.val
   obtain⟨v,hv⟩:∃ v,cv c=v:=⟨_,rfl⟩
   rw[hv] at g2 hst
   rw[←Za A] at b1 hst
   rw[hst] at b2
   have A2:Hid (s+v=Zo (S.take (k+1))):=hst.symm
   have HB2:=Zb (Zf (Za HB) (Zi wr (.cells #[.int .i64 c.1,.int .i64 c.2.1,.int .i64 v,.slice la ln lc,.int .i64 (ch c),.bool (cr c)] 124)))
   have hw1:IntKind.i64.wrap (s+v)=s+v:=by rw[IntKind.wrap_i64];omega
   clear hin hc hst A HB
   go_wp2
   go_roundw
   case rel=>exact⟨k+1,s+v,by omega,rfl,by go_num,A2,HB2⟩
   case measure=>simp[intOf];omega
  ·have e:k=ns:=by omega
   subst e
   have A2:Hid (s=Zo S):=by
    show _=_
    rw[Za A,List.take_of_length_le (by rw[Za HZS];exact Nat.le_refl _)]
   have b1:=(Za HSB) k
   rw[←Za A] at b1
   have hh:=((Za HB).block _ (lt_of_block (Za HX1))).trans (Za HX1)
   have c2:=Zd hh 2 _ rfl
   have hl:=lt_of_block hh
   clear A hh
   go_wp2
   go_loopw [5,25] (fun sv i wr2=>∃ (j:Nat) (d:Int),j≤no∧sv = .int .i64 d∧i = .int .i64 j∧Hid (d=s - Yw (O.take j))∧Hid (Below X0.heap.size X0 wr2)) (fun _ i _=>no - (intOf i).toNat)
   case atStart=>exact⟨0,s,Nat.zero_le _,rfl,rfl,(by simp[Yw]:s=s - Yw (O.take 0)),HB⟩
   case round=>
    obtain⟨j,d,hj,rfl,rfl,D,HD⟩:=hrel
    clear HB
    have hbd:=Za HD
    by_cases hlt:j<no
    ·have hlk:j<O.length:=by rw[Za HZO];exact hlt
     obtain⟨b,off,rfl,hbl,hcell⟩:=(Za HO).2 (by omega)
     have hin:=OutAt.kept _ _ _ _ _ hbd (hcell j hlk)
     have d1:=(Za HOB) j
     have d2:=(Za HOB) (j+1)
     have hst:=K9 O j hlk
     obtain⟨o,hc⟩:∃ o,O[j]=o:=⟨_,rfl⟩
     rw[hc] at hin hst
     obtain⟨q1,q2⟩:=o
     obtain⟨g0,la,ln,lc,g1,_,_⟩:=hin
     simp only at g0 g1 hst
     have hd:d=s - Yw (O.take j):=Za D
     have A3:Hid (d - q1=s - Yw (O.take (j+1))):=by show _=_;rw[hst];omega
     have HB2:=Zb (Zf (Za HD) (Zi wr (.cells #[.int .i64 q1,.slice la ln lc] 122)))
     have hw1:IntKind.i64.wrap (d - q1)=d - q1:=by rw[IntKind.wrap_i64];omega
     clear hc hst D HD hd d1 d2 hbd
     go_wp2
     go_roundw
     case rel=>exact⟨j+1,d - q1,by omega,rfl,by go_num,A3,HB2⟩
     case measure=>simp[intOf];omega
    ·have e:j=no:=by omega
     subst e
     have hd:d=Zo S - Yw O:=by
      have:=Za D
      rw[List.take_of_length_le (by rw[Za HZO];exact Nat.le_refl _),Za A2] at this
      exact this
     have hx:=Za HX
     rw[←hd] at hx
     have hh:=(hbd.block _ (lt_of_block (Za HX1))).trans (Za HX1)
     have e0:=Zd hh 0 _ rfl
     have e1:=Zd hh 1 _ rfl
     have e2:=Zd hh 2 _ rfl
     have hl2:=lt_of_block hh
     have HBD:=Zb (Zf (Za HB0) hbd)
     have IR:=Zb (fun w=>Jc ht ai ao ni ci j co (decide (ni=0)) w rfl)
     clear hh hbd D hd
     by_cases hneg:d<0
     ·cases hr:decide (ni=0) with
      | true=>
       have R:Hid (x=0):=by show _=_;rw[←hx,if_neg (by rw[hr];simp)]
       rw[hr] at IR
       clear hx hr
       go_wp2_with fail
       refine ((Za IR) _).mono ?_
       rintro e w3 ⟨rfl,hb3⟩
       have HB3:=Zb (Zf (Za HBD) hb3)
       clear hb3
       go_wp2
       go_ret
       exact⟨by rw[Za R];rfl,Za HB3⟩
      | false=>
       have R:Hid (x=9):=by show _=_;rw[←hx,if_pos ⟨hneg,hr⟩]
       rw[hr] at IR
       clear hx hr
       go_wp2_with fail
       refine ((Za IR) _).mono ?_
       rintro e w3 ⟨rfl,hb3⟩
       have HB3:=Zb (Zf (Za HBD) hb3)
       clear hb3
       go_wp2
       go_ret
       exact⟨by rw[Za R];rfl,Za HB3⟩
     ·have R:Hid (x=0):=by show _=_;rw[←hx,if_neg (fun q=>hneg q.1)]
      clear hx
      go_wp2
      go_ret
      exact⟨by rw[Za R];rfl,Za HBD⟩
def UndoAt(w:World)(b o:Nat)(s:List Zh):Prop:=∃ a n c,w.cell? ⟨b,o,none⟩=some (.slice a n c)∧CoinsAt w a n s∧SlOk a n c
theorem UndoAt.kept{w w':World}{b o:Nat}{s:List Zh}(hb:Below w.heap.size w w')(h:UndoAt w b o s):UndoAt w' b o s:=by
 obtain⟨a,n,c,h1,h2,h3⟩:=h
 exact⟨a,n,c,Ze hb h1,h2.later hb,h3⟩
def Xo(r:Int)(T:List TxD)(S:List (List Zh))(k:Nat):Int:=r+Zo (S.take k).flatten - Yw ((T.take k).map (·.2.2)).flatten
theorem Ue(L M:List Z0):Yw (L++M)=Yw L+Yw M:=by simp[Yw]
theorem Ax(r:Int)(T:List TxD)(S:List (List Zh)):Xo r T S 0=r:=by simp[Xo,Zo,Yw]
theorem Ay(r:Int)(T:List TxD)(S:List (List Zh))(k:Nat)(hT:k<T.length)(hS:k<S.length):Xo r T S (k+1)=Xo r T S k+Zo S[k] - Yw T[k].2.2:=by
 unfold Xo
 rw[List.take_succ_eq_append_getElem hT,List.take_succ_eq_append_getElem hS,List.map_append,List.flatten_append,List.flatten_append,Xg,Ue]
 simp
 omega
theorem Bi(p h k n:Int)(b off m c:Nat)(T:List TxD)(ub uo um uc:Nat)(S:List (List Zh))(r:Int)(o:Bool)(w:World)(hz:T.length=m)(hm:m≤4)(hcT:∀ i (h:i<T.length),TxAt w b (off+i*3) T[i])(hzS:S.length=m)(hum:um=m)
  (hcS:∀ i (h:i<S.length),UndoAt w ub (uo+i) S[i]) (hT:∀ t∈T,t.2.2.length≤6∧∀ x∈t.2.2,0≤x.1∧x.1≤1000000000) (hS:∀ s∈S,s.length≤6∧∀ x∈s,0≤cv x∧cv x≤1000000000) (hr:rwD h=(r,0)) (ho:decide (0≤Xo r T S m)=o) :
  Calls Tryz.prog 75 #[.agg #[.int .i64 p,.int .i64 h,.int .i64 k,.int .i64 n,.slice (some ⟨b,off,none⟩) m c],.slice (some ⟨ub,uo,none⟩) um uc] w fun e w'=>e = .returned (.bool o)∧Below w.heap.size w w':=by
 subst hum
 have hr64:0≤r∧r≤64:=by
  unfold rwD at hr
  split at hr
  ·injection hr with e _
   have:=T8 ((h - 1).toNat / 8)
   omega
  ·injection hr with _ e;cases e
 obtain⟨X,hX⟩:∃ X,X=w.alloc (.cells #[.int .i64 p,.int .i64 h,.int .i64 k,.int .i64 n,.slice (some ⟨b,off,none⟩) um c] 39):=⟨_,rfl⟩
 have hbX:Below w.heap.size w X:=by rw[hX];exact Zi _ _
 have hX1:X.heap[w.heap.size]? = some (.cells [.int .i64 p,.int .i64 h,.int .i64 k,.int .i64 n,.slice (some ⟨b,off,none⟩) um c].toArray 39 (0,0)):=by rw[hX];exact Zv _ _ _ _ _ _ _
 have RW:=Zb (fun W=>Sa h r 0 W hr)
 have HX1:=Zb hX1
 have HBX:=Zb hbX
 have HCT:Hid (∀ i (h:i<T.length),TxAt X b (off+i*3) T[i]):=fun i hi=>TxAt.kept _ _ _ _ _ hbX (hcT i hi)
 have HCS:Hid (∀ i (h:i<S.length),UndoAt X ub (uo+i) S[i]):=fun i hi=>(hcS i hi).kept hbX
 have HT:=Zb hT
 have HS:=Zb hS
 have HZ:=Zb hz
 have HZS:=Zb hzS
 have HO:=Zb ho
 clear hX1 hbX hcT hcS hT hS hz hzS ho hr
 go_enter Tryz.func75,Tryz.ntmps75
 go_wp2_with fail
 rw[←hX]
 clear hX
 refine ((Za RW) _).mono ?_
 rintro e w1 ⟨rfl,hb1⟩
 have hx1:=(hb1.block _ (lt_of_block (Za HX1))).trans (Za HX1)
 have c4:=Zd hx1 4 _ rfl
 have cl:=lt_of_block hx1
 have HB1:=Zb hb1
 clear hb1 hx1
 go_wp2
 go_loopw [5,22] (fun sv i wr=>∃ (j:Nat) (d:Int),j≤um∧sv = .int .i64 d∧i = .int .i64 j∧Hid (d=Xo r T S j)∧-(6000000000*(j:Int))≤d∧d≤64+6000000000*(j:Int)∧Hid (Below X.heap.size X wr)) (fun _ i _=>um - (intOf i).toNat)
 case atStart=>exact⟨0,r,Nat.zero_le _,rfl,rfl,(Ax r T S).symm,by omega,by omega,HB1⟩
 case round=>
  obtain⟨j,d,hj,rfl,rfl,A,d1,d2,HBr⟩:=hrel
  clear c4 cl HB1
  by_cases hlt:j<um
  ·have hlT:j<T.length:=by rw[Za HZ];exact hlt
   have hlS:j<S.length:=by rw[Za HZS];exact hlt
   have hin:=TxAt.kept _ _ _ _ _ (Za HBr) ((Za HCT) j hlT)
   have hun:=((Za HCS) j hlS).kept (Za HBr)
   have bT:=(Za HT) T[j] (List.getElem_mem _)
   have bS:=(Za HS) S[j] (List.getElem_mem _)
   have ST:=Zb (Ay r T S j hlT hlS)
   obtain⟨t,ht⟩:∃ t,T[j]=t:=⟨_,rfl⟩
   obtain⟨s,hs⟩:∃ s,S[j]=s:=⟨_,rfl⟩
   rw[ht] at hin bT ST
   rw[hs] at hun bS ST
   obtain⟨t1,I,O⟩:=t
   obtain⟨g0,⟨ai,ni,ci,g1,hI,_⟩,ao,no,co,g2,hO,_⟩:=hin
   obtain⟨sa,sn,sc,gs,hC,_⟩:=hun
   simp only at g0 g1 g2 hI hO bT ST
   obtain⟨Y,hY⟩:∃ Y,Y=wr.alloc (.cells #[.int .i64 t1,.slice ai ni ci,.slice ao no co] 59):=⟨_,rfl⟩
   have hbY:Below wr.heap.size wr Y:=by rw[hY];exact Zi _ _
   have hY1:Y.heap[wr.heap.size]? = some (.cells [.int .i64 t1,.slice ai ni ci,.slice ao no co].toArray 59 (0,0)):=by rw[hY];exact Zu _ _ _ _ _
   have HY1:=Zb hY1
   have HBY:=Zb (Zf (Za HBr) hbY)
   have HCY:=Zb (hC.later hbY)
   have HOY:=Zb (hO.later hbY)
   have gsY:=Ze hbY gs
   have gl:=World.block_lt_of_cell? _ _ gs
   have glY:=World.block_lt_of_cell? _ _ gsY
   have HSB:=Zb (fun k=>R5 s k bS.2)
   have HOB:=Zb (fun k=>L7 O k bT.2)
   have hsn:sn≤6:=by rw[←hC.1];exact bS.1
   have hno:no≤6:=by rw[←hO.1];exact bT.1
   have hjI:(j:Int)<(um:Int):=by omega
   clear hbY hY1 hI hO hC ht hs bT bS
   go_wp2_with fail
   rw[←hY]
   clear hY
   go_wp2
   go_loopw [5,33] (fun sv i w2=>∃ (k2:Nat) (d2:Int),k2≤sn∧sv = .int .i64 d2∧i = .int .i64 k2∧Hid (d2=d+Zo (s.take k2))∧Hid (Below Y.heap.size Y w2)) (fun _ i _=>sn - (intOf i).toNat)
   case atStart=>exact⟨0,d,Nat.zero_le _,rfl,rfl,(by simp[Zo]:d=d+Zo (s.take 0)),(Below.refl _ _:Below Y.heap.size Y Y)⟩
   case round=>
    obtain⟨q,e,hq,rfl,rfl,D,HD⟩:=hrel
    clear g0 g1 g2 gs gsY gl glY
    by_cases hlt2:q<sn
    ·have hlk:q<s.length:=by rw[(Za HCY).1];exact hlt2
     obtain⟨b2,o2,rfl,_,hcell⟩:=(Za HCY).2 (by omega)
     have hin:=CoinAt.kept _ _ _ _ _ (Za HD) (hcell q hlk)
     have b1:=(Za HSB) q
     have b2':=(Za HSB) (q+1)
     have hst:=Tz s q hlk
     obtain⟨y,hy⟩:∃ y,s[q]=y:=⟨_,rfl⟩
     rw[hy] at hin hst
     obtain⟨la,ln,lc,f0,f1,f2,f3,f4,f5,_,_⟩:=hin.val
     obtain⟨v,hv⟩:∃ v,cv y=v:=⟨_,rfl⟩
     rw[hv] at f2 hst
     have hd:e=d+Zo (s.take q):=Za D
     have A2:Hid (e+v=d+Zo (s.take (q+1))):=by show _=_;rw[hst];omega
     have HB2:=Zb (Zf (Za HD) (Zi wr (.cells #[.int .i64 y.1,.int .i64 y.2.1,.int .i64 v,.slice la ln lc,.int .i64 (ch y),.bool (cr y)] 124)))
     have hw1:IntKind.i64.wrap (e+v)=e+v:=by rw[IntKind.wrap_i64];omega
     clear hin hy hst D HD hd b1 b2' hcell
     go_wp2
     go_roundw
     case rel=>exact⟨q+1,e+v,by omega,rfl,by go_num,A2,HB2⟩
     case measure=>simp[intOf];omega
    ·have e0:q=sn:=by omega
     subst e0
     have A2:Hid (e=d+Zo s):=by
      show _=_
      rw[Za D,List.take_of_length_le (by rw[(Za HCY).1];exact Nat.le_refl _)]
     have b1:=(Za HSB) q
     have eb:0≤e - d∧e - d≤6000000000:=by
      have:=Za D
      omega
     have hh:=((Za HD).block _ (lt_of_block (Za HY1))).trans (Za HY1)
     have f2:=Zd hh 2 _ rfl
     have hl:=lt_of_block hh
     clear D hh b1
     go_wp2
     go_loopw [5,46] (fun sv i w3=>∃ (k3:Nat) (d3:Int),k3≤no∧sv = .int .i64 d3∧i = .int .i64 k3∧Hid (d3=e - Yw (O.take k3))∧Hid (Below Y.heap.size Y w3)) (fun _ i _=>no - (intOf i).toNat)
     case atStart=>exact⟨0,e,Nat.zero_le _,rfl,rfl,(by simp[Yw]:e=e - Yw (O.take 0)),HD⟩
     case round=>
      obtain⟨u,g,hu,rfl,rfl,G,HG⟩:=hrel
      clear f2 hl HD
      by_cases hlt3:u<no
      ·have hlk:u<O.length:=by rw[(Za HOY).1];exact hlt3
       obtain⟨b3,o3,rfl,_,hcell⟩:=(Za HOY).2 (by omega)
       have hin:=OutAt.kept _ _ _ _ _ (Za HG) (hcell u hlk)
       have x1:=(Za HOB) u
       have x2:=(Za HOB) (u+1)
       have hst:=K9 O u hlk
       obtain⟨y,hy⟩:∃ y,O[u]=y:=⟨_,rfl⟩
       rw[hy] at hin hst
       obtain⟨q1,q2⟩:=y
       obtain⟨f0,la,ln,lc,f1,_,_⟩:=hin
       simp only at f0 f1 hst
       have hd:g=e - Yw (O.take u):=Za G
       have A3:Hid (g - q1=e - Yw (O.take (u+1))):=by show _=_;rw[hst];omega
       have HB2:=Zb (Zf (Za HG) (Zi wr (.cells #[.int .i64 q1,.slice la ln lc] 122)))
       have hw1:IntKind.i64.wrap (g - q1)=g - q1:=by rw[IntKind.wrap_i64];omega
       clear hy hst G HG hd x1 x2 hcell
       go_wp2
       go_roundw
       case rel=>exact⟨u+1,g - q1,by omega,rfl,by go_num,A3,HB2⟩
       case measure=>simp[intOf];omega
      ·have e1:u=no:=by omega
       subst e1
       have hd:g=e - Yw O:=by
        have:=Za G
        rw[List.take_of_length_le (by rw[(Za HOY).1];exact Nat.le_refl _)] at this
        exact this
       have x1:=(Za HOB) u
       rw[List.take_of_length_le (by rw[(Za HOY).1];exact Nat.le_refl _)] at x1
       have A4:Hid (g=Xo r T S (j+1)):=by
        show _=_
        rw[Za ST,←Za A,hd,Za A2]
       have HBF:=Zb (Zf (Za HBY) (Za HG))
       have y1 : -(6000000000*((j+1:Nat):Int))≤g:=by omega
       have y2:g≤64+6000000000*((j+1:Nat):Int):=by omega
       clear hd x1 G HG A A2 ST
       go_wp2
       go_roundw
       case rel=>exact⟨j+1,g,by omega,rfl,by go_num,A4,y1,y2,HBF⟩
       case measure=>simp[intOf];omega
  ·have e0:j=um:=by omega
   subst e0
   have HBF:=Zb (Zf (Za HBX) (Za HBr))
   have ho:=Za HO
   rw[←Za A] at ho
   clear A
   by_cases hp:0≤d
   ·obtain rfl:true=o:=by rw[←ho,decide_eq_true hp]
    clear ho
    go_wp2
    go_ret
    exact⟨rfl,Za HBF⟩
   ·obtain rfl:false=o:=by rw[←ho,decide_eq_false hp]
    clear ho
    go_wp2
    go_ret
    exact⟨rfl,Za HBF⟩
theorem M5(a:Option Addr)(n c:Nat)(L:List Zh)(h:Int)(ai ao:Option Addr)(ni ci no co:Nat)(I:List InD)(O:List Z0)(x:Int)(w:World)(hL:CoinsAt w a n L)(hI:InsAt w ai ni I)(hO:OutsAt w ao no O)(sI:SlOk ai ni ci)(hx:Ve L (h,I,O)=x) :
  Calls Tryz.prog 202 #[.slice a n c,.agg #[.int .i64 h,.slice ai ni ci,.slice ao no co]] w fun e w'=>e = .returned (.int .i64 x)∧Below w.heap.size w w':=by
 obtain⟨X0,hX0⟩:∃ X0,X0=w.alloc (.cells #[.int .i64 h,.slice ai ni ci,.slice ao no co] 59):=⟨_,rfl⟩
 have hb0:Below w.heap.size w X0:=by rw[hX0];exact Zi _ _
 have hX1:X0.heap[w.heap.size]? = some (.cells [.int .i64 h,.slice ai ni ci,.slice ao no co].toArray 59 (0,0)):=by rw[hX0];exact Zu _ _ _ _ _
 obtain⟨y,hy⟩:∃ y,Zy L=y:=⟨_,rfl⟩
 have C1:=Zb (Wo a n c L y X0 (hL.later hb0) hy)
 have TX:=Zb (fun w' (hb:Below X0.heap.size X0 w')=>Ub h ai ao ni ci no co I O w' ((hI.later hb0).later hb) ((hO.later hb0).later hb) sI)
 have HX1:=Zb hX1
 have HB0:=Zb hb0
 unfold Ve at hx
 rw[hy] at hx
 clear hL hI hO sI hX1 hb0 hy
 by_cases h0:y=0
 ·subst h0
  rw[if_neg (by decide)] at hx
  rw[hx] at TX
  clear hx
  go_enter Tryz.func202,Tryz.ntmps202
  go_wp2_with fail
  rw[←hX0]
  clear hX0
  refine (Za C1).mono ?_
  rintro e w2 ⟨rfl,hb2⟩
  have hh:=(hb2.block _ (lt_of_block (Za HX1))).trans (Za HX1)
  have c0:=Zd hh 0 _ rfl
  have c1:=Zd hh 1 _ rfl
  have c2:=Zd hh 2 _ rfl
  have hl:=lt_of_block hh
  have C2:=Zb ((Za TX) w2 hb2)
  have HB2:=Zb (Zf (Za HB0) hb2)
  clear hh hb2
  go_wp2_with fail
  refine (Za C2).mono ?_
  rintro e w3 ⟨rfl,hb3⟩
  have HB3:=Zb (Zf (Za HB2) hb3)
  clear hb3
  go_wp2
  go_ret
  exact⟨rfl,Za HB3⟩
 ·rw[if_pos h0] at hx
  subst hx
  have g:(y != 0)=true:=by simp[h0]
  clear h0
  go_enter Tryz.func202,Tryz.ntmps202
  go_wp2_with fail
  rw[←hX0]
  clear hX0
  refine (Za C1).mono ?_
  rintro e w2 ⟨rfl,hb2⟩
  have HB2:=Zb (Zf (Za HB0) hb2)
  clear hb2
  go_wp2
  go_ret
  exact⟨rfl,Za HB2⟩
theorem Kv(a:Option Addr)(n c:Nat)(L:List Zh)(h:Int)(ai ao:Option Addr)(ni ci no co:Nat)(I:List InD)(O:List Z0)(name ht:Int)(x:Int)(w:World)(hL:CoinsAt w a n L)(hI:InsAt w ai ni I)(hO:OutsAt w ao no O)(sI:SlOk ai ni ci)(hx:Wy L (h,I,O) name ht=x) :
  Calls Tryz.prog 144 #[.slice a n c,.agg #[.int .i64 h,.slice ai ni ci,.slice ao no co],.int .i64 name,.int .i64 ht] w fun e w'=>e = .returned (.int .i64 x)∧Below w.heap.size w w':=by
 obtain⟨X0,hX0⟩:∃ X0,X0=w.alloc (.cells #[.int .i64 h,.slice ai ni ci,.slice ao no co] 59):=⟨_,rfl⟩
 have hb0:Below w.heap.size w X0:=by rw[hX0];exact Zi _ _
 have hX1:X0.heap[w.heap.size]? = some (.cells [.int .i64 h,.slice ai ni ci,.slice ao no co].toArray 59 (0,0)):=by rw[hX0];exact Zu _ _ _ _ _
 obtain⟨y,hy⟩:∃ y,Ve L (h,I,O)=y:=⟨_,rfl⟩
 have C1:=Zb (M5 a n c L h ai ao ni ci no co I O y X0 (hL.later hb0) (hI.later hb0) (hO.later hb0) sI hy)
 have hIl:=hI.1
 have x0:=Zd hX1 0 _ rfl
 have x1:=Zd hX1 1 _ rfl
 have x2:=Zd hX1 2 _ rfl
 have HX1:=Zb hX1
 have HB0:=Zb hb0
 unfold Wy at hx
 rw[hy] at hx
 have hR:isR (h,I,O)=decide (ni=0):=by unfold isR;rw[←hIl]
 rw[hR] at hx
 clear hL hI hO sI hX1 hb0 hy hR hIl
 by_cases h0:y=0
 ·subst h0
  rw[if_neg (by decide)] at hx
  cases hN:okN name with
  | false=>
   rw[hN,Bool.false_and,if_pos rfl] at hx
   subst hx
   have W1:=Zb (fun w=>Yi name 1 120 false w (by rw[←hN];rfl))
   clear hN
   go_enter Tryz.func144,Tryz.ntmps144
   go_wp2_with fail
   rw[←hX0]
   clear hX0
   refine (Za C1).mono ?_
   rintro e w2 ⟨rfl,hb2⟩
   have HB2:=Zb (Zf (Za HB0) hb2)
   clear hb2
   go_wp2_with fail
   refine ((Za W1) _).mono ?_
   rintro e w3 ⟨rfl,rfl⟩
   go_wp2
   go_ret
   exact⟨rfl,Za HB2⟩
  | true=>
   rw[hN,Bool.true_and] at hx
   have W1:=Zb (fun w=>Yi name 1 120 true w (by rw[←hN];rfl))
   cases hH:okH ht with
   | false=>
    rw[hH,if_pos rfl] at hx
    subst hx
    have W2:=Zb (fun w=>Vi ht false w hH)
    clear hN hH
    go_enter Tryz.func144,Tryz.ntmps144
    go_wp2_with fail
    rw[←hX0]
    clear hX0
    refine (Za C1).mono ?_
    rintro e w2 ⟨rfl,hb2⟩
    have HB2:=Zb (Zf (Za HB0) hb2)
    clear hb2
    go_wp2_with fail
    refine ((Za W1) _).mono ?_
    rintro e w3 ⟨rfl,rfl⟩
    go_wp2_with fail
    refine ((Za W2) _).mono ?_
    rintro e w3 ⟨rfl,rfl⟩
    go_wp2
    go_ret
    exact⟨rfl,Za HB2⟩
   | true=>
    rw[hH,if_neg (by decide)] at hx
    have W2:=Zb (fun w=>Vi ht true w hH)
    clear hN hH
    have body:∀ (r:Bool) (q:Bool) (hr:decide (ni=0)=r) (hq:(h != ht)=q) (hz:(if r=true∧q=true then (4:Int) else 0)=x),Calls Tryz.prog 144 #[.slice a n c,.agg #[.int .i64 h,.slice ai ni ci,.slice ao no co],.int .i64 name,.int .i64 ht] w fun e w'=>e = .returned (.int .i64 x)∧Below w.heap.size w w':=by
     intro r q hr hq hz
     have IR:=Zb (fun w=>Jc h ai ao ni ci no co r w hr)
     cases r with
     | false=>
      rw[if_neg (by simp)] at hz
      subst hz
      clear hx hr
      go_enter Tryz.func144,Tryz.ntmps144
      go_wp2_with fail
      rw[←hX0]
      clear hX0
      refine (Za C1).mono ?_
      rintro e w2 ⟨rfl,hb2⟩
      have hh:=(hb2.block _ (lt_of_block (Za HX1))).trans (Za HX1)
      have c0:=Zd hh 0 _ rfl
      have c1:=Zd hh 1 _ rfl
      have c2:=Zd hh 2 _ rfl
      have hl:=lt_of_block hh
      have HB2:=Zb (Zf (Za HB0) hb2)
      clear hb2 hh
      go_wp2_with fail
      refine ((Za W1) _).mono ?_
      rintro e w3 ⟨rfl,rfl⟩
      go_wp2_with fail
      refine ((Za W2) _).mono ?_
      rintro e w3 ⟨rfl,rfl⟩
      go_wp2_with fail
      refine ((Za IR) _).mono ?_
      rintro e w3 ⟨rfl,hb3⟩
      have HB3:=Zb (Zf (Za HB2) hb3)
      clear hb3
      go_wp2
      go_ret
      exact⟨rfl,Za HB3⟩
     | true=>
      cases q with
      | false=>
       rw[if_neg (by simp)] at hz
       subst hz
       clear hx hr
       go_enter Tryz.func144,Tryz.ntmps144
       go_wp2_with fail
       rw[←hX0]
       clear hX0
       refine (Za C1).mono ?_
       rintro e w2 ⟨rfl,hb2⟩
       have hh:=(hb2.block _ (lt_of_block (Za HX1))).trans (Za HX1)
       have c0:=Zd hh 0 _ rfl
       have c1:=Zd hh 1 _ rfl
       have c2:=Zd hh 2 _ rfl
       have hl:=lt_of_block hh
       have HH:=Zb hh
       have HB2:=Zb (Zf (Za HB0) hb2)
       clear hb2 hh
       go_wp2_with fail
       refine ((Za W1) _).mono ?_
       rintro e w3 ⟨rfl,rfl⟩
       go_wp2_with fail
       refine ((Za W2) _).mono ?_
       rintro e w3 ⟨rfl,rfl⟩
       go_wp2_with fail
       refine ((Za IR) _).mono ?_
       rintro e w4 ⟨rfl,hb4⟩
       have d0:=Ze hb4 c0
       have hl4:=World.block_lt_of_cell? _ _ d0
       have HB4:=Zb (Zf (Za HB2) hb4)
       clear hb4 c0 c1 c2
       go_wp2
       go_ret
       exact⟨rfl,Za HB4⟩
      | true=>
       rw[if_pos ⟨rfl,rfl⟩] at hz
       subst hz
       clear hx hr
       go_enter Tryz.func144,Tryz.ntmps144
       go_wp2_with fail
       rw[←hX0]
       clear hX0
       refine (Za C1).mono ?_
       rintro e w2 ⟨rfl,hb2⟩
       have hh:=(hb2.block _ (lt_of_block (Za HX1))).trans (Za HX1)
       have c0:=Zd hh 0 _ rfl
       have c1:=Zd hh 1 _ rfl
       have c2:=Zd hh 2 _ rfl
       have hl:=lt_of_block hh
       have HH:=Zb hh
       have HB2:=Zb (Zf (Za HB0) hb2)
       clear hb2 hh
       go_wp2_with fail
       refine ((Za W1) _).mono ?_
       rintro e w3 ⟨rfl,rfl⟩
       go_wp2_with fail
       refine ((Za W2) _).mono ?_
       rintro e w3 ⟨rfl,rfl⟩
       go_wp2_with fail
       refine ((Za IR) _).mono ?_
       rintro e w4 ⟨rfl,hb4⟩
       have d0:=Ze hb4 c0
       have hl4:=World.block_lt_of_cell? _ _ d0
       have HB4:=Zb (Zf (Za HB2) hb4)
       clear hb4 c0 c1 c2
       go_wp2
       go_ret
       exact⟨rfl,Za HB4⟩
    refine body (decide (ni=0)) (h != ht) rfl rfl ?_
    rw[←hx]
    by_cases e1:ni=0 <;> by_cases e2:h=ht <;> simp[e1,e2]
 ·rw[if_pos h0] at hx
  subst hx
  have g:(y != 0)=true:=by simp[h0]
  clear h0
  go_enter Tryz.func144,Tryz.ntmps144
  go_wp2_with fail
  rw[←hX0]
  clear hX0
  refine (Za C1).mono ?_
  rintro e w2 ⟨rfl,hb2⟩
  have HB2:=Zb (Zf (Za HB0) hb2)
  clear hb2
  go_wp2
  go_ret
  exact⟨rfl,Za HB2⟩
theorem Ch:∀ (l:List Int) (s:Int),(sm s l).2=0→∀ x∈l,0≤x∧x≤1000000000
 | [],_,_=>by simp
 | y :: r,s,h=>by
  intro x hx
  unfold sm at h
  split at h
  ·rename_i hy
   split at h
   ·rcases List.mem_cons.1 hx with rfl|hx
    ·exact hy
    ·exact Ch r _ h x hx
   ·cases h
  ·cases h
theorem V9{t:TxD}(h:Zx t=0):t.2.1.length≤6∧t.2.2.length≤6∧0<t.2.2.length∧Mm t=true∧Yj [] t.2.1=0∧Yk t.2.2=0∧(sm 0 (t.2.2.map (·.1))).2=0:=by
 unfold Zx at h
 split at h
 ·cases h
 rename_i h1
 split at h
 ·cases h
 rename_i h2
 split at h
 ·cases h
 rename_i h3
 split at h
 ·rename_i h4;exact absurd h h4
 rename_i h4
 unfold Yn at h
 split at h
 ·rename_i h5
  exact⟨by omega,by omega,by omega,by simpa using h3,by simpa using h4,h5,h⟩
 ·rename_i h5;exact absurd h h5
theorem Cq{t:TxD}(h:Zx t=0):∀ o∈t.2.2,0≤o.1∧o.1≤1000000000:=fun o ho=>
 Ch _ 0 (V9 h).2.2.2.2.2.2 o.1 (List.mem_map_of_mem ho)
theorem Fo{L:List Zh}{t:TxD}(h:Ve L t=0):Z6 L∧Zx t=0:=by
 unfold Ve at h
 split at h
 ·rename_i h1;exact absurd h h1
 ·rename_i h1;exact⟨(Zz L).1 (by simpa using h1),h⟩
theorem Xn{L:List Zh}{t:TxD}{name h:Int}(q:Wy L t name h=0):Z6 L∧Zx t=0∧okN name=true∧okH h=true∧(t.2.1.length=0→t.1=h):=by
 unfold Wy at q
 split at q
 ·rename_i h1;exact absurd q h1
 rename_i h1
 split at q
 ·cases q
 rename_i h2
 split at q
 ·cases q
 rename_i h3
 obtain⟨r1,r2⟩:=Fo (by simpa using h1)
 rw[Bool.not_eq_false,Bool.and_eq_true] at h2
 refine⟨r1,r2,h2.1,h2.2,fun e=>?_⟩
 refine Decidable.byContradiction fun n=>h3 ⟨by unfold isR;exact decide_eq_true e,n⟩
theorem Zer{L:List Zh}{t:TxD}{name h x1 x2 x3 x4 x5:Int}{S2 M2 M4:List Zh}(h1:Wy L t name h=x1)(h2:Zr h t.2.1 [] L=(x2,S2,M2))(h3:Ff S2 t=x3)(h4:Yd name h (isR t) 0 t.2.2 M2=(x4,M4))(h5:Zy M4=x5) :
  apD L t name h=if x1≠0 then (x1,[],[]) else if x2≠0 then (x2,[],[]) else if x3≠0 then (x3,[],[]) else if x4≠0 then (x4,[],[]) else if x5≠0 then (x5,[],[]) else (0,M4,S2):=by
 unfold apD
 simp only[h1,h2,h3,h4,h5]
theorem Zhz{L S:List Zh}{t:TxD}{name x1 x2 x3 x4:Int}{M2 M3:List Zh}(h1:Ve L t=x1)(h2:Ww name 0 t.2.2 L=(x2,M2))(h3:Vv t.2.1 S M2=(x3,M3))(h4:Zy M3=x4) :
  rvD L t name S=if x1≠0 then (x1,[]) else if S.length≠t.2.1.length then (4,[]) else if x2≠0 then (x2,[]) else if x3≠0 then (x3,[]) else if x4≠0 then (x4,[]) else (0,M3):=by
 unfold rvD
 simp only[h1,h2,h3,h4]
theorem Ts{l:List (Int×Int)}(h:chk l=0):l.length≤16:=by
 unfold chk at h
 split at h
 ·cases h
 ·omega
end Go.Proofs.YtmomfkikogbdeaaGreatDoor
