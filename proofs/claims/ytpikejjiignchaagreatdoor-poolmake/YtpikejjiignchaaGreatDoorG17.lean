import Derived.Test.YtpikejjiignchaaGreatDoorG16
set_option maxHeartbeats 6400000
set_option maxRecDepth 10000
namespace Go.Proofs.YtpikejjiignchaaGreatDoor
open Go.RowKit
def Xo:List (Int×Int)→List Value
 | []=>[]
 | o :: r=>.int .i64 o.1 :: .int .i64 o.2 :: Xo r
theorem Xp:∀ l:List (Int×Int),(Xo l).length=l.length*2
 | []=>rfl
 | _ :: r=>by simp only[Xo,List.length_cons,Xp r];omega
theorem Tj:∀ (l:List (Int×Int)) (i:Nat),i<l.length→(Xo l)[i*2]? = some (.int .i64 (l.getD i (0,0)).1)∧(Xo l)[i*2+1]? = some (.int .i64 (l.getD i (0,0)).2)
 | [],_,h=>absurd h (by simp)
 | o :: r,0,_=>⟨rfl,rfl⟩
 | o :: r,i+1,h=>by
  have:=Tj r i (by simpa using h)
  rw[show (i+1)*2=i*2+2 by omega]
  simpa[Xo] using this
theorem Jw:∀ (l:List (Int×Int)) (u:Value),u∈Xo l→u.oneCell'=true
 | [],u,h=>by cases h
 | o :: r,u,h=>by
  simp only[Xo,List.mem_cons] at h
  rcases h with rfl|rfl|h
  ·rfl
  ·rfl
  ·exact Jw r u h
theorem Jg{w:World}{b off n:Nat}{l:List (Int×Int)}(hz:l.length=n)(hc:∀ i,i<n→w.cell? ⟨b,off+i*2,none⟩=some (.int .i64 (l.getD i (0,0)).1)∧w.cell? ⟨b,off+i*2+1,none⟩=some (.int .i64 (l.getD i (0,0)).2))(j:Nat)(u:Value)(hj:(Xo l)[j]? = some u):w.cell? ⟨b,off+j,none⟩=some u:=by
 have hjl:j<l.length*2:=by rw[←Xp];exact (List.getElem?_eq_some_iff.1 hj).1
 obtain⟨f0,f1⟩:=Tj l (j / 2) (by omega)
 obtain⟨c0,c1⟩:=hc (j / 2) (by omega)
 rcases (show j % 2=0∨j % 2=1 by omega) with q|q
 ·have e:j=j / 2*2:=by omega
  rw[←e] at f0 c0
  rw[f0] at hj
  rw[c0,←hj]
 ·have e:j=j / 2*2+1:=by omega
  rw[←e] at f1
  rw[show off+j / 2*2+1=off+j by omega] at c1
  rw[f1] at hj
  rw[c1,←hj]
theorem Js{w:World}{base:Nat}{v:Value}{n:Nat}{l:List (Int×Int)}(h:w.ownsRow base 122 2 v n (Xo l)):∃ a c,v = .slice a n c∧OpsAt w a n l∧SlOk a n c∧(∀ ad,a=some ad→base≤ad.block):=by
 have hl:l.length=n:=by have:=h.1;rw[Xp] at this;omega
 rcases h.2 with ⟨rfl,rfl⟩|⟨g,cap,cur,rfl,hg,hh,h1,h2,h3,h4⟩
 ·exact⟨none,0,rfl,⟨hl,fun h=>absurd h (by omega)⟩,⟨Nat.le_refl _,Nat.zero_le _,fun _=>⟨rfl,rfl⟩⟩,fun ad e=>by cases e⟩
 ·refine⟨_,cap,rfl,⟨hl,fun _=>⟨g,0,rfl,fun i hi=>?_⟩⟩,⟨h1,h2,fun e=>by cases e⟩,fun ad e=>by cases e;exact hg⟩
  obtain⟨f0,f1⟩:=Tj l i (by omega)
  rw[Nat.zero_add,World.ownsRow.cellAt h _ (by omega),World.ownsRow.cellAt h _ (by omega)]
  exact⟨f0,f1⟩
theorem Tryz.infoOpC:(Tryz.prog.info? 122).map (fun i=>(i.zero,i.size,i.bytes))=some (some (.agg #[.int .i64 0,.int .i64 0]),2,16):=by kernel_rfl
theorem Ji(w:World):Calls Tryz.prog 102 #[.slice none 0 0] w fun e w'=>e = .returned (.slice none 0 0)∧w=w':=by
 have he:=fun w=>Lib.run_eql_slice_nil (P:=Tryz.prog) w 66 122 none 0 0 0 0 Tryz.underlying66
 go_enter Tryz.func102,Tryz.ntmps102
 go_wp2
 go_ret
 exact⟨rfl,rfl⟩
theorem Qs(ad:Addr)(n c:Nat)(l:List (Int×Int))(w:World)(hn:n≤4096)(hz:l.length=n)(hc:∀ j u,(Xo l)[j]? = some u→w.cell? (ad.add j)=some u) :
  Calls Tryz.prog 102 #[.slice (some ad) n c] w fun e w'=>∃ v,e = .returned v∧w'.ownsRow w.heap.size 122 2 v n (Xo l)∧Below w.heap.size w w':=by
 obtain⟨i0,hi,hz0,hz1,hz2⟩:=info_parts Tryz.infoOpC
 have hb:=Zf w (.cells #[] 122)
 have HC:Hid (∀ j u,(Xo l)[j]? = some u→(w.alloc (.cells #[] 122)).cell? (ad.add j)=some u):=fun j u hj=>Zc hb (hc j u hj)
 have HB:=Zb hb
 have HZ:=Zb hz
 have HO:=Zb (V3 w 122 2)
 have he:=fun w=>Lib.run_eql_slice_nil (P:=Tryz.prog) w 66 122 (some ad) n c 0 0 Tryz.underlying66
 clear hc hb hz
 go_enter Tryz.func102,Tryz.ntmps102
 go_wp2_with (at_builtin;refine wpList_append_own _ rfl _ _ 66 rfl w.heap.size 122 i0 (.agg #[.int .i64 0,.int .i64 0]) 2 16 Tryz.underlying66 hi hz0 hz1 hz2 rfl (by decide) _ _ _ rfl (Za HO) ad n c (Xo l) rfl (by rw[Xp,Za HZ]) (Za HC) (Jw l) (by unfold maxLen;omega) (by omega) (Za HB).size ?_;intro v2 w3 hown3 hgrow3 _)
 have HW:Hid (w3.ownsRow w.heap.size 122 2 v2 n (Xo l)):=by show World.ownsRow _ _ _ _ _ _ _;simpa using hown3
 have HB3:=Zb ((Za HB).grown hgrow3 (Za HB).size (Yk (Za HO)))
 clear hown3 hgrow3
 go_wp2
 go_ret
 exact⟨v2,rfl,Za HW,Za HB3⟩
theorem Uq(a:Option Addr)(n c:Nat)(l:List (Int×Int))(w:World)(hn:n≤4096)(h:OpsAt w a n l)(hs:SlOk a n c) :
  Calls Tryz.prog 102 #[.slice a n c] w fun e w'=>∃ a' c',e = .returned (.slice a' n c')∧OpsAt w' a' n l∧SlOk a' n c'∧(∀ ad,a'=some ad→w.heap.size≤ad.block)∧Below w.heap.size w w':=by
 obtain⟨hl,hc⟩:=h
 cases a with
 | none=>
  obtain⟨rfl,rfl⟩:=hs.2.2 rfl
  exact (Ji w).mono fun e w' ⟨x,y⟩=>⟨none,0,x,⟨hl,fun h=>absurd h (by omega)⟩,hs,fun ad e=>(by cases e),y ▸ Below.refl _ _⟩
 | some ad=>
  have hc2:∀ j u,(Xo l)[j]? = some u→w.cell? (ad.add j)=some u:=fun j u hj=>by
   have hjl:j<l.length*2:=by rw[←Xp];exact (List.getElem?_eq_some_iff.1 hj).1
   obtain⟨b,off,e,hcell⟩:=hc (by omega)
   cases e
   rw[Addr.add_lit]
   exact Jg hl hcell j u hj
  refine (Qs ad n c l w hn hl hc2).mono ?_
  rintro e w' ⟨v,rfl,x,y⟩
  obtain⟨a',c',rfl,h1,h2,h3⟩:=Js x
  exact⟨a',c',rfl,h1,h2,h3,y⟩
theorem J1{fn:Func}{p:Tmp}{ty:TypeId}(h:fn.results=#[.cell p ty])(tmps:Array Value)(P:Program)(w:World) :
  (results fn tmps).run P w=((asAddr (tmps.getD p undef)).run P w).andThen fun a w₁=>(loadVar ty a).run P w₁:=by
 simp only[results,h]
 simp[Sem.run_bind,Result.andThen]
theorem OpsAt.gr{w w':World}{S:Nat→Prop}{a:Option Addr}{n:Nat}{l:List (Int×Int)}(h:OpsAt w a n l)(g:Gr w w' S)(hn:∀ ad,a=some ad→¬S ad.block):OpsAt w' a n l:=by
 refine⟨h.1,fun h0=>?_⟩
 obtain⟨b,off,rfl,hc⟩:=h.2 h0
 refine⟨b,off,rfl,fun i hi=>?_⟩
 obtain⟨c0,c1⟩:=hc i hi
 have hb:=g.block b (World.block_lt_of_cell? _ _ c0) (hn _ rfl)
 exact⟨(World.cell?_of_block (a:=⟨b,off+i*2,none⟩) hb).trans c0,(World.cell?_of_block (a:=⟨b,off+i*2+1,none⟩) hb).trans c1⟩
theorem Rj(x:Int)(a:Option Addr)(n c:Nat)(l:List (Int×Int))(w:World)(hn:n≤4096)(h:OpsAt w a n l)(hs:SlOk a n c) :
  Calls Tryz.prog 103 #[.agg #[.int .i64 x,.slice a n c]] w fun e w'=>∃ a' c',e = .returned (.agg #[.int .i64 x,.slice a' n c'])∧OpsAt w' a' n l∧SlOk a' n c'∧(∀ ad,a'=some ad→w.heap.size≤ad.block)∧Below w.heap.size w w':=by
 obtain⟨X,hX⟩:∃ X,X=(w.alloc (.cells #[.int .i64 x,.slice a n c] 101)).alloc (.cells #[.int .i64 0,.slice none 0 0] 101):=⟨_,rfl⟩
 have hbX:Below w.heap.size w X:=by rw[hX];exact Ze (Zf _ _) (Zf _ _)
 have x0:X.cell? ⟨w.heap.size,0,none⟩=some (.int .i64 x):=by rw[hX];exact Zc (Zf _ _) (Yd w _ _ _).1
 have x1:X.cell? ⟨w.heap.size,1,none⟩=some (.slice a n c):=by rw[hX];exact Zc (Zf _ _) (Yd w _ _ _).2
 have hX1:X.heap[w.heap.size+1]? = some (.cells [.int .i64 0,.slice none 0 0].toArray 101 (0,0)):=by
  rw[hX]
  have:=heap_alloc_new (w.alloc (.cells #[.int .i64 x,.slice a n c] 101)) (.cells #[.int .i64 0,.slice none 0 0] 101)
  rw[show (w.alloc (.cells #[.int .i64 x,.slice a n c] 101)).heap.size=w.heap.size+1 by simp] at this
  exact this
 have C:=Zb (Uq a n c l X.drew hn (h.later (Ze hbX (Zi X))) hs)
 have HX1:=Zb hX1
 have HBX:=Zb hbX
 clear h hs hbX hX1
 go_enter Tryz.func103,Tryz.ntmps103
 go_wp2_with fail
 rw[←hX]
 clear hX
 go_region_with (go_at_call 102;refine (Za C).mono ?_;rintro e w3 ⟨a',c',rfl,ho3,hs3,hb3',hb3⟩;have o2:w3.cell? ⟨w.heap.size,0,none⟩=some (.int .i64 x):=Zc hb3 (Zc (Zi _) x0);have hz3:=(hb3.block _ (lt_of_block (Za HX1))).trans (Za HX1);have c0:=Zd hz3 0 _ rfl;have c1:=Zd hz3 1 _ rfl;have f0:=Zh hz3 0;have f1:=Zh hz3 1;have H3:Hid (OpsAt w3 a' n l∧SlOk a' n c'∧(∀ ad,a'=some ad→X.heap.size≤ad.block)∧Below X.drew.heap.size X.drew w3):=⟨ho3,hs3,hb3',hb3⟩;clear ho3 hs3 hb3' hb3 hz3)
 all_goals
  go_wp2
  (try simp only[Exit.inBlock,Exit.then])
  obtain⟨ho3,hs3,hb3',hb3⟩:=Za H3
  have hG:=((Gr.refl w3 (fun q=>q=w.heap.size+1)).one (w.heap.size+1) 0 (.inl rfl) (.int .i64 x)).one (w.heap.size+1) 1 (.inl rfl) (.slice a' n c')
  have hlt:=lt_of_block (Za HX1)
  refine bodyPost_ret (v:=.agg #[.int .i64 x,.slice a' n c']) ?_ rfl ⟨a',c',rfl,ho3.gr hG (fun ad e q=>?_),hs3,fun ad e=>?_,?_⟩
  ·rw[J1 rfl]
   go_simp
  ·have:=hb3' ad e;omega
  ·have:=hb3' ad e;omega
  ·have hsz:X.heap.size≤w3.heap.size:=hb3.size
   exact hG.below (Ze (Ze (Za HBX) (Zi _)) hb3) (by omega) (fun k hk=>by omega)
theorem Fc(x:Zg)(a:Option Addr)(n c:Nat)(w:World)(hn:n≤4096)(h:OpsAt w a n (ck x))(hs:SlOk a n c) :
  Calls Tryz.prog 89 #[cnV x a n c] w fun e w'=>∃ a' c',e = .returned (cnV x a' n c')∧OpsAt w' a' n (ck x)∧SlOk a' n c'∧(∀ ad,a'=some ad→w.heap.size≤ad.block)∧Below w.heap.size w w':=by
 unfold cnV
 obtain⟨X,hX⟩:∃ X,X=(w.alloc (.cells #[.int .i64 x.1,.int .i64 x.2.1,.int .i64 (cv x),.slice a n c,.int .i64 (ch x),.bool (cr x)] 103)).alloc (.cells #[.int .i64 0,.int .i64 0,.int .i64 0,.slice none 0 0,.int .i64 0,.bool false] 103):=⟨_,rfl⟩
 have hbX:Below w.heap.size w X:=by rw[hX];exact Ze (Zf _ _) (Zf _ _)
 have hX0:X.heap[w.heap.size]? = some (.cells [.int .i64 x.1,.int .i64 x.2.1,.int .i64 (cv x),.slice a n c,.int .i64 (ch x),.bool (cr x)].toArray 103 (0,0)):=by
  rw[hX,Below.heap_alloc _ _ _ (by simp)];exact Uc _ _ _ _ _ _ _ _
 have hX1:X.heap[w.heap.size+1]? = some (.cells zeroCs.toArray 103 (0,0)):=by
  rw[hX]
  have:=heap_alloc_new (w.alloc (.cells #[.int .i64 x.1,.int .i64 x.2.1,.int .i64 (cv x),.slice a n c,.int .i64 (ch x),.bool (cr x)] 103)) (.cells zeroCs.toArray 103)
  rw[show (w.alloc (.cells #[.int .i64 x.1,.int .i64 x.2.1,.int .i64 (cv x),.slice a n c,.int .i64 (ch x),.bool (cr x)] 103)).heap.size=w.heap.size+1 by simp] at this
  exact this
 have C:=Zb (Rj (cv x) a n c (ck x) X hn (h.later hbX) hs)
 have HX0:=Zb hX0
 have HX1:=Zb hX1
 have HBX:=Zb hbX
 have x2:=Zd hX0 2 _ rfl
 have x3:=Zd hX0 3 _ rfl
 clear h hs hbX hX1 hX0
 go_enter Tryz.func89,Tryz.ntmps89
 go_wp2_with fail
 rw[←hX]
 clear hX x2 x3
 refine (Za C).mono ?_
 rintro e w3 ⟨a',c',rfl,ho3,hs3,hb3',hb3⟩
 have h0:=(hb3.block _ (lt_of_block (Za HX0))).trans (Za HX0)
 have h1:=(hb3.block _ (lt_of_block (Za HX1))).trans (Za HX1)
 have c0:=Zd h0 0 _ rfl
 have c1:=Zd h0 1 _ rfl
 have c2:=Zd h0 2 _ rfl
 have c3:=Zd h0 3 _ rfl
 have c4:=Zd h0 4 _ rfl
 have c5:=Zd h0 5 _ rfl
 have f2:=Zh h0 2
 have f3:=Zh h0 3
 have z0:=Zd h1 0 _ rfl
 have z1:=Zd h1 1 _ rfl
 have z2:=Zd h1 2 _ rfl
 have z3:=Zd h1 3 _ rfl
 have z4:=Zd h1 4 _ rfl
 have z5:=Zd h1 5 _ rfl
 have y0:=Zh h1 0
 have y1:=Zh h1 1
 have y2:=Zh h1 2
 have y3:=Zh h1 3
 have y4:=Zh h1 4
 have y5:=Zh h1 5
 have HX2:Hid (w.heap.size+1<X.heap.size):=lt_of_block (Za HX1)
 have H3:Hid (OpsAt w3 a' n (ck x)∧SlOk a' n c'∧(∀ ad,a'=some ad→X.heap.size≤ad.block)∧Below X.heap.size X w3):=⟨ho3,hs3,hb3',hb3⟩
 clear ho3 hs3 hb3' hb3 h0 h1
 go_wp2
 (try simp only[Exit.inBlock,Exit.then])
 obtain⟨ho3,hs3,hb3',hb3⟩:=Za H3
 have hlt:=Za HX2
 have hG:=(((Gr.refl w3 (fun q=>q=w.heap.size∨q=w.heap.size+1)).one w.heap.size 2 (.inl (.inl rfl)) (.int .i64 (cv x))).one w.heap.size 3 (.inl (.inl rfl)) (.slice a' n c')).six (w.heap.size+1) (.inl (.inr rfl)) (.int .i64 x.1) (.int .i64 x.2.1) (.int .i64 (cv x)) (.slice a' n c') (.int .i64 (ch x)) (.bool (cr x))
 refine bodyPost_ret (v:=.agg #[.int .i64 x.1,.int .i64 x.2.1,.int .i64 (cv x),.slice a' n c',.int .i64 (ch x),.bool (cr x)]) ?_ rfl ⟨a',c',rfl,ho3.gr hG (fun ad e q=>?_),hs3,fun ad e=>?_,?_⟩
 ·rw[J1 rfl]
  go_simp
 ·have:=hb3' ad e;rcases q with q|q <;> omega
 ·have:=hb3' ad e;omega
 ·exact hG.below (Ze (Za HBX) hb3) (Nat.le_of_lt (Nat.lt_of_lt_of_le (by omega) hb3.size)) (fun k hk=>by rcases hk with q|q <;> omega)
def LkIn(w:World)(s:Nat)(x:CV):Prop:=LkAt w x∧∀ ad,x.2.1=some ad→s≤ad.block
theorem LkIn.later{w w':World}{s:Nat}{x:CV}(h:LkIn w s x)(hb:Below w.heap.size w w'):LkIn w' s x:=⟨h.1.later hb,h.2⟩
def Fresh(B:Nat)(w:World)(Q:World→Prop):Prop:=∀ w2,Gr w w2 (fun k=>k<B)→Q w2
theorem Zcq{w:World}{base:Nat}{e:TypeId}{size:Nat}{v:Value}{n:Nat}{xs:List Value}(h:w.ownsRow base e size v n xs):∃ a c,v = .slice a n c∧SlOk a n c∧(0<n→∃ g,a=some ⟨g,0,none⟩∧base≤g∧g<w.heap.size):=by
 rcases h.2 with ⟨rfl,rfl⟩|⟨g,cap,cur,rfl,hg,hh,h1,h2,h3,h4⟩
 ·exact⟨none,0,rfl,⟨Nat.le_refl _,Nat.zero_le _,fun _=>⟨rfl,rfl⟩⟩,fun h=>absurd h (by omega)⟩
 ·exact⟨_,cap,rfl,⟨h1,h2,fun e=>by cases e⟩,fun _=>⟨g,rfl,hg,lt_of_block hh⟩⟩
theorem Qr(a:Option Addr)(n c:Nat)(L:List Zg)(w:World)(hn:n≤4096)(h:CoinsAt w a n L)(hsl:SlOk a n c)(hk:∀ x∈L,(ck x).length≤4096) :
  Calls Tryz.prog 47 #[.slice a n c] w fun e w'=>∃ a' c',e = .returned (.slice a' n c')∧Fresh w.heap.size w' (fun w2=>CoinsAt w2 a' n L)∧SlOk a' n c'∧Below w.heap.size w w':=by
 have C1:=Zb (Ra a n c L w hn h hsl)
 have HZ:=Zb h.1
 have HK:=Zb hk
 clear h hk hsl
 go_enter Tryz.func47,Tryz.ntmps47
 go_wp2_with fail
 refine (Za C1).mono ?_
 rintro e w2 ⟨v,K,rfl,hK,hlk,hown,hb2⟩
 have hKn:K.length=n:=by rw[←Za HZ,←hK,List.length_map]
 rw[hKn] at hown
 obtain⟨a1,c1,rfl,hs1,hg1⟩:=Zcq hown
 obtain⟨G,hG⟩:∃ G,w2.heap.size=G:=⟨_,rfl⟩
 rw[hG] at hg1
 have HG1:=Zb hg1
 have HS1:=Zb hs1
 have HKK:=Zb hK
 have HKL:=Zb hKn
 have HLK:=Zb hlk
 have ST:Hid (w2.ownsRow w.heap.size 103 6 (.slice a1 n c1) n (Zj ([]++K.drop 0))):=hown
 have HB2:=Zb hb2
 have HGl:Hid (G≤w2.heap.size):=Nat.le_of_eq hG.symm
 have HwG:Hid (w.heap.size≤G):=by rw[←hG];exact hb2.size
 clear hown hb2 hK hlk hs1 hg1 C1 hG hKn
 go_wp2_with fail
 go_loopw [9] (fun i wr=>∃ (k:Nat) (T:List CV),k≤n∧i = .int .i64 k∧Hid (T.map (·.1)=L.take k)∧Hid (T.length=k)∧Hid (wr.ownsRow w.heap.size 103 6 (.slice a1 n c1) n (Zj (T++K.drop k)))∧Hid (∀ z∈T,LkIn wr G z)∧Hid (Below w.heap.size w wr)∧Hid (G≤wr.heap.size)) (fun i _=>n - (intOf i).toNat)
 case atStart=>exact⟨0,[],Nat.zero_le _,rfl,rfl,rfl,ST,(fun z hz=>(by cases hz):∀ z∈([]:List CV),LkIn w2 G z),HB2,HGl⟩
 case round=>
  obtain⟨k,T,hk,rfl,HT,HTl,HO,HLk,HB,HGr⟩:=hrel
  clear ST HB2 HGl
  by_cases hlt:k<n
  ·have hlk:k<L.length:=by rw[Za HZ];exact hlt
   have hkK:k<K.length:=by rw[Za HKL];exact hlt
   obtain⟨g,rfl,hgw,hgG⟩:=(Za HG1) (by omega)
   have hKx:(K[k]).1=L[k]:=by
    have:=Za HKK
    subst this
    rw[List.getElem_map]
   have hkl:=(Za HK) _ (List.getElem_mem hlk)
   have hLK:=((Za HLK) _ (List.getElem_mem hkK)).later (Za HB)
   have HTK:Hid (L.take (k+1)=L.take k++[L[k]]):=List.take_succ_eq_append_getElem hlk
   have HR':Hid (T++K.drop k=T++K[k] :: K.drop (k+1)):=by
    show _=_
    rw[List.drop_eq_getElem_cons hkK]
   obtain⟨z,hz⟩:∃ z,K[k]=z:=⟨_,rfl⟩
   rw[hz] at hKx HR' hLK
   rw[←hKx] at HTK hkl
   obtain⟨x,la,ln,lc⟩:=z
   simp only at HTK hkl
   obtain⟨hO4,hs4⟩:=hLK
   simp only at hO4 hs4
   have hln:ln≤4096:=by rw[←hO4.1];exact hkl
   have hTk:=Za HTl
   have hOr:=Za HO
   rw[Za HR'] at hOr
   have har:∀ j,j<6→wr.cell? ⟨g,k*6+j,none⟩=(Nn (x,la,ln,lc))[j]?:=fun j hj=>by
    rw[World.ownsRow.cellAt hOr _ (by omega),←hTk,Qq _ _ _ j hj]
   have g0:wr.cell? ⟨g,k*6,none⟩=some (.int .i64 x.1):=(har 0 (by decide)).trans rfl
   have g1:wr.cell? ⟨g,k*6+1,none⟩=some (.int .i64 x.2.1):=(har 1 (by decide)).trans rfl
   have g2:wr.cell? ⟨g,k*6+2,none⟩=some (.int .i64 (cv x)):=(har 2 (by decide)).trans rfl
   have g3:wr.cell? ⟨g,k*6+3,none⟩=some (.slice la ln lc):=(har 3 (by decide)).trans rfl
   have g4:wr.cell? ⟨g,k*6+4,none⟩=some (.int .i64 (ch x)):=(har 4 (by decide)).trans rfl
   have g5:wr.cell? ⟨g,k*6+5,none⟩=some (.bool (cr x)):=(har 5 (by decide)).trans rfl
   obtain⟨X,hX⟩:∃ X,X=wr.alloc (.cells #[.int .i64 x.1,.int .i64 x.2.1,.int .i64 (cv x),.slice la ln lc,.int .i64 (ch x),.bool (cr x)] 103):=⟨_,rfl⟩
   have hbX:Below wr.heap.size wr X:=by rw[hX];exact Zf _ _
   have C:=Fc x la ln lc X hln (hO4.later hbX) hs4
   unfold cnV at C
   have HC:=Zb C
   have HBX:=Zb hbX
   have hkI:(k:Int)<(n:Int):=by omega
   have HOr:=Zb hOr
   clear C hbX hO4 hs4 hkl hOr har hKx hz
   go_wp2_with fail
   rw[←hX]
   clear hX g0 g1 g2 g3 g4 g5
   refine (Za HC).mono ?_
   rintro e w5 ⟨a5,c5,rfl,ho5,hs5,hba5,hb5⟩
   have hbw5:=Ze (Za HBX) hb5
   have hO5:=(Gr.of (S:=fun _=>False) hbw5).own (Za HOr) (fun _ _ q=>q)
   have hat:∀ j,j<6→w5.cell? ⟨g,k*6+j,none⟩=(Nn (x,la,ln,lc))[j]?:=fun j hj=>by
    rw[World.ownsRow.cellAt hO5 _ (by omega),←hTk,Qq _ _ _ j hj]
   have t0:w5.cell? ⟨g,k*6,none⟩=some (.int .i64 x.1):=(hat 0 (by decide)).trans rfl
   have t1:w5.cell? ⟨g,k*6+1,none⟩=some (.int .i64 x.2.1):=(hat 1 (by decide)).trans rfl
   have t2:w5.cell? ⟨g,k*6+2,none⟩=some (.int .i64 (cv x)):=(hat 2 (by decide)).trans rfl
   have t3:w5.cell? ⟨g,k*6+3,none⟩=some (.slice la ln lc):=(hat 3 (by decide)).trans rfl
   have t4:w5.cell? ⟨g,k*6+4,none⟩=some (.int .i64 (ch x)):=(hat 4 (by decide)).trans rfl
   have t5:w5.cell? ⟨g,k*6+5,none⟩=some (.bool (cr x)):=(hat 5 (by decide)).trans rfl
   have z0:=hO5.frozenAt (k*6)
   have z1:=hO5.frozenAt (k*6+1)
   have z2:=hO5.frozenAt (k*6+2)
   have z3:=hO5.frozenAt (k*6+3)
   have z4:=hO5.frozenAt (k*6+4)
   have z5:=hO5.frozenAt (k*6+5)
   have hsl5:g<w5.heap.size:=(hO5.lt _ rfl).2
   have TAIL:Hid (∃ T':List CV,Hid (T'.map (·.1)=L.take (k+1))∧Hid (T'.length=k+1)∧Hid (((((((w5.setCell ⟨g,k*6,none⟩ (.int .i64 x.1)).setCell ⟨g,k*6+1,none⟩ (.int .i64 x.2.1)).setCell ⟨g,k*6+2,none⟩ (.int .i64 (cv x))).setCell ⟨g,k*6+3,none⟩ (.slice a5 ln c5)).setCell ⟨g,k*6+4,none⟩ (.int .i64 (ch x))).setCell ⟨g,k*6+5,none⟩ (.bool (cr x))).ownsRow w.heap.size 103 6 (.slice (some ⟨g,0,none⟩) n c1) n (Zj (T'++K.drop (k+1)))) ∧
     Hid (∀ z∈T',LkIn ((((((w5.setCell ⟨g,k*6,none⟩ (.int .i64 x.1)).setCell ⟨g,k*6+1,none⟩ (.int .i64 x.2.1)).setCell ⟨g,k*6+2,none⟩ (.int .i64 (cv x))).setCell ⟨g,k*6+3,none⟩ (.slice a5 ln c5)).setCell ⟨g,k*6+4,none⟩ (.int .i64 (ch x))).setCell ⟨g,k*6+5,none⟩ (.bool (cr x))) G z) ∧
     Hid (Below w.heap.size w ((((((w5.setCell ⟨g,k*6,none⟩ (.int .i64 x.1)).setCell ⟨g,k*6+1,none⟩ (.int .i64 x.2.1)).setCell ⟨g,k*6+2,none⟩ (.int .i64 (cv x))).setCell ⟨g,k*6+3,none⟩ (.slice a5 ln c5)).setCell ⟨g,k*6+4,none⟩ (.int .i64 (ch x))).setCell ⟨g,k*6+5,none⟩ (.bool (cr x)))) ∧
     Hid (G≤((((((w5.setCell ⟨g,k*6,none⟩ (.int .i64 x.1)).setCell ⟨g,k*6+1,none⟩ (.int .i64 x.2.1)).setCell ⟨g,k*6+2,none⟩ (.int .i64 (cv x))).setCell ⟨g,k*6+3,none⟩ (.slice a5 ln c5)).setCell ⟨g,k*6+4,none⟩ (.int .i64 (ch x))).setCell ⟨g,k*6+5,none⟩ (.bool (cr x))).heap.size)):=by
    have hG:=(Gr.refl w5 (fun q=>q=g)).sixAt g (k*6) (.inl rfl) (.int .i64 x.1) (.int .i64 x.2.1) (.int .i64 (cv x)) (.slice a5 ln c5) (.int .i64 (ch x)) (.bool (cr x))
    have hO6:=Bs hO5 (k*6) (.int .i64 x.1) (.int .i64 x.2.1) (.int .i64 (cv x)) (.slice a5 ln c5) (.int .i64 (ch x)) (.bool (cr x))
    have hset:=J7 T (K.drop (k+1)) (x,la,ln,lc) (x,a5,ln,c5)
    rw[hTk] at hset
    simp only at hset
    rw[hset] at hO6
    have hXs:wr.heap.size≤X.heap.size:=(Za HBX).size
    have hGr:=Za HGr
    have hs5':=hbw5.size
    have hs6:=hG.size
    refine⟨T++[(x,a5,ln,c5)],?_,?_,?_,?_,?_,?_⟩
    ·show _=_;rw[List.map_append,Za HT,Za HTK];rfl
    ·show _=_;rw[List.length_append,hTk];rfl
    ·show World.ownsRow _ _ _ _ _ _ _
     rw[List.append_assoc]
     exact hO6
    ·intro z hz
     rcases List.mem_append.1 hz with hz|hz
     ·have h1:=((Za HLk) z hz).later hbw5
      exact⟨⟨h1.1.1.gr hG (fun ad e q=>by have:=h1.2 ad e;omega),h1.1.2⟩,h1.2⟩
     ·rw[List.mem_singleton.1 hz]
      have h3:∀ ad,a5=some ad→G≤ad.block:=fun ad e=>by have:=hba5 ad e;omega
      exact⟨⟨ho5.gr hG (fun ad e q=>by have:=h3 ad e;omega),hs5⟩,h3⟩
    ·exact hG.below (Ze (Za HB) hbw5) (by have:=Za HwG;omega) (fun q hq=>by omega)
    ·show _≤_;omega
   clear ho5 hs5 hba5 hb5 hbw5 hO5 hat HC HOr
   go_wp2
   go_roundw
   case rel=>
    obtain⟨T',f1,f2,f3,f4,f5,f6⟩:=Za TAIL
    exact⟨k+1,T',by omega,by go_num,f1,f2,f3,f4,f5,f6⟩
   case measure=>simp[intOf];omega
  ·have e:k=n:=by omega
   subst e
   have HR:Hid (Fresh w.heap.size wr (fun w2=>CoinsAt w2 a1 k L)∧SlOk a1 k c1):=by
    have h1:=Za HO
    have hKL:=Za HKL
    rw[List.drop_of_length_le (by omega),List.append_nil,←Za HTl] at h1
    have hF:Fresh w.heap.size wr (fun w2=>CoinsAt w2 a1 k L):=fun w2 hG=>by
     have h2:=hG.own h1 (fun q hq=>by have:=(h1.lt q hq).1;omega)
     obtain⟨a',c',e,h3,_⟩:=Z3 h2 (fun z hz=>⟨((Za HLk) z hz).1.1.gr hG (fun ad e q=>by have:=((Za HLk) z hz).2 ad e;have:=Za HwG;omega),((Za HLk) z hz).1.2⟩)
     cases e
     rw[Za HT,List.take_of_length_le (by rw[Za HZ];exact Nat.le_refl _)] at h3
     rw[Za HTl] at h3
     exact h3
    exact⟨hF,Za HS1⟩
   clear HO HT HTl HLk HG1
   go_wp2
   go_ret
   obtain⟨h1,h2⟩:=Za HR
   exact⟨_,_,rfl,h1,h2,Za HB⟩
theorem Rx:∀ (L:List Zg) (k:Nat),(∀ c∈L,0≤cv c∧cv c≤1000000000)→0≤Zp (L.take k)∧Zp (L.take k)≤1000000000*(k:Int)
 | [],k,_=>by simp[Zp];omega
 | c :: r,0,_=>by simp[Zp]
 | c :: r,k+1,h=>by
  have h1:=h c (List.mem_cons_self ..)
  have h2:=Rx r k (fun x hx=>h x (List.mem_cons_of_mem _ hx))
  rw[List.take_succ_cons,Wc]
  omega
theorem L7:∀ (L:List Zw) (k:Nat),(∀ c∈L,0≤c.1∧c.1≤1000000000)→0≤Xk (L.take k)∧Xk (L.take k)≤1000000000*(k:Int)
 | [],k,_=>by simp[Xk];omega
 | c :: r,0,_=>by simp[Xk]
 | c :: r,k+1,h=>by
  have h1:=h c (List.mem_cons_self ..)
  have h2:=L7 r k (fun x hx=>h x (List.mem_cons_of_mem _ hx))
  rw[List.take_succ_cons]
  have e:Xk (c :: r.take k)=c.1+Xk (r.take k):=by simp[Xk]
  rw[e]
  omega
theorem Zah(sa:Option Addr)(ns cs:Nat)(S:List Zg)(ht:Int)(ai ao:Option Addr)(ni ci no co:Nat)(O:List Zw)(x:Int)(w:World)(hns:ns≤6)(hno:no≤6)(hS:CoinsAt w sa ns S)(hO:OutsAt w ao no O)
  (hs:∀ c∈S,0≤cv c∧cv c≤1000000000) (ho:∀ c∈O,0≤c.1∧c.1≤1000000000) (hx:(if Zp S - Xk O<0∧decide (ni=0)=false then 9 else 0)=x) :
  Calls Tryz.prog 142 #[.slice sa ns cs,.agg #[.int .i64 ht,.slice ai ni ci,.slice ao no co]] w fun e w'=>e = .returned (.int .i64 x)∧Below w.heap.size w w':=by
 obtain⟨X0,hX0⟩:∃ X0,X0=w.alloc (.cells #[.int .i64 ht,.slice ai ni ci,.slice ao no co] 52):=⟨_,rfl⟩
 have hb0:Below w.heap.size w X0:=by rw[hX0];exact Zf _ _
 have hX1:X0.heap[w.heap.size]? = some (.cells [.int .i64 ht,.slice ai ni ci,.slice ao no co].toArray 52 (0,0)):=by rw[hX0];exact Zl _ _ _ _ _
 have HSB:=Zb (fun k=>Rx S k hs)
 have HOB:=Zb (fun k=>L7 O k ho)
 have HS:=Zb (hS.later hb0)
 have HO:=Zb (hO.later hb0)
 have HZS:=Zb hS.1
 have HZO:=Zb hO.1
 have HX:=Zb hx
 have HX1:=Zb hX1
 have HB0:=Zb hb0
 clear hS hO hs ho hx hX1 hb0
 go_enter Tryz.func142,Tryz.ntmps142
 go_wp2
 rw[←hX0]
 clear hX0
 go_loopw [5,12] (fun sv i wr=>∃ (k:Nat) (s:Int),k≤ns∧sv = .int .i64 s∧i = .int .i64 k∧Hid (s=Zp (S.take k))∧Hid (Below X0.heap.size X0 wr)) (fun _ i _=>ns - (intOf i).toNat)
 case atStart=>exact⟨0,0,Nat.zero_le _,rfl,rfl,rfl,Below.refl _ _⟩
 case round=>
  obtain⟨k,s,hk,rfl,rfl,A,HB⟩:=hrel
  by_cases hlt:k<ns
  ·have hlk:k<S.length:=by rw[Za HZS];exact hlt
   obtain⟨b,off,rfl,hbl,hcell⟩:=(Za HS).2 (by omega)
   have hin:=CoinAt.kept _ _ _ _ _ (Za HB) (hcell k hlk)
   have b1:=(Za HSB) k
   have b2:=(Za HSB) (k+1)
   have hst:=Ty S k hlk
   obtain⟨c,hc⟩:∃ c,S[k]=c:=⟨_,rfl⟩
   rw[hc] at hin hst
   obtain⟨la,ln,lc,g0,g1,g2,g3,g4,g5,_,_⟩:=hin.val
   obtain⟨v,hv⟩:∃ v,cv c=v:=⟨_,rfl⟩
   rw[hv] at g2 hst
   rw[←Za A] at b1 hst
   rw[hst] at b2
   have A2:Hid (s+v=Zp (S.take (k+1))):=hst.symm
   have HB2:=Zb (Ze (Za HB) (Zf wr (.cells #[.int .i64 c.1,.int .i64 c.2.1,.int .i64 v,.slice la ln lc,.int .i64 (ch c),.bool (cr c)] 103)))
   have hw1:IntKind.i64.wrap (s+v)=s+v:=by rw[IntKind.wrap_i64];omega
   clear hin hc hst A HB
   go_wp2
   go_roundw
   case rel=>exact⟨k+1,s+v,by omega,rfl,by go_num,A2,HB2⟩
   case measure=>simp[intOf];omega
  ·have e:k=ns:=by omega
   subst e
   have A2:Hid (s=Zp S):=by
    show _=_
    rw[Za A,List.take_of_length_le (by rw[Za HZS];exact Nat.le_refl _)]
   have b1:=(Za HSB) k
   rw[←Za A] at b1
   have hh:=((Za HB).block _ (lt_of_block (Za HX1))).trans (Za HX1)
   have c2:=Zd hh 2 _ rfl
   have hl:=lt_of_block hh
   clear A hh
   go_wp2
   go_loopw [5,25] (fun sv i wr2=>∃ (j:Nat) (d:Int),j≤no∧sv = .int .i64 d∧i = .int .i64 j∧Hid (d=s - Xk (O.take j))∧Hid (Below X0.heap.size X0 wr2)) (fun _ i _=>no - (intOf i).toNat)
   case atStart=>exact⟨0,s,Nat.zero_le _,rfl,rfl,(by simp[Xk]:s=s - Xk (O.take 0)),HB⟩
   case round=>
    obtain⟨j,d,hj,rfl,rfl,D,HD⟩:=hrel
    clear HB
    have hbd:=Za HD
    by_cases hlt:j<no
    ·have hlk:j<O.length:=by rw[Za HZO];exact hlt
     obtain⟨b,off,rfl,hbl,hcell⟩:=(Za HO).2 (by omega)
     have hin:=OutAt.kept _ _ _ _ _ hbd (hcell j hlk)
     have d1:=(Za HOB) j
     have d2:=(Za HOB) (j+1)
     have hst:=La O j hlk
     obtain⟨o,hc⟩:∃ o,O[j]=o:=⟨_,rfl⟩
     rw[hc] at hin hst
     obtain⟨q1,q2⟩:=o
     obtain⟨g0,la,ln,lc,g1,_,_⟩:=hin
     simp only at g0 g1 hst
     have hd:d=s - Xk (O.take j):=Za D
     have A3:Hid (d - q1=s - Xk (O.take (j+1))):=by show _=_;rw[hst];omega
     have HB2:=Zb (Ze (Za HD) (Zf wr (.cells #[.int .i64 q1,.slice la ln lc] 101)))
     have hw1:IntKind.i64.wrap (d - q1)=d - q1:=by rw[IntKind.wrap_i64];omega
     clear hc hst D HD hd d1 d2 hbd
     go_wp2
     go_roundw
     case rel=>exact⟨j+1,d - q1,by omega,rfl,by go_num,A3,HB2⟩
     case measure=>simp[intOf];omega
    ·have e:j=no:=by omega
     subst e
     have hd:d=Zp S - Xk O:=by
      have:=Za D
      rw[List.take_of_length_le (by rw[Za HZO];exact Nat.le_refl _),Za A2] at this
      exact this
     have hx:=Za HX
     rw[←hd] at hx
     have hh:=(hbd.block _ (lt_of_block (Za HX1))).trans (Za HX1)
     have e0:=Zd hh 0 _ rfl
     have e1:=Zd hh 1 _ rfl
     have e2:=Zd hh 2 _ rfl
     have hl2:=lt_of_block hh
     have HBD:=Zb (Ze (Za HB0) hbd)
     have IR:=Zb (fun w=>Jf ht ai ao ni ci j co (decide (ni=0)) w rfl)
     clear hh hbd D hd
     by_cases hneg:d<0
     ·cases hr:decide (ni=0) with
      | true=>
       have R:Hid (x=0):=by show _=_;rw[←hx,if_neg (by rw[hr];simp)]
       rw[hr] at IR
       clear hx hr
       go_wp2_with fail
       refine ((Za IR) _).mono ?_
       rintro e w3 ⟨rfl,hb3⟩
       have HB3:=Zb (Ze (Za HBD) hb3)
       clear hb3
       go_wp2
       go_ret
       exact⟨by rw[Za R];rfl,Za HB3⟩
      | false=>
       have R:Hid (x=9):=by show _=_;rw[←hx,if_pos ⟨hneg,hr⟩]
       rw[hr] at IR
       clear hx hr
       go_wp2_with fail
       refine ((Za IR) _).mono ?_
       rintro e w3 ⟨rfl,hb3⟩
       have HB3:=Zb (Ze (Za HBD) hb3)
       clear hb3
       go_wp2
       go_ret
       exact⟨by rw[Za R];rfl,Za HB3⟩
     ·have R:Hid (x=0):=by show _=_;rw[←hx,if_neg (fun q=>hneg q.1)]
      clear hx
      go_wp2
      go_ret
      exact⟨by rw[Za R];rfl,Za HBD⟩
theorem Bx(sa:Option Addr)(ns cs:Nat)(S:List Zg)(ht:Int)(ai ao:Option Addr)(ni ci no co:Nat)(O:List Zw)(x:Int)(w:World)(hns:ns≤6)(hno:no≤6)(hS:CoinsAt w sa ns S)(hO:OutsAt w ao no O)
  (hs:∀ c∈S,0≤cv c∧cv c≤1000000000) (ho:∀ c∈O,0≤c.1∧c.1≤1000000000) (hx:Zp S - Xk O=x) :
  Calls Tryz.prog 61 #[.agg #[.int .i64 ht,.slice ai ni ci,.slice ao no co],.slice sa ns cs] w fun e w'=>e = .returned (.int .i64 x)∧Below w.heap.size w w':=by
 obtain⟨X0,hX0⟩:∃ X0,X0=w.alloc (.cells #[.int .i64 ht,.slice ai ni ci,.slice ao no co] 52):=⟨_,rfl⟩
 have hb0:Below w.heap.size w X0:=by rw[hX0];exact Zf _ _
 have hX1:X0.heap[w.heap.size]? = some (.cells [.int .i64 ht,.slice ai ni ci,.slice ao no co].toArray 52 (0,0)):=by rw[hX0];exact Zl _ _ _ _ _
 have HSB:=Zb (fun k=>Rx S k hs)
 have HOB:=Zb (fun k=>L7 O k ho)
 have HS:=Zb (hS.later hb0)
 have HO:=Zb (hO.later hb0)
 have HZS:=Zb hS.1
 have HZO:=Zb hO.1
 have HX:=Zb hx
 have HX1:=Zb hX1
 have HB0:=Zb hb0
 clear hS hO hs ho hx hX1 hb0
 go_enter Tryz.func61,Tryz.ntmps61
 go_wp2
 rw[←hX0]
 clear hX0
 go_loopw [5,12] (fun sv i wr=>∃ (k:Nat) (s:Int),k≤ns∧sv = .int .i64 s∧i = .int .i64 k∧Hid (s=Zp (S.take k))∧Hid (Below X0.heap.size X0 wr)) (fun _ i _=>ns - (intOf i).toNat)
 case atStart=>exact⟨0,0,Nat.zero_le _,rfl,rfl,rfl,Below.refl _ _⟩
 case round=>
  obtain⟨k,s,hk,rfl,rfl,A,HB⟩:=hrel
  by_cases hlt:k<ns
  ·have hlk:k<S.length:=by rw[Za HZS];exact hlt
   obtain⟨b,off,rfl,hbl,hcell⟩:=(Za HS).2 (by omega)
   have hin:=CoinAt.kept _ _ _ _ _ (Za HB) (hcell k hlk)
   have b1:=(Za HSB) k
   have b2:=(Za HSB) (k+1)
   have hst:=Ty S k hlk
   obtain⟨c,hc⟩:∃ c,S[k]=c:=⟨_,rfl⟩
   rw[hc] at hin hst
   obtain⟨la,ln,lc,g0,g1,g2,g3,g4,g5,_,_⟩:=hin.val
   obtain⟨v,hv⟩:∃ v,cv c=v:=⟨_,rfl⟩
   rw[hv] at g2 hst
   rw[←Za A] at b1 hst
   rw[hst] at b2
   have A2:Hid (s+v=Zp (S.take (k+1))):=hst.symm
   have HB2:=Zb (Ze (Za HB) (Zf wr (.cells #[.int .i64 c.1,.int .i64 c.2.1,.int .i64 v,.slice la ln lc,.int .i64 (ch c),.bool (cr c)] 103)))
   have hw1:IntKind.i64.wrap (s+v)=s+v:=by rw[IntKind.wrap_i64];omega
   clear hin hc hst A HB
   go_wp2
   go_roundw
   case rel=>exact⟨k+1,s+v,by omega,rfl,by go_num,A2,HB2⟩
   case measure=>simp[intOf];omega
  ·have e:k=ns:=by omega
   subst e
   have A2:Hid (s=Zp S):=by
    show _=_
    rw[Za A,List.take_of_length_le (by rw[Za HZS];exact Nat.le_refl _)]
   have b1:=(Za HSB) k
   rw[←Za A] at b1
   have hh:=((Za HB).block _ (lt_of_block (Za HX1))).trans (Za HX1)
   have c2:=Zd hh 2 _ rfl
   have hl:=lt_of_block hh
   clear A hh
   go_wp2
   go_loopw [5,25] (fun sv i wr2=>∃ (j:Nat) (d:Int),j≤no∧sv = .int .i64 d∧i = .int .i64 j∧Hid (d=s - Xk (O.take j))∧Hid (Below X0.heap.size X0 wr2)) (fun _ i _=>no - (intOf i).toNat)
   case atStart=>exact⟨0,s,Nat.zero_le _,rfl,rfl,(by simp[Xk]:s=s - Xk (O.take 0)),HB⟩
   case round=>
    obtain⟨j,d,hj,rfl,rfl,D,HD⟩:=hrel
    clear HB
    have hbd:=Za HD
    by_cases hlt:j<no
    ·have hlk:j<O.length:=by rw[Za HZO];exact hlt
     obtain⟨b,off,rfl,hbl,hcell⟩:=(Za HO).2 (by omega)
     have hin:=OutAt.kept _ _ _ _ _ hbd (hcell j hlk)
     have d1:=(Za HOB) j
     have d2:=(Za HOB) (j+1)
     have hst:=La O j hlk
     obtain⟨o,hc⟩:∃ o,O[j]=o:=⟨_,rfl⟩
     rw[hc] at hin hst
     obtain⟨q1,q2⟩:=o
     obtain⟨g0,la,ln,lc,g1,_,_⟩:=hin
     simp only at g0 g1 hst
     have hd:d=s - Xk (O.take j):=Za D
     have A3:Hid (d - q1=s - Xk (O.take (j+1))):=by show _=_;rw[hst];omega
     have HB2:=Zb (Ze (Za HD) (Zf wr (.cells #[.int .i64 q1,.slice la ln lc] 101)))
     have hw1:IntKind.i64.wrap (d - q1)=d - q1:=by rw[IntKind.wrap_i64];omega
     clear hc hst D HD hd d1 d2 hbd
     go_wp2
     go_roundw
     case rel=>exact⟨j+1,d - q1,by omega,rfl,by go_num,A3,HB2⟩
     case measure=>simp[intOf];omega
    ·have e:j=no:=by omega
     subst e
     have hd:d=Zp S - Xk O:=by
      have:=Za D
      rw[List.take_of_length_le (by rw[Za HZO];exact Nat.le_refl _),Za A2] at this
      exact this
     have HBD:=Zb (Ze (Za HB0) hbd)
     have R:Hid (x=d):=by show _=_;rw[←Za HX,hd]
     clear hbd D hd
     go_wp2
     go_ret
     exact⟨by rw[Za R];rfl,Za HBD⟩
end Go.Proofs.YtpikejjiignchaaGreatDoor
