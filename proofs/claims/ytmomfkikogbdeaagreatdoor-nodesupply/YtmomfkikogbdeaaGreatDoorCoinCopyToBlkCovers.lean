/- Contracts of what copies coins: a lock in memory of its own, a coin, a row of them. -/
import Derived.Test.YtmomfkikogbdeaaGreatDoorCoinSpendBToTxParts
import Derived.Test.YtmomfkikogbdeaaGreatDoorTxCheckToTxCheckD
import Derived.Test.YtmomfkikogbdeaaGreatDoorCoinCheckBToCoinInsert
import Derived.Test.YtmomfkikogbdeaaGreatDoorCoinGive
import Derived.Test.YtmomfkikogbdeaaGreatDoorBlkNamesBToBlkReward
import Derived.Test.YtmomfkikogbdeaaGreatDoorLockPrintToBlkPrint
set_option maxHeartbeats 12800000
set_option maxRecDepth 10000
namespace Go.Proofs.YtmomfkikogbdeaaGreatDoor
open Go.RowKit
def Yr:List (Int×Int)→List Value
 | []=>[]
 | o :: r=>.int .i64 o.1 :: .int .i64 o.2 :: Yr r
theorem Yu:∀ l:List (Int×Int),(Yr l).length=l.length*2
 | []=>rfl
 | _ :: r=>by simp only[Yr,List.length_cons,Yu r];omega
theorem Q4:∀ (l:List (Int×Int)) (i:Nat),i<l.length→(Yr l)[i*2]? = some (.int .i64 (l.getD i (0,0)).1)∧(Yr l)[i*2+1]? = some (.int .i64 (l.getD i (0,0)).2)
 | [],_,h=>absurd h (by simp)
 | o :: r,0,_=>⟨rfl,rfl⟩
 | o :: r,i+1,h=>by
  have:=Q4 r i (by simpa using h)
  rw[show (i+1)*2=i*2+2 by omega]
  simpa[Yr] using this
theorem Uo:∀ (l:List (Int×Int)) (u:Value),u∈Yr l→u.oneCell'=true
 | [],u,h=>by cases h
 | o :: r,u,h=>by
  simp only[Yr,List.mem_cons] at h
  rcases h with rfl|rfl|h
  ·rfl
  ·rfl
  ·exact Uo r u h
theorem Uf{w:World}{b off n:Nat}{l:List (Int×Int)}(hz:l.length=n)(hc:∀ i,i<n→w.cell? ⟨b,off+i*2,none⟩=some (.int .i64 (l.getD i (0,0)).1)∧w.cell? ⟨b,off+i*2+1,none⟩=some (.int .i64 (l.getD i (0,0)).2))(j:Nat)(u:Value)(hj:(Yr l)[j]? = some u):w.cell? ⟨b,off+j,none⟩=some u:=by
 have hjl:j<l.length*2:=by rw[←Yu];exact (List.getElem?_eq_some_iff.1 hj).1
 obtain⟨f0,f1⟩:=Q4 l (j / 2) (by omega)
 obtain⟨c0,c1⟩:=hc (j / 2) (by omega)
 rcases (show j % 2=0∨j % 2=1 by omega) with q|q
 ·have e:j=j / 2*2:=by omega
  rw[←e] at f0 c0
  rw[f0] at hj
  rw[c0,←hj]
 ·have e:j=j / 2*2+1:=by omega
  rw[←e] at f1
  rw[show off+j / 2*2+1=off+j by omega] at c1
  rw[f1] at hj
  rw[c1,←hj]
theorem ops_own{w:World}{base:Nat}{v:Value}{n:Nat}{l:List (Int×Int)}(h:w.ownsRow base 164 2 v n (Yr l)):∃ a c,v = .slice a n c∧OpsAt w a n l∧SlOk a n c∧(∀ ad,a=some ad→base≤ad.block):=by
 have hl:l.length=n:=by have:=h.1;rw[Yu] at this;omega
 rcases h.2 with ⟨rfl,rfl⟩|⟨g,cap,cur,rfl,hg,hh,h1,h2,h3,h4⟩
 ·exact⟨none,0,rfl,⟨hl,fun h=>absurd h (by omega)⟩,⟨Nat.le_refl _,Nat.zero_le _,fun _=>⟨rfl,rfl⟩⟩,fun ad e=>by cases e⟩
 ·refine⟨_,cap,rfl,⟨hl,fun _=>⟨g,0,rfl,fun i hi=>?_⟩⟩,⟨h1,h2,fun e=>by cases e⟩,fun ad e=>by cases e;exact hg⟩
  obtain⟨f0,f1⟩:=Q4 l i (by omega)
  rw[Nat.zero_add,World.ownsRow.cellAt h _ (by omega),World.ownsRow.cellAt h _ (by omega)]
  exact⟨f0,f1⟩
theorem Tryz.infoOpC:(Tryz.prog.info? 164).map (fun i=>(i.zero,i.size,i.bytes))=some (some (.agg #[.int .i64 0,.int .i64 0]),2,16):=by kernel_rfl
theorem Ui(w:World):Calls Tryz.prog 150 #[.slice none 0 0] w fun e w'=>e = .returned (.slice none 0 0)∧w=w':=by
 have he:=fun w=>Lib.run_eql_slice_nil (P:=Tryz.prog) w 48 164 none 0 0 0 0 Tryz.underlying48
 go_enter Tryz.func150,Tryz.ntmps150
 go_wp2
 go_ret
 exact⟨rfl,rfl⟩
theorem cloneOp_some(ad:Addr)(n c:Nat)(l:List (Int×Int))(w:World)(hn:n≤4096)(hz:l.length=n)(hc:∀ j u,(Yr l)[j]? = some u→w.cell? (ad.add j)=some u) :
  Calls Tryz.prog 150 #[.slice (some ad) n c] w fun e w'=>∃ v,e = .returned v∧w'.ownsRow w.heap.size 164 2 v n (Yr l)∧Below w.heap.size w w':=by
 obtain⟨i0,hi,hz0,hz1,hz2⟩:=info_parts Tryz.infoOpC
 have hb:=bel_new w (.cells #[] 164)
 have HC:Hid (∀ j u,(Yr l)[j]? = some u→(w.alloc (.cells #[] 164)).cell? (ad.add j)=some u):=fun j u hj=>cell_later hb (hc j u hj)
 have HB:=hide hb
 have HZ:=hide hz
 have HO:=hide (Wl w 164 2)
 have he:=fun w=>Lib.run_eql_slice_nil (P:=Tryz.prog) w 48 164 (some ad) n c 0 0 Tryz.underlying48
 clear hc hb hz
 go_enter Tryz.func150,Tryz.ntmps150
 go_wp2_with (at_builtin;refine wpList_append_own _ rfl _ _ 48 rfl w.heap.size 164 i0 (.agg #[.int .i64 0,.int .i64 0]) 2 16 Tryz.underlying48 hi hz0 hz1 hz2 rfl (by decide) _ _ _ rfl (unhide HO) ad n c (Yr l) rfl (by rw[Yu,unhide HZ]) (unhide HC) (Uo l) (by unfold maxLen;omega) (by omega) (unhide HB).size ?_;intro v2 w3 hown3 hgrow3 _)
 have HW:Hid (w3.ownsRow w.heap.size 164 2 v2 n (Yr l)):=by show World.ownsRow _ _ _ _ _ _ _;simpa using hown3
 have HB3:=hide ((unhide HB).grown hgrow3 (unhide HB).size (Xo (unhide HO)))
 clear hown3 hgrow3
 go_wp2
 go_ret
 exact⟨v2,rfl,unhide HW,unhide HB3⟩
theorem cloneOp_any(a:Option Addr)(n c:Nat)(l:List (Int×Int))(w:World)(hn:n≤4096)(h:OpsAt w a n l)(hs:SlOk a n c) :
  Calls Tryz.prog 150 #[.slice a n c] w fun e w'=>∃ a' c',e = .returned (.slice a' n c')∧OpsAt w' a' n l∧SlOk a' n c'∧(∀ ad,a'=some ad→w.heap.size≤ad.block)∧Below w.heap.size w w':=by
 obtain⟨hl,hc⟩:=h
 cases a with
 | none=>
  obtain⟨rfl,rfl⟩:=hs.2.2 rfl
  exact (Ui w).mono fun e w' ⟨x,y⟩=>⟨none,0,x,⟨hl,fun h=>absurd h (by omega)⟩,hs,fun ad e=>(by cases e),y ▸ Below.refl _ _⟩
 | some ad=>
  have hc2:∀ j u,(Yr l)[j]? = some u→w.cell? (ad.add j)=some u:=fun j u hj=>by
   have hjl:j<l.length*2:=by rw[←Yu];exact (List.getElem?_eq_some_iff.1 hj).1
   obtain⟨b,off,e,hcell⟩:=hc (by omega)
   cases e
   rw[Addr.add_lit]
   exact Uf hl hcell j u hj
  refine (cloneOp_some ad n c l w hn hl hc2).mono ?_
  rintro e w' ⟨v,rfl,x,y⟩
  obtain⟨a',c',rfl,h1,h2,h3⟩:=ops_own x
  exact⟨a',c',rfl,h1,h2,h3,y⟩
theorem Ut{fn:Func}{p:Tmp}{ty:TypeId}(h:fn.results=#[.cell p ty])(tmps:Array Value)(P:Program)(w:World) :
  (results fn tmps).run P w=((asAddr (tmps.getD p undef)).run P w).andThen fun a w₁=>(loadVar ty a).run P w₁:=by
 simp only[results,h]
 simp[Sem.run_bind,Result.andThen]
theorem OpsAt.gr{w w':World}{S:Nat→Prop}{a:Option Addr}{n:Nat}{l:List (Int×Int)}(h:OpsAt w a n l)(g:Gr w w' S)(hn:∀ ad,a=some ad→¬S ad.block):OpsAt w' a n l:=by
 refine⟨h.1,fun h0=>?_⟩
 obtain⟨b,off,rfl,hc⟩:=h.2 h0
 refine⟨b,off,rfl,fun i hi=>?_⟩
 obtain⟨c0,c1⟩:=hc i hi
 have hb:=g.block b (World.block_lt_of_cell? _ _ c0) (hn _ rfl)
 exact⟨(World.cell?_of_block (a:=⟨b,off+i*2,none⟩) hb).trans c0,(World.cell?_of_block (a:=⟨b,off+i*2+1,none⟩) hb).trans c1⟩
theorem outCopy_is(x:Int)(a:Option Addr)(n c:Nat)(l:List (Int×Int))(w:World)(hn:n≤4096)(h:OpsAt w a n l)(hs:SlOk a n c) :
  Calls Tryz.prog 161 #[.agg #[.int .i64 x,.slice a n c]] w fun e w'=>∃ a' c',e = .returned (.agg #[.int .i64 x,.slice a' n c'])∧OpsAt w' a' n l∧SlOk a' n c'∧(∀ ad,a'=some ad→w.heap.size≤ad.block)∧Below w.heap.size w w':=by
 obtain⟨X,hX⟩:∃ X,X=(w.alloc (.cells #[.int .i64 x,.slice a n c] 122)).alloc (.cells #[.int .i64 0,.slice none 0 0] 122):=⟨_,rfl⟩
 have hbX:Below w.heap.size w X:=by rw[hX];exact bel_on (bel_new _ _) (bel_new _ _)
 have x0:X.cell? ⟨w.heap.size,0,none⟩=some (.int .i64 x):=by rw[hX];exact cell_later (bel_new _ _) (Zu w _ _ _).1
 have x1:X.cell? ⟨w.heap.size,1,none⟩=some (.slice a n c):=by rw[hX];exact cell_later (bel_new _ _) (Zu w _ _ _).2
 have hX1:X.heap[w.heap.size+1]? = some (.cells [.int .i64 0,.slice none 0 0].toArray 122 (0,0)):=by
  rw[hX]
  have:=heap_alloc_new (w.alloc (.cells #[.int .i64 x,.slice a n c] 122)) (.cells #[.int .i64 0,.slice none 0 0] 122)
  rw[show (w.alloc (.cells #[.int .i64 x,.slice a n c] 122)).heap.size=w.heap.size+1 by simp] at this
  exact this
 have C:=hide (cloneOp_any a n c l X.drew hn (h.later (bel_on hbX (Ze X))) hs)
 have HX1:=hide hX1
 have HBX:=hide hbX
 clear h hs hbX hX1
 go_enter Tryz.func161,Tryz.ntmps161
 go_wp2_with fail
 rw[←hX]
 clear hX
 go_region_with (go_at_call 150;refine (unhide C).mono ?_;rintro e w3 ⟨a',c',rfl,ho3,hs3,hb3',hb3⟩;have o2:w3.cell? ⟨w.heap.size,0,none⟩=some (.int .i64 x):=cell_later hb3 (cell_later (Ze _) x0);have hz3:=(hb3.block _ (lt_of_block (unhide HX1))).trans (unhide HX1);have c0:=Za hz3 0 _ rfl;have c1:=Za hz3 1 _ rfl;have f0:=Zb hz3 0;have f1:=Zb hz3 1;have H3:Hid (OpsAt w3 a' n l∧SlOk a' n c'∧(∀ ad,a'=some ad→X.heap.size≤ad.block)∧Below X.drew.heap.size X.drew w3):=⟨ho3,hs3,hb3',hb3⟩;clear ho3 hs3 hb3' hb3 hz3)
 all_goals
  go_wp2
  (try simp only[Exit.inBlock,Exit.then])
  obtain⟨ho3,hs3,hb3',hb3⟩:=unhide H3
  have hG:=((Gr.refl w3 (fun q=>q=w.heap.size+1)).one (w.heap.size+1) 0 (.inl rfl) (.int .i64 x)).one (w.heap.size+1) 1 (.inl rfl) (.slice a' n c')
  have hlt:=lt_of_block (unhide HX1)
  refine bodyPost_ret (v:=.agg #[.int .i64 x,.slice a' n c']) ?_ rfl ⟨a',c',rfl,ho3.gr hG (fun ad e q=>?_),hs3,fun ad e=>?_,?_⟩
  ·rw[Ut rfl]
   go_simp
  ·have:=hb3' ad e;omega
  ·have:=hb3' ad e;omega
  ·have hsz:X.heap.size≤w3.heap.size:=hb3.size
   exact hG.below (bel_on (bel_on (unhide HBX) (Ze _)) hb3) (by omega) (fun k hk=>by omega)
theorem Lh(x:Zd)(a:Option Addr)(n c:Nat)(w:World)(hn:n≤4096)(h:OpsAt w a n (ck x))(hs:SlOk a n c) :
  Calls Tryz.prog 139 #[cnV x a n c] w fun e w'=>∃ a' c',e = .returned (cnV x a' n c')∧OpsAt w' a' n (ck x)∧SlOk a' n c'∧(∀ ad,a'=some ad→w.heap.size≤ad.block)∧Below w.heap.size w w':=by
 unfold cnV
 obtain⟨X,hX⟩:∃ X,X=(w.alloc (.cells #[.int .i64 x.1,.int .i64 x.2.1,.int .i64 (cv x),.slice a n c,.int .i64 (ch x),.bool (cr x)] 124)).alloc (.cells #[.int .i64 0,.int .i64 0,.int .i64 0,.slice none 0 0,.int .i64 0,.bool false] 124):=⟨_,rfl⟩
 have hbX:Below w.heap.size w X:=by rw[hX];exact bel_on (bel_new _ _) (bel_new _ _)
 have hX0:X.heap[w.heap.size]? = some (.cells [.int .i64 x.1,.int .i64 x.2.1,.int .i64 (cv x),.slice a n c,.int .i64 (ch x),.bool (cr x)].toArray 124 (0,0)):=by
  rw[hX,Below.heap_alloc _ _ _ (by simp)];exact Xn _ _ _ _ _ _ _ _
 have hX1:X.heap[w.heap.size+1]? = some (.cells zeroCs.toArray 124 (0,0)):=by
  rw[hX]
  have:=heap_alloc_new (w.alloc (.cells #[.int .i64 x.1,.int .i64 x.2.1,.int .i64 (cv x),.slice a n c,.int .i64 (ch x),.bool (cr x)] 124)) (.cells zeroCs.toArray 124)
  rw[show (w.alloc (.cells #[.int .i64 x.1,.int .i64 x.2.1,.int .i64 (cv x),.slice a n c,.int .i64 (ch x),.bool (cr x)] 124)).heap.size=w.heap.size+1 by simp] at this
  exact this
 have C:=hide (outCopy_is (cv x) a n c (ck x) X hn (h.later hbX) hs)
 have HX0:=hide hX0
 have HX1:=hide hX1
 have HBX:=hide hbX
 have x2:=Za hX0 2 _ rfl
 have x3:=Za hX0 3 _ rfl
 clear h hs hbX hX1 hX0
 go_enter Tryz.func139,Tryz.ntmps139
 go_wp2_with fail
 rw[←hX]
 clear hX x2 x3
 refine (unhide C).mono ?_
 rintro e w3 ⟨a',c',rfl,ho3,hs3,hb3',hb3⟩
 have h0:=(hb3.block _ (lt_of_block (unhide HX0))).trans (unhide HX0)
 have h1:=(hb3.block _ (lt_of_block (unhide HX1))).trans (unhide HX1)
 have c0:=Za h0 0 _ rfl
 have c1:=Za h0 1 _ rfl
 have c2:=Za h0 2 _ rfl
 have c3:=Za h0 3 _ rfl
 have c4:=Za h0 4 _ rfl
 have c5:=Za h0 5 _ rfl
 have f2:=Zb h0 2
 have f3:=Zb h0 3
 have z0:=Za h1 0 _ rfl
 have z1:=Za h1 1 _ rfl
 have z2:=Za h1 2 _ rfl
 have z3:=Za h1 3 _ rfl
 have z4:=Za h1 4 _ rfl
 have z5:=Za h1 5 _ rfl
 have y0:=Zb h1 0
 have y1:=Zb h1 1
 have y2:=Zb h1 2
 have y3:=Zb h1 3
 have y4:=Zb h1 4
 have y5:=Zb h1 5
 have HX2:Hid (w.heap.size+1<X.heap.size):=lt_of_block (unhide HX1)
 have H3:Hid (OpsAt w3 a' n (ck x)∧SlOk a' n c'∧(∀ ad,a'=some ad→X.heap.size≤ad.block)∧Below X.heap.size X w3):=⟨ho3,hs3,hb3',hb3⟩
 clear ho3 hs3 hb3' hb3 h0 h1
 go_wp2
 (try simp only[Exit.inBlock,Exit.then])
 obtain⟨ho3,hs3,hb3',hb3⟩:=unhide H3
 have hlt:=unhide HX2
 have hG:=(((Gr.refl w3 (fun q=>q=w.heap.size∨q=w.heap.size+1)).one w.heap.size 2 (.inl (.inl rfl)) (.int .i64 (cv x))).one w.heap.size 3 (.inl (.inl rfl)) (.slice a' n c')).six (w.heap.size+1) (.inl (.inr rfl)) (.int .i64 x.1) (.int .i64 x.2.1) (.int .i64 (cv x)) (.slice a' n c') (.int .i64 (ch x)) (.bool (cr x))
 refine bodyPost_ret (v:=.agg #[.int .i64 x.1,.int .i64 x.2.1,.int .i64 (cv x),.slice a' n c',.int .i64 (ch x),.bool (cr x)]) ?_ rfl ⟨a',c',rfl,ho3.gr hG (fun ad e q=>?_),hs3,fun ad e=>?_,?_⟩
 ·rw[Ut rfl]
  go_simp
 ·have:=hb3' ad e;rcases q with q|q <;> omega
 ·have:=hb3' ad e;omega
 ·exact hG.below (bel_on (unhide HBX) hb3) (Nat.le_of_lt (Nat.lt_of_lt_of_le (by omega) hb3.size)) (fun k hk=>by rcases hk with q|q <;> omega)
def LkIn(w:World)(s:Nat)(x:CV):Prop:=LkAt w x∧∀ ad,x.2.1=some ad→s≤ad.block
theorem LkIn.later{w w':World}{s:Nat}{x:CV}(h:LkIn w s x)(hb:Below w.heap.size w w'):LkIn w' s x:=⟨h.1.later hb,h.2⟩
def Fresh(B:Nat)(w:World)(Q:World→Prop):Prop:=∀ w2,Gr w w2 (fun k=>k<B)→Q w2
theorem Az{w:World}{base:Nat}{e:TypeId}{size:Nat}{v:Value}{n:Nat}{xs:List Value}(h:w.ownsRow base e size v n xs):∃ a c,v = .slice a n c∧SlOk a n c∧(0<n→∃ g,a=some ⟨g,0,none⟩∧base≤g∧g<w.heap.size):=by
 rcases h.2 with ⟨rfl,rfl⟩|⟨g,cap,cur,rfl,hg,hh,h1,h2,h3,h4⟩
 ·exact⟨none,0,rfl,⟨Nat.le_refl _,Nat.zero_le _,fun _=>⟨rfl,rfl⟩⟩,fun h=>absurd h (by omega)⟩
 ·exact⟨_,cap,rfl,⟨h1,h2,fun e=>by cases e⟩,fun _=>⟨g,rfl,hg,lt_of_block hh⟩⟩
theorem Vu(a:Option Addr)(n c:Nat)(L:List Zd)(w:World)(hn:n≤4096)(h:CoinsAt w a n L)(hsl:SlOk a n c)(hk:∀ x∈L,(ck x).length≤4096) :
  Calls Tryz.prog 66 #[.slice a n c] w fun e w'=>∃ a' c',e = .returned (.slice a' n c')∧Fresh w.heap.size w' (fun w2=>CoinsAt w2 a' n L)∧SlOk a' n c'∧Below w.heap.size w w':=by
 have C1:=hide (U4 a n c L w hn h hsl)
 have HZ:=hide h.1
 have HK:=hide hk
 clear h hk hsl
 go_enter Tryz.func66,Tryz.ntmps66
 go_wp2_with fail
 refine (unhide C1).mono ?_
 rintro e w2 ⟨v,K,rfl,hK,hlk,hown,hb2⟩
 have hKn:K.length=n:=by rw[←unhide HZ,←hK,List.length_map]
 rw[hKn] at hown
 obtain⟨a1,c1,rfl,hs1,hg1⟩:=Az hown
 obtain⟨G,hG⟩:∃ G,w2.heap.size=G:=⟨_,rfl⟩
 rw[hG] at hg1
 have HG1:=hide hg1
 have HS1:=hide hs1
 have HKK:=hide hK
 have HKL:=hide hKn
 have HLK:=hide hlk
 have ST:Hid (w2.ownsRow w.heap.size 124 6 (.slice a1 n c1) n (Zh ([]++K.drop 0))):=hown
 have HB2:=hide hb2
 have HGl:Hid (G≤w2.heap.size):=Nat.le_of_eq hG.symm
 have HwG:Hid (w.heap.size≤G):=by rw[←hG];exact hb2.size
 clear hown hb2 hK hlk hs1 hg1 C1 hG hKn
 go_wp2_with fail
 go_loopw [9] (fun i wr=>∃ (k:Nat) (T:List CV),k≤n∧i = .int .i64 k∧Hid (T.map (·.1)=L.take k)∧Hid (T.length=k)∧Hid (wr.ownsRow w.heap.size 124 6 (.slice a1 n c1) n (Zh (T++K.drop k)))∧Hid (∀ z∈T,LkIn wr G z)∧Hid (Below w.heap.size w wr)∧Hid (G≤wr.heap.size)) (fun i _=>n - (intOf i).toNat)
 case atStart=>exact⟨0,[],Nat.zero_le _,rfl,rfl,rfl,ST,(fun z hz=>(by cases hz):∀ z∈([]:List CV),LkIn w2 G z),HB2,HGl⟩
 case round=>
  obtain⟨k,T,hk,rfl,HT,HTl,HO,HLk,HB,HGr⟩:=hrel
  clear ST HB2 HGl
  by_cases hlt:k<n
  ·have hlk:k<L.length:=by rw[unhide HZ];exact hlt
   have hkK:k<K.length:=by rw[unhide HKL];exact hlt
   obtain⟨g,rfl,hgw,hgG⟩:=(unhide HG1) (by omega)
   have hKx:(K[k]).1=L[k]:=by
    have:=unhide HKK
    subst this
    rw[List.getElem_map]
   have hkl:=(unhide HK) _ (List.getElem_mem hlk)
   have hLK:=((unhide HLK) _ (List.getElem_mem hkK)).later (unhide HB)
   have HTK:Hid (L.take (k+1)=L.take k++[L[k]]):=List.take_succ_eq_append_getElem hlk
   have HR':Hid (T++K.drop k=T++K[k] :: K.drop (k+1)):=by
    show _=_
    rw[List.drop_eq_getElem_cons hkK]
   obtain⟨z,hz⟩:∃ z,K[k]=z:=⟨_,rfl⟩
   rw[hz] at hKx HR' hLK
   rw[←hKx] at HTK hkl
   obtain⟨x,la,ln,lc⟩:=z
   simp only at HTK hkl
   obtain⟨hO4,hs4⟩:=hLK
   simp only at hO4 hs4
   have hln:ln≤4096:=by rw[←hO4.1];exact hkl
   have hTk:=unhide HTl
   have hOr:=unhide HO
   rw[unhide HR'] at hOr
   have har:∀ j,j<6→wr.cell? ⟨g,k*6+j,none⟩=(Hw (x,la,ln,lc))[j]?:=fun j hj=>by
    rw[World.ownsRow.cellAt hOr _ (by omega),←hTk,Vt _ _ _ j hj]
   have g0:wr.cell? ⟨g,k*6,none⟩=some (.int .i64 x.1):=(har 0 (by decide)).trans rfl
   have g1:wr.cell? ⟨g,k*6+1,none⟩=some (.int .i64 x.2.1):=(har 1 (by decide)).trans rfl
   have g2:wr.cell? ⟨g,k*6+2,none⟩=some (.int .i64 (cv x)):=(har 2 (by decide)).trans rfl
   have g3:wr.cell? ⟨g,k*6+3,none⟩=some (.slice la ln lc):=(har 3 (by decide)).trans rfl
   have g4:wr.cell? ⟨g,k*6+4,none⟩=some (.int .i64 (ch x)):=(har 4 (by decide)).trans rfl
   have g5:wr.cell? ⟨g,k*6+5,none⟩=some (.bool (cr x)):=(har 5 (by decide)).trans rfl
   obtain⟨X,hX⟩:∃ X,X=wr.alloc (.cells #[.int .i64 x.1,.int .i64 x.2.1,.int .i64 (cv x),.slice la ln lc,.int .i64 (ch x),.bool (cr x)] 124):=⟨_,rfl⟩
   have hbX:Below wr.heap.size wr X:=by rw[hX];exact bel_new _ _
   have C:=Lh x la ln lc X hln (hO4.later hbX) hs4
   unfold cnV at C
   have HC:=hide C
   have HBX:=hide hbX
   have hkI:(k:Int)<(n:Int):=by omega
   have HOr:=hide hOr
   clear C hbX hO4 hs4 hkl hOr har hKx hz
   go_wp2_with fail
   rw[←hX]
   clear hX g0 g1 g2 g3 g4 g5
   refine (unhide HC).mono ?_
   rintro e w5 ⟨a5,c5,rfl,ho5,hs5,hba5,hb5⟩
   have hbw5:=bel_on (unhide HBX) hb5
   have hO5:=(Gr.of (S:=fun _=>False) hbw5).own (unhide HOr) (fun _ _ q=>q)
   have hat:∀ j,j<6→w5.cell? ⟨g,k*6+j,none⟩=(Hw (x,la,ln,lc))[j]?:=fun j hj=>by
    rw[World.ownsRow.cellAt hO5 _ (by omega),←hTk,Vt _ _ _ j hj]
   have t0:w5.cell? ⟨g,k*6,none⟩=some (.int .i64 x.1):=(hat 0 (by decide)).trans rfl
   have t1:w5.cell? ⟨g,k*6+1,none⟩=some (.int .i64 x.2.1):=(hat 1 (by decide)).trans rfl
   have t2:w5.cell? ⟨g,k*6+2,none⟩=some (.int .i64 (cv x)):=(hat 2 (by decide)).trans rfl
   have t3:w5.cell? ⟨g,k*6+3,none⟩=some (.slice la ln lc):=(hat 3 (by decide)).trans rfl
   have t4:w5.cell? ⟨g,k*6+4,none⟩=some (.int .i64 (ch x)):=(hat 4 (by decide)).trans rfl
   have t5:w5.cell? ⟨g,k*6+5,none⟩=some (.bool (cr x)):=(hat 5 (by decide)).trans rfl
   have z0:=hO5.frozenAt (k*6)
   have z1:=hO5.frozenAt (k*6+1)
   have z2:=hO5.frozenAt (k*6+2)
   have z3:=hO5.frozenAt (k*6+3)
   have z4:=hO5.frozenAt (k*6+4)
   have z5:=hO5.frozenAt (k*6+5)
   have hsl5:g<w5.heap.size:=(hO5.lt _ rfl).2
   have TAIL:Hid (∃ T':List CV,Hid (T'.map (·.1)=L.take (k+1))∧Hid (T'.length=k+1)∧Hid (((((((w5.setCell ⟨g,k*6,none⟩ (.int .i64 x.1)).setCell ⟨g,k*6+1,none⟩ (.int .i64 x.2.1)).setCell ⟨g,k*6+2,none⟩ (.int .i64 (cv x))).setCell ⟨g,k*6+3,none⟩ (.slice a5 ln c5)).setCell ⟨g,k*6+4,none⟩ (.int .i64 (ch x))).setCell ⟨g,k*6+5,none⟩ (.bool (cr x))).ownsRow w.heap.size 124 6 (.slice (some ⟨g,0,none⟩) n c1) n (Zh (T'++K.drop (k+1)))) ∧
     Hid (∀ z∈T',LkIn ((((((w5.setCell ⟨g,k*6,none⟩ (.int .i64 x.1)).setCell ⟨g,k*6+1,none⟩ (.int .i64 x.2.1)).setCell ⟨g,k*6+2,none⟩ (.int .i64 (cv x))).setCell ⟨g,k*6+3,none⟩ (.slice a5 ln c5)).setCell ⟨g,k*6+4,none⟩ (.int .i64 (ch x))).setCell ⟨g,k*6+5,none⟩ (.bool (cr x))) G z) ∧
     Hid (Below w.heap.size w ((((((w5.setCell ⟨g,k*6,none⟩ (.int .i64 x.1)).setCell ⟨g,k*6+1,none⟩ (.int .i64 x.2.1)).setCell ⟨g,k*6+2,none⟩ (.int .i64 (cv x))).setCell ⟨g,k*6+3,none⟩ (.slice a5 ln c5)).setCell ⟨g,k*6+4,none⟩ (.int .i64 (ch x))).setCell ⟨g,k*6+5,none⟩ (.bool (cr x)))) ∧
     Hid (G≤((((((w5.setCell ⟨g,k*6,none⟩ (.int .i64 x.1)).setCell ⟨g,k*6+1,none⟩ (.int .i64 x.2.1)).setCell ⟨g,k*6+2,none⟩ (.int .i64 (cv x))).setCell ⟨g,k*6+3,none⟩ (.slice a5 ln c5)).setCell ⟨g,k*6+4,none⟩ (.int .i64 (ch x))).setCell ⟨g,k*6+5,none⟩ (.bool (cr x))).heap.size)):=by
    have hG:=(Gr.refl w5 (fun q=>q=g)).sixAt g (k*6) (.inl rfl) (.int .i64 x.1) (.int .i64 x.2.1) (.int .i64 (cv x)) (.slice a5 ln c5) (.int .i64 (ch x)) (.bool (cr x))
    have hO6:=Ni hO5 (k*6) (.int .i64 x.1) (.int .i64 x.2.1) (.int .i64 (cv x)) (.slice a5 ln c5) (.int .i64 (ch x)) (.bool (cr x))
    have hset:=Uz T (K.drop (k+1)) (x,la,ln,lc) (x,a5,ln,c5)
    rw[hTk] at hset
    simp only at hset
    rw[hset] at hO6
    have hXs:wr.heap.size≤X.heap.size:=(unhide HBX).size
    have hGr:=unhide HGr
    have hs5':=hbw5.size
    have hs6:=hG.size
    refine⟨T++[(x,a5,ln,c5)],?_,?_,?_,?_,?_,?_⟩
    ·show _=_;rw[List.map_append,unhide HT,unhide HTK];rfl
    ·show _=_;rw[List.length_append,hTk];rfl
    ·show World.ownsRow _ _ _ _ _ _ _
     rw[List.append_assoc]
     exact hO6
    ·intro z hz
     rcases List.mem_append.1 hz with hz|hz
     ·have h1:=((unhide HLk) z hz).later hbw5
      exact⟨⟨h1.1.1.gr hG (fun ad e q=>by have:=h1.2 ad e;omega),h1.1.2⟩,h1.2⟩
     ·rw[List.mem_singleton.1 hz]
      have h3:∀ ad,a5=some ad→G≤ad.block:=fun ad e=>by have:=hba5 ad e;omega
      exact⟨⟨ho5.gr hG (fun ad e q=>by have:=h3 ad e;omega),hs5⟩,h3⟩
    ·exact hG.below (bel_on (unhide HB) hbw5) (by have:=unhide HwG;omega) (fun q hq=>by omega)
    ·show _≤_;omega
   clear ho5 hs5 hba5 hb5 hbw5 hO5 hat HC HOr
   go_wp2
   go_roundw
   case rel=>
    obtain⟨T',f1,f2,f3,f4,f5,f6⟩:=unhide TAIL
    exact⟨k+1,T',by omega,by go_num,f1,f2,f3,f4,f5,f6⟩
   case measure=>simp[intOf];omega
  ·have e:k=n:=by omega
   subst e
   have HR:Hid (Fresh w.heap.size wr (fun w2=>CoinsAt w2 a1 k L)∧SlOk a1 k c1):=by
    have h1:=unhide HO
    have hKL:=unhide HKL
    rw[List.drop_of_length_le (by omega),List.append_nil,←unhide HTl] at h1
    have hF:Fresh w.heap.size wr (fun w2=>CoinsAt w2 a1 k L):=fun w2 hG=>by
     have h2:=hG.own h1 (fun q hq=>by have:=(h1.lt q hq).1;omega)
     obtain⟨a',c',e,h3,_⟩:=Xr h2 (fun z hz=>⟨((unhide HLk) z hz).1.1.gr hG (fun ad e q=>by have:=((unhide HLk) z hz).2 ad e;have:=unhide HwG;omega),((unhide HLk) z hz).1.2⟩)
     cases e
     rw[unhide HT,List.take_of_length_le (by rw[unhide HZ];exact Nat.le_refl _)] at h3
     rw[unhide HTl] at h3
     exact h3
    exact⟨hF,unhide HS1⟩
   clear HO HT HTl HLk HG1
   go_wp2
   go_ret
   obtain⟨h1,h2⟩:=unhide HR
   exact⟨_,_,rfl,h1,h2,unhide HB⟩
theorem Qr:∀ (L:List Zd) (k:Nat),(∀ c∈L,0≤cv c∧cv c≤1000000000)→0≤Zi (L.take k)∧Zi (L.take k)≤1000000000*(k:Int)
 | [],k,_=>by simp[Zi];omega
 | c :: r,0,_=>by simp[Zi]
 | c :: r,k+1,h=>by
  have h1:=h c (List.mem_cons_self ..)
  have h2:=Qr r k (fun x hx=>h x (List.mem_cons_of_mem _ hx))
  rw[List.take_succ_cons,Yi]
  omega
theorem Gc:∀ (L:List Zw) (k:Nat),(∀ c∈L,0≤c.1∧c.1≤1000000000)→0≤Yf (L.take k)∧Yf (L.take k)≤1000000000*(k:Int)
 | [],k,_=>by simp[Yf];omega
 | c :: r,0,_=>by simp[Yf]
 | c :: r,k+1,h=>by
  have h1:=h c (List.mem_cons_self ..)
  have h2:=Gc r k (fun x hx=>h x (List.mem_cons_of_mem _ hx))
  rw[List.take_succ_cons]
  have e:Yf (c :: r.take k)=c.1+Yf (r.take k):=by simp[Yf]
  rw[e]
  omega
theorem Fp(sa:Option Addr)(ns cs:Nat)(S:List Zd)(ht:Int)(ai ao:Option Addr)(ni ci no co:Nat)(O:List Zw)(x:Int)(w:World)(hns:ns≤6)(hno:no≤6)(hS:CoinsAt w sa ns S)(hO:OutsAt w ao no O)
  (hs:∀ c∈S,0≤cv c∧cv c≤1000000000) (ho:∀ c∈O,0≤c.1∧c.1≤1000000000) (hx:(if Zi S - Yf O<0∧decide (ni=0)=false then 9 else 0)=x) :
  Calls Tryz.prog 147 #[.slice sa ns cs,.agg #[.int .i64 ht,.slice ai ni ci,.slice ao no co]] w fun e w'=>e = .returned (.int .i64 x)∧Below w.heap.size w w':=by
 obtain⟨X0,hX0⟩:∃ X0,X0=w.alloc (.cells #[.int .i64 ht,.slice ai ni ci,.slice ao no co] 59):=⟨_,rfl⟩
 have hb0:Below w.heap.size w X0:=by rw[hX0];exact bel_new _ _
 have hX1:X0.heap[w.heap.size]? = some (.cells [.int .i64 ht,.slice ai ni ci,.slice ao no co].toArray 59 (0,0)):=by rw[hX0];exact Zm _ _ _ _ _
 have HSB:=hide (fun k=>Qr S k hs)
 have HOB:=hide (fun k=>Gc O k ho)
 have HS:=hide (hS.later hb0)
 have HO:=hide (hO.later hb0)
 have HZS:=hide hS.1
 have HZO:=hide hO.1
 have HX:=hide hx
 have HX1:=hide hX1
 have HB0:=hide hb0
 clear hS hO hs ho hx hX1 hb0
 go_enter Tryz.func147,Tryz.ntmps147
 go_wp2
 rw[←hX0]
 clear hX0
 go_loopw [5,12] (fun sv i wr=>∃ (k:Nat) (s:Int),k≤ns∧sv = .int .i64 s∧i = .int .i64 k∧Hid (s=Zi (S.take k))∧Hid (Below X0.heap.size X0 wr)) (fun _ i _=>ns - (intOf i).toNat)
 case atStart=>exact⟨0,0,Nat.zero_le _,rfl,rfl,rfl,Below.refl _ _⟩
 case round=>
  obtain⟨k,s,hk,rfl,rfl,A,HB⟩:=hrel
  by_cases hlt:k<ns
  ·have hlk:k<S.length:=by rw[unhide HZS];exact hlt
   obtain⟨b,off,rfl,hbl,hcell⟩:=(unhide HS).2 (by omega)
   have hin:=CoinAt.kept _ _ _ _ _ (unhide HB) (hcell k hlk)
   have b1:=(unhide HSB) k
   have b2:=(unhide HSB) (k+1)
   have hst:=Jf S k hlk
   obtain⟨c,hc⟩:∃ c,S[k]=c:=⟨_,rfl⟩
   rw[hc] at hin hst
   obtain⟨la,ln,lc,g0,g1,g2,g3,g4,g5,_,_⟩:=hin.val
   obtain⟨v,hv⟩:∃ v,cv c=v:=⟨_,rfl⟩
   rw[hv] at g2 hst
   rw[←unhide A] at b1 hst
   rw[hst] at b2
   have A2:Hid (s+v=Zi (S.take (k+1))):=hst.symm
   have HB2:=hide (bel_on (unhide HB) (bel_new wr (.cells #[.int .i64 c.1,.int .i64 c.2.1,.int .i64 v,.slice la ln lc,.int .i64 (ch c),.bool (cr c)] 124)))
   have hw1:IntKind.i64.wrap (s+v)=s+v:=by rw[IntKind.wrap_i64];omega
   clear hin hc hst A HB
   go_wp2
   go_roundw
   case rel=>exact⟨k+1,s+v,by omega,rfl,by go_num,A2,HB2⟩
   case measure=>simp[intOf];omega
  ·have e:k=ns:=by omega
   subst e
   have A2:Hid (s=Zi S):=by
    show _=_
    rw[unhide A,List.take_of_length_le (by rw[unhide HZS];exact Nat.le_refl _)]
   have b1:=(unhide HSB) k
   rw[←unhide A] at b1
   have hh:=((unhide HB).block _ (lt_of_block (unhide HX1))).trans (unhide HX1)
   have c2:=Za hh 2 _ rfl
   have hl:=lt_of_block hh
   clear A hh
   go_wp2
   go_loopw [5,25] (fun sv i wr2=>∃ (j:Nat) (d:Int),j≤no∧sv = .int .i64 d∧i = .int .i64 j∧Hid (d=s - Yf (O.take j))∧Hid (Below X0.heap.size X0 wr2)) (fun _ i _=>no - (intOf i).toNat)
   case atStart=>exact⟨0,s,Nat.zero_le _,rfl,rfl,(by simp[Yf]:s=s - Yf (O.take 0)),HB⟩
   case round=>
    obtain⟨j,d,hj,rfl,rfl,D,HD⟩:=hrel
    clear HB
    have hbd:=unhide HD
    by_cases hlt:j<no
    ·have hlk:j<O.length:=by rw[unhide HZO];exact hlt
     obtain⟨b,off,rfl,hbl,hcell⟩:=(unhide HO).2 (by omega)
     have hin:=OutAt.kept _ _ _ _ _ hbd (hcell j hlk)
     have d1:=(unhide HOB) j
     have d2:=(unhide HOB) (j+1)
     have hst:=Pi O j hlk
     obtain⟨o,hc⟩:∃ o,O[j]=o:=⟨_,rfl⟩
     rw[hc] at hin hst
     obtain⟨q1,q2⟩:=o
     obtain⟨g0,la,ln,lc,g1,_,_⟩:=hin
     simp only at g0 g1 hst
     have hd:d=s - Yf (O.take j):=unhide D
     have A3:Hid (d - q1=s - Yf (O.take (j+1))):=by show _=_;rw[hst];omega
     have HB2:=hide (bel_on (unhide HD) (bel_new wr (.cells #[.int .i64 q1,.slice la ln lc] 122)))
     have hw1:IntKind.i64.wrap (d - q1)=d - q1:=by rw[IntKind.wrap_i64];omega
     clear hc hst D HD hd d1 d2 hbd
     go_wp2
     go_roundw
     case rel=>exact⟨j+1,d - q1,by omega,rfl,by go_num,A3,HB2⟩
     case measure=>simp[intOf];omega
    ·have e:j=no:=by omega
     subst e
     have hd:d=Zi S - Yf O:=by
      have:=unhide D
      rw[List.take_of_length_le (by rw[unhide HZO];exact Nat.le_refl _),unhide A2] at this
      exact this
     have hx:=unhide HX
     rw[←hd] at hx
     have hh:=(hbd.block _ (lt_of_block (unhide HX1))).trans (unhide HX1)
     have e0:=Za hh 0 _ rfl
     have e1:=Za hh 1 _ rfl
     have e2:=Za hh 2 _ rfl
     have hl2:=lt_of_block hh
     have HBD:=hide (bel_on (unhide HB0) hbd)
     have IR:=hide (fun w=>Uc ht ai ao ni ci j co (decide (ni=0)) w rfl)
     clear hh hbd D hd
     by_cases hneg:d<0
     ·cases hr:decide (ni=0) with
      | true=>
       have R:Hid (x=0):=by show _=_;rw[←hx,if_neg (by rw[hr];simp)]
       rw[hr] at IR
       clear hx hr
       go_wp2_with fail
       refine ((unhide IR) _).mono ?_
       rintro e w3 ⟨rfl,hb3⟩
       have HB3:=hide (bel_on (unhide HBD) hb3)
       clear hb3
       go_wp2
       go_ret
       exact⟨by rw[unhide R];rfl,unhide HB3⟩
      | false=>
       have R:Hid (x=9):=by show _=_;rw[←hx,if_pos ⟨hneg,hr⟩]
       rw[hr] at IR
       clear hx hr
       go_wp2_with fail
       refine ((unhide IR) _).mono ?_
       rintro e w3 ⟨rfl,hb3⟩
       have HB3:=hide (bel_on (unhide HBD) hb3)
       clear hb3
       go_wp2
       go_ret
       exact⟨by rw[unhide R];rfl,unhide HB3⟩
     ·have R:Hid (x=0):=by show _=_;rw[←hx,if_neg (fun q=>hneg q.1)]
      clear hx
      go_wp2
      go_ret
      exact⟨by rw[unhide R];rfl,unhide HBD⟩
def UndoAt(w:World)(b o:Nat)(s:List Zd):Prop:=∃ a n c,w.cell? ⟨b,o,none⟩=some (.slice a n c)∧CoinsAt w a n s∧SlOk a n c
theorem UndoAt.kept{w w':World}{b o:Nat}{s:List Zd}(hb:Below w.heap.size w w')(h:UndoAt w b o s):UndoAt w' b o s:=by
 obtain⟨a,n,c,h1,h2,h3⟩:=h
 exact⟨a,n,c,cell_later hb h1,h2.later hb,h3⟩
def Y4(r:Int)(T:List TxD)(S:List (List Zd))(k:Nat):Int:=r+Zi (S.take k).flatten - Yf ((T.take k).map (·.2.2)).flatten
theorem W8(L M:List Zw):Yf (L++M)=Yf L+Yf M:=by simp[Yf]
theorem Mm(r:Int)(T:List TxD)(S:List (List Zd)):Y4 r T S 0=r:=by simp[Y4,Zi,Yf]
theorem Mn(r:Int)(T:List TxD)(S:List (List Zd))(k:Nat)(hT:k<T.length)(hS:k<S.length):Y4 r T S (k+1)=Y4 r T S k+Zi S[k] - Yf T[k].2.2:=by
 unfold Y4
 rw[List.take_succ_eq_append_getElem hT,List.take_succ_eq_append_getElem hS,List.map_append,List.flatten_append,List.flatten_append,Yx,W8]
 simp
 omega
theorem Mz(p h k n:Int)(b off m c:Nat)(T:List TxD)(ub uo um uc:Nat)(S:List (List Zd))(r:Int)(o:Bool)(w:World)(hz:T.length=m)(hm:m≤4)(hcT:∀ i (h:i<T.length),TxAt w b (off+i*3) T[i])(hzS:S.length=m)(hum:um=m)
  (hcS:∀ i (h:i<S.length),UndoAt w ub (uo+i) S[i]) (hT:∀ t∈T,t.2.2.length≤6∧∀ x∈t.2.2,0≤x.1∧x.1≤1000000000) (hS:∀ s∈S,s.length≤6∧∀ x∈s,0≤cv x∧cv x≤1000000000) (hr:rwD h=(r,0)) (ho:decide (0≤Y4 r T S m)=o) :
  Calls Tryz.prog 75 #[.agg #[.int .i64 p,.int .i64 h,.int .i64 k,.int .i64 n,.slice (some ⟨b,off,none⟩) m c],.slice (some ⟨ub,uo,none⟩) um uc] w fun e w'=>e = .returned (.bool o)∧Below w.heap.size w w':=by
 subst hum
 have hr64:0≤r∧r≤64:=by
  unfold rwD at hr
  split at hr
  ·injection hr with e _
   have:=Jh ((h - 1).toNat / 8)
   omega
  ·injection hr with _ e;cases e
 obtain⟨X,hX⟩:∃ X,X=w.alloc (.cells #[.int .i64 p,.int .i64 h,.int .i64 k,.int .i64 n,.slice (some ⟨b,off,none⟩) um c] 39):=⟨_,rfl⟩
 have hbX:Below w.heap.size w X:=by rw[hX];exact bel_new _ _
 have hX1:X.heap[w.heap.size]? = some (.cells [.int .i64 p,.int .i64 h,.int .i64 k,.int .i64 n,.slice (some ⟨b,off,none⟩) um c].toArray 39 (0,0)):=by rw[hX];exact Zl _ _ _ _ _ _ _
 have RW:=hide (fun W=>Jj h r 0 W hr)
 have HX1:=hide hX1
 have HBX:=hide hbX
 have HCT:Hid (∀ i (h:i<T.length),TxAt X b (off+i*3) T[i]):=fun i hi=>TxAt.kept _ _ _ _ _ hbX (hcT i hi)
 have HCS:Hid (∀ i (h:i<S.length),UndoAt X ub (uo+i) S[i]):=fun i hi=>(hcS i hi).kept hbX
 have HT:=hide hT
 have HS:=hide hS
 have HZ:=hide hz
 have HZS:=hide hzS
 have HO:=hide ho
 clear hX1 hbX hcT hcS hT hS hz hzS ho hr
 go_enter Tryz.func75,Tryz.ntmps75
 go_wp2_with fail
 rw[←hX]
 clear hX
 refine ((unhide RW) _).mono ?_
 rintro e w1 ⟨rfl,hb1⟩
 have hx1:=(hb1.block _ (lt_of_block (unhide HX1))).trans (unhide HX1)
 have c4:=Za hx1 4 _ rfl
 have cl:=lt_of_block hx1
 have HB1:=hide hb1
 clear hb1 hx1
 go_wp2
 go_loopw [5,22] (fun sv i wr=>∃ (j:Nat) (d:Int),j≤um∧sv = .int .i64 d∧i = .int .i64 j∧Hid (d=Y4 r T S j)∧-(6000000000*(j:Int))≤d∧d≤64+6000000000*(j:Int)∧Hid (Below X.heap.size X wr)) (fun _ i _=>um - (intOf i).toNat)
 case atStart=>exact⟨0,r,Nat.zero_le _,rfl,rfl,(Mm r T S).symm,by omega,by omega,HB1⟩
 case round=>
  obtain⟨j,d,hj,rfl,rfl,A,d1,d2,HBr⟩:=hrel
  clear c4 cl HB1
  by_cases hlt:j<um
  ·have hlT:j<T.length:=by rw[unhide HZ];exact hlt
   have hlS:j<S.length:=by rw[unhide HZS];exact hlt
   have hin:=TxAt.kept _ _ _ _ _ (unhide HBr) ((unhide HCT) j hlT)
   have hun:=((unhide HCS) j hlS).kept (unhide HBr)
   have bT:=(unhide HT) T[j] (List.getElem_mem _)
   have bS:=(unhide HS) S[j] (List.getElem_mem _)
   have ST:=hide (Mn r T S j hlT hlS)
   obtain⟨t,ht⟩:∃ t,T[j]=t:=⟨_,rfl⟩
   obtain⟨s,hs⟩:∃ s,S[j]=s:=⟨_,rfl⟩
   rw[ht] at hin bT ST
   rw[hs] at hun bS ST
   obtain⟨t1,I,O⟩:=t
   obtain⟨g0,⟨ai,ni,ci,g1,hI,_⟩,ao,no,co,g2,hO,_⟩:=hin
   obtain⟨sa,sn,sc,gs,hC,_⟩:=hun
   simp only at g0 g1 g2 hI hO bT ST
   obtain⟨Y,hY⟩:∃ Y,Y=wr.alloc (.cells #[.int .i64 t1,.slice ai ni ci,.slice ao no co] 59):=⟨_,rfl⟩
   have hbY:Below wr.heap.size wr Y:=by rw[hY];exact bel_new _ _
   have hY1:Y.heap[wr.heap.size]? = some (.cells [.int .i64 t1,.slice ai ni ci,.slice ao no co].toArray 59 (0,0)):=by rw[hY];exact Zm _ _ _ _ _
   have HY1:=hide hY1
   have HBY:=hide (bel_on (unhide HBr) hbY)
   have HCY:=hide (hC.later hbY)
   have HOY:=hide (hO.later hbY)
   have gsY:=cell_later hbY gs
   have gl:=World.block_lt_of_cell? _ _ gs
   have glY:=World.block_lt_of_cell? _ _ gsY
   have HSB:=hide (fun k=>Qr s k bS.2)
   have HOB:=hide (fun k=>Gc O k bT.2)
   have hsn:sn≤6:=by rw[←hC.1];exact bS.1
   have hno:no≤6:=by rw[←hO.1];exact bT.1
   have hjI:(j:Int)<(um:Int):=by omega
   clear hbY hY1 hI hO hC ht hs bT bS
   go_wp2_with fail
   rw[←hY]
   clear hY
   go_wp2
   go_loopw [5,33] (fun sv i w2=>∃ (k2:Nat) (d2:Int),k2≤sn∧sv = .int .i64 d2∧i = .int .i64 k2∧Hid (d2=d+Zi (s.take k2))∧Hid (Below Y.heap.size Y w2)) (fun _ i _=>sn - (intOf i).toNat)
   case atStart=>exact⟨0,d,Nat.zero_le _,rfl,rfl,(by simp[Zi]:d=d+Zi (s.take 0)),(Below.refl _ _:Below Y.heap.size Y Y)⟩
   case round=>
    obtain⟨q,e,hq,rfl,rfl,D,HD⟩:=hrel
    clear g0 g1 g2 gs gsY gl glY
    by_cases hlt2:q<sn
    ·have hlk:q<s.length:=by rw[(unhide HCY).1];exact hlt2
     obtain⟨b2,o2,rfl,_,hcell⟩:=(unhide HCY).2 (by omega)
     have hin:=CoinAt.kept _ _ _ _ _ (unhide HD) (hcell q hlk)
     have b1:=(unhide HSB) q
     have b2':=(unhide HSB) (q+1)
     have hst:=Jf s q hlk
     obtain⟨y,hy⟩:∃ y,s[q]=y:=⟨_,rfl⟩
     rw[hy] at hin hst
     obtain⟨la,ln,lc,f0,f1,f2,f3,f4,f5,_,_⟩:=hin.val
     obtain⟨v,hv⟩:∃ v,cv y=v:=⟨_,rfl⟩
     rw[hv] at f2 hst
     have hd:e=d+Zi (s.take q):=unhide D
     have A2:Hid (e+v=d+Zi (s.take (q+1))):=by show _=_;rw[hst];omega
     have HB2:=hide (bel_on (unhide HD) (bel_new wr (.cells #[.int .i64 y.1,.int .i64 y.2.1,.int .i64 v,.slice la ln lc,.int .i64 (ch y),.bool (cr y)] 124)))
     have hw1:IntKind.i64.wrap (e+v)=e+v:=by rw[IntKind.wrap_i64];omega
     clear hin hy hst D HD hd b1 b2' hcell
     go_wp2
     go_roundw
     case rel=>exact⟨q+1,e+v,by omega,rfl,by go_num,A2,HB2⟩
     case measure=>simp[intOf];omega
    ·have e0:q=sn:=by omega
     subst e0
     have A2:Hid (e=d+Zi s):=by
      show _=_
      rw[unhide D,List.take_of_length_le (by rw[(unhide HCY).1];exact Nat.le_refl _)]
     have b1:=(unhide HSB) q
     have eb:0≤e - d∧e - d≤6000000000:=by
      have:=unhide D
      omega
     have hh:=((unhide HD).block _ (lt_of_block (unhide HY1))).trans (unhide HY1)
     have f2:=Za hh 2 _ rfl
     have hl:=lt_of_block hh
     clear D hh b1
     go_wp2
     go_loopw [5,46] (fun sv i w3=>∃ (k3:Nat) (d3:Int),k3≤no∧sv = .int .i64 d3∧i = .int .i64 k3∧Hid (d3=e - Yf (O.take k3))∧Hid (Below Y.heap.size Y w3)) (fun _ i _=>no - (intOf i).toNat)
     case atStart=>exact⟨0,e,Nat.zero_le _,rfl,rfl,(by simp[Yf]:e=e - Yf (O.take 0)),HD⟩
     case round=>
      obtain⟨u,g,hu,rfl,rfl,G,HG⟩:=hrel
      clear f2 hl HD
      by_cases hlt3:u<no
      ·have hlk:u<O.length:=by rw[(unhide HOY).1];exact hlt3
       obtain⟨b3,o3,rfl,_,hcell⟩:=(unhide HOY).2 (by omega)
       have hin:=OutAt.kept _ _ _ _ _ (unhide HG) (hcell u hlk)
       have x1:=(unhide HOB) u
       have x2:=(unhide HOB) (u+1)
       have hst:=Pi O u hlk
       obtain⟨y,hy⟩:∃ y,O[u]=y:=⟨_,rfl⟩
       rw[hy] at hin hst
       obtain⟨q1,q2⟩:=y
       obtain⟨f0,la,ln,lc,f1,_,_⟩:=hin
       simp only at f0 f1 hst
       have hd:g=e - Yf (O.take u):=unhide G
       have A3:Hid (g - q1=e - Yf (O.take (u+1))):=by show _=_;rw[hst];omega
       have HB2:=hide (bel_on (unhide HG) (bel_new wr (.cells #[.int .i64 q1,.slice la ln lc] 122)))
       have hw1:IntKind.i64.wrap (g - q1)=g - q1:=by rw[IntKind.wrap_i64];omega
       clear hy hst G HG hd x1 x2 hcell
       go_wp2
       go_roundw
       case rel=>exact⟨u+1,g - q1,by omega,rfl,by go_num,A3,HB2⟩
       case measure=>simp[intOf];omega
      ·have e1:u=no:=by omega
       subst e1
       have hd:g=e - Yf O:=by
        have:=unhide G
        rw[List.take_of_length_le (by rw[(unhide HOY).1];exact Nat.le_refl _)] at this
        exact this
       have x1:=(unhide HOB) u
       rw[List.take_of_length_le (by rw[(unhide HOY).1];exact Nat.le_refl _)] at x1
       have A4:Hid (g=Y4 r T S (j+1)):=by
        show _=_
        rw[unhide ST,←unhide A,hd,unhide A2]
       have HBF:=hide (bel_on (unhide HBY) (unhide HG))
       have y1 : -(6000000000*((j+1:Nat):Int))≤g:=by omega
       have y2:g≤64+6000000000*((j+1:Nat):Int):=by omega
       clear hd x1 G HG A A2 ST
       go_wp2
       go_roundw
       case rel=>exact⟨j+1,g,by omega,rfl,by go_num,A4,y1,y2,HBF⟩
       case measure=>simp[intOf];omega
  ·have e0:j=um:=by omega
   subst e0
   have HBF:=hide (bel_on (unhide HBX) (unhide HBr))
   have ho:=unhide HO
   rw[←unhide A] at ho
   clear A
   by_cases hp:0≤d
   ·obtain rfl:true=o:=by rw[←ho,decide_eq_true hp]
    clear ho
    go_wp2
    go_ret
    exact⟨rfl,unhide HBF⟩
   ·obtain rfl:false=o:=by rw[←ho,decide_eq_false hp]
    clear ho
    go_wp2
    go_ret
    exact⟨rfl,unhide HBF⟩
end Go.Proofs.YtmomfkikogbdeaaGreatDoor
