/- The contract of Make. -/
import Derived.Test.YtmomfkikogbdeaaGreatDoorNodChangeToNodMake
import Derived.Test.YtmomfkikogbdeaaGreatDoorBlkNamesBToBlkReward
import Derived.Test.YtmomfkikogbdeaaGreatDoorNodCloneToTrForkM
set_option maxHeartbeats 12800000
set_option maxRecDepth 10000
namespace Go.Proofs.YtmomfkikogbdeaaGreatDoor
open Go.RowKit
theorem Gj{fn:Func}{p q r u:Tmp}{ty tz tv:TypeId}(h:fn.results=#[.cell p ty,.cell q tz,.cell r tv,.tmp u])(tmps:Array Value)(P:Program)(w:World) :
  (results fn tmps).run P w =
   ((asAddr (tmps.getD p undef)).run P w).andThen fun a w₁=>((loadVar ty a).run P w₁).andThen fun x w₂=>((asAddr (tmps.getD q undef)).run P w₂).andThen fun b w₃=>((loadVar tz b).run P w₃).andThen fun y w₄=>((asAddr (tmps.getD r undef)).run P w₄).andThen fun c w₅=>((loadVar tv c).run P w₅).andThen fun z w₆=>.ok (.tuple #[x,y,z,tmps.getD u undef]) w₆:=by
 simp only[results,h]
 simp[Sem.run_bind,Result.andThen]
theorem Kv(ka:Option Addr)(kn kc:Nat)(K:List ByteArray)(na ba pa:Option Addr)(nn nc bn bc pn pc:Nat)(N:List Int)(T:List Zg)(P:List TxD)(tip:Int)(w:World)(hE:Env w)(hK:Bk.TextsAt w ka kn K)(hN:Tr.IntsAt w na nn N)(hT:Tr.BlksAt w ba bn T)(hP:TxsAt w pa pn P)(sN:SlOk na nn nc)(sT:SlOk ba bn bc)(sP:SlOk pa pn pc)(hp:pn≤2513169434916)(hq:∀ t∈P,Tr.TxSmall t)
  (wk no:Int) (la:Option Addr) (ln lc:Nat) (l:List (Int×Int)) (hl:OpsAt w la ln l) (sl:SlOk la ln lc) (hn:ln≤8796093022208) (x:Int) (b:Zg) (D:Dsk) (hx:nmR K N T P tip wk no l=(x,b,D)) :
  Calls Tryz.prog 43 #[.agg #[.slice ka kn kc],.agg #[.slice na nn nc,.slice ba bn bc,.slice pa pn pc,.int .i64 tip],.int .i64 wk,.int .i64 no,.slice la ln lc] w fun e w'=>NmkR w w' x b D e:=by
 obtain⟨X,hX⟩:∃ X,X=Y5 w [.cells #[.slice ka kn kc] 24,.cells #[.slice na nn nc,.slice ba bn bc,.slice pa pn pc,.int .i64 tip] 67,.cells #[.int .i64 wk] 3,.cells #[.int .i64 no] 3,.cells #[.slice la ln lc] 48,.cells #[.slice none 0 0] 24,.cells #[.slice none 0 0,.slice none 0 0,.slice none 0 0,.int .i64 0] 67,.cells #[.int .i64 0,.int .i64 0,.int .i64 0,.int .i64 0,.slice none 0 0] 39]:=⟨_,rfl⟩
 have hX':X=(((((((w.alloc (.cells #[.slice ka kn kc] 24)).alloc (.cells #[.slice na nn nc,.slice ba bn bc,.slice pa pn pc,.int .i64 tip] 67)).alloc (.cells #[.int .i64 wk] 3)).alloc (.cells #[.int .i64 no] 3)).alloc (.cells #[.slice la ln lc] 48)).alloc (.cells #[.slice none 0 0] 24)).alloc (.cells #[.slice none 0 0,.slice none 0 0,.slice none 0 0,.int .i64 0] 67)).alloc (.cells #[.int .i64 0,.int .i64 0,.int .i64 0,.int .i64 0,.slice none 0 0] 39):=hX
 have hbX:Below w.heap.size w X:=by rw[hX];exact Z7 _ _
 have hXs:X.heap.size=w.heap.size+8:=by rw[hX];exact Yn _ _
 have x0a:X.heap[w.heap.size]? = some (.cells [.slice ka kn kc].toArray 24 (0,0)):=by rw[hX];exact Zj _ w 0 _ rfl
 have x1a:X.heap[w.heap.size+1]? = some (.cells [.slice na nn nc,.slice ba bn bc,.slice pa pn pc,.int .i64 tip].toArray 67 (0,0)):=by rw[hX];exact Zj _ w 1 _ rfl
 have x2a:X.heap[w.heap.size+2]? = some (.cells [.int .i64 wk].toArray 3 (0,0)):=by rw[hX];exact Zj _ w 2 _ rfl
 have x3a:X.heap[w.heap.size+3]? = some (.cells [.int .i64 no].toArray 3 (0,0)):=by rw[hX];exact Zj _ w 3 _ rfl
 have x4a:X.heap[w.heap.size+4]? = some (.cells [.slice la ln lc].toArray 48 (0,0)):=by rw[hX];exact Zj _ w 4 _ rfl
 have x5a:X.heap[w.heap.size+5]? = some (.cells [.slice none 0 0].toArray 24 (0,0)):=by rw[hX];exact Zj _ w 5 _ rfl
 have x6a:X.heap[w.heap.size+6]? = some (.cells [.slice none 0 0,.slice none 0 0,.slice none 0 0,.int .i64 0].toArray 67 (0,0)):=by rw[hX];exact Zj _ w 6 _ rfl
 have x7a:X.heap[w.heap.size+7]? = some (.cells [.int .i64 0,.int .i64 0,.int .i64 0,.int .i64 0,.slice none 0 0].toArray 39 (0,0)):=by rw[hX];exact Zj _ w 7 _ rfl
 obtain⟨x0,hx0⟩:∃ x0,opE K N T P tip=x0:=⟨_,rfl⟩
 obtain⟨⟨x1,b1,D1⟩,hx1⟩:∃ r,mnR ⟨K,N,T,P,tip,(Xf K N T noB).2⟩ wk no l=r:=⟨_,rfl⟩
 have hbad:x1≠0→b1=zeroB:=fun e=>by
  have:=Es (D:=⟨K,N,T,P,tip,(Xf K N T noB).2⟩) (wk:=wk) (no:=no) (lk:=l) (by rw[hx1];exact e)
  rw[hx1] at this
  exact this
 unfold nmR at hx
 simp only[hx0,hx1] at hx
 have C1:=hide (Mj ka kn kc K na ba pa nn nc bn bc pn pc N T P tip x0 X (hE.later hbX) (hK.later hbX) (hN.later hbX) (hT.later hbX) (hP.later hbX) sN sT sP hp hq hx0 112 #[.pointer (some ⟨w.heap.size+2,0,none⟩),.pointer (some ⟨w.heap.size+3,0,none⟩),.pointer (some ⟨w.heap.size+4,0,none⟩),.pointer (some ⟨w.heap.size+7,0,none⟩)] (fun q=>q=w.heap.size+7) x1 D1 (Zcu (w.heap.size+7) b1) (fun e=>by
  have o:=Th (hx0.trans e)
  have bw:=Rq o.2.1
  exact Ev X (w.heap.size+2) (w.heap.size+3) (w.heap.size+4) (w.heap.size+7) wk no la ln lc l K N T P tip _ x1 b1 D1 (hE.later hbX) (hl.later hbX) sl hn bw.1 bw.2.1 bw.2.2 (Za x2a 0 _ rfl) (Za x3a 0 _ rfl) (Za x4a 0 _ rfl) x7a hx1))
 have HX:=hide hx
 have HBAD:=hide hbad
 have HBX:=hide hbX
 have HXs:=hide hXs
 have HX5:=hide x5a
 have HX6:=hide x6a
 have HX7:=hide x7a
 have t0:=Za x0a 0 _ rfl
 have t1:=Za x1a 0 _ rfl
 have t2:=Za x1a 1 _ rfl
 have t3:=Za x1a 2 _ rfl
 have t4:=Za x1a 3 _ rfl
 have tl:=lt_of_block x0a
 have tl1:=lt_of_block x1a
 clear hE hK hN hT hP sN sT sP hp hq hx hl sl hn hx0 hx1 hbad hbX hXs x0a x1a x2a x3a x4a x5a x6a x7a hX
 go_enter Tryz.func43,Tryz.ntmps43
 go_wp2_with fail
 rw[←hX']
 clear hX'
 (try go_wp2_with fail)
 refine (unhide C1).mono ?_
 intro e w1 hr
 obtain⟨k5,k5n,k5c,n5,n5n,n5c,b5,b5n,b5c,p5,p5n,p5c,a7,n7,c7,rfl,hF,s1,s2,s3,s4,s7,hb7,g1⟩:∃ k5 k5n k5c n5 n5n n5c b5 b5n b5c p5 p5n p5c a7 n7 c7,e = .returned (.tuple #[.agg #[.slice k5 k5n k5c],.agg #[.slice n5 n5n n5c,.slice b5 b5n b5c,.slice p5 p5n p5c,.int .i64 D.tip],.int .i64 x]) ∧
   Fresh X.heap.size w1 (fun w2=>Sp w2 k5 k5n D.k n5 n5n D.n b5 b5n D.t p5 p5n D.p∧TxsAt w2 a7 n7 b.2.2.2.2)∧SlOk k5 k5n k5c∧SlOk n5 n5n n5c∧SlOk b5 b5n b5c∧SlOk p5 p5n p5c∧SlOk a7 n7 c7 ∧
   w1.heap[w.heap.size+7]? = some (.cells [.int .i64 b.1,.int .i64 b.2.1,.int .i64 b.2.2.1,.int .i64 b.2.2.2.1,.slice a7 n7 c7].toArray 39 (0,0))∧Gr X w1 (fun q=>q=w.heap.size+7):=by
  have hxx:=unhide HX
  rcases hr with ⟨h0,⟨k5,k5n,k5c,n5,n5n,n5c,b5,b5n,b5c,p5,p5n,p5c,he,hF,s1,s2,s3,s4⟩,hb⟩|⟨h0,g,⟨a7,n7,c7,hbx,hF7,s7⟩,hr⟩
  ·rw[if_pos h0] at hxx
   simp only[Prod.mk.injEq] at hxx
   obtain⟨rfl,rfl,rfl⟩:=hxx
   exact⟨k5,k5n,k5c,n5,n5n,n5c,b5,b5n,b5c,p5,p5n,p5c,none,0,0,he,fun W g=>⟨hF W g,RowsAt.nil _ _⟩,s1,s2,s3,s4,Zo,(hb.block _ (lt_of_block (unhide HX7))).trans (unhide HX7),Gr.of hb⟩
  ·rw[if_neg (fun q=>q h0)] at hxx
   rcases hr with ⟨h1,k5,k5n,k5c,n5,n5n,n5c,b5,b5n,b5c,p5,p5n,p5c,he,hF,s1,s2,s3,s4⟩|⟨h1,k5,k5n,k5c,n5,n5n,n5c,b5,b5n,b5c,p5,p5n,p5c,he,hF,s1,s2,s3,s4⟩
   ·rw[if_pos h1] at hxx
    simp only[Prod.mk.injEq] at hxx
    obtain⟨rfl,rfl,rfl⟩:=hxx
    have hbz:=(unhide HBAD) h1
    subst hbz
    exact⟨k5,k5n,k5c,n5,n5n,n5c,b5,b5n,b5c,p5,p5n,p5c,a7,n7,c7,he,fun W g=>⟨hF W g,hF7 W (g.mono (fun q _ e=>by have e:q<X.heap.size:=e;show q<X.heap.size+4;omega))⟩,s1,s2,s3,s4,s7,hbx,g⟩
   ·rw[if_neg (fun q=>q h1)] at hxx
    simp only[Prod.mk.injEq] at hxx
    obtain⟨rfl,rfl,rfl⟩:=hxx
    exact⟨k5,k5n,k5c,n5,n5n,n5c,b5,b5n,b5c,p5,p5n,p5c,a7,n7,c7,he,fun W g=>⟨hF W g,hF7 W (g.mono (fun q _ e=>by have e:q<X.heap.size:=e;show q<X.heap.size+4;omega))⟩,s1,s2,s3,s4,s7,hbx,g⟩
 have h5:=g1.heap (unhide HX5) (fun e=>by have e:w.heap.size+5=w.heap.size+7:=e;omega)
 have h6:=g1.heap (unhide HX6) (fun e=>by have e:w.heap.size+6=w.heap.size+7:=e;omega)
 have o0:=Za h5 0 _ rfl
 have of:=Zb h5 0
 have ol:=lt_of_block h5
 have p0:=Za h6 0 _ rfl
 have p1:=Za h6 1 _ rfl
 have p2:=Za h6 2 _ rfl
 have p3:=Za h6 3 _ rfl
 have pf0:=Zb h6 0
 have pf1:=Zb h6 1
 have pf2:=Zb h6 2
 have pf3:=Zb h6 3
 have pl:=lt_of_block h6
 obtain⟨V,hV⟩:∃ V,V=((((w1.setCell ⟨w.heap.size+1+1+1+1+1,0,none⟩ (.slice k5 k5n k5c)).setCell ⟨w.heap.size+1+1+1+1+1+1,0,none⟩ (.slice n5 n5n n5c)).setCell ⟨w.heap.size+1+1+1+1+1+1,1,none⟩ (.slice b5 b5n b5c)).setCell ⟨w.heap.size+1+1+1+1+1+1,2,none⟩ (.slice p5 p5n p5c)).setCell ⟨w.heap.size+1+1+1+1+1+1,3,none⟩ (.int .i64 D.tip):=⟨_,rfl⟩
 have gV:Gr w1 V (fun q=>q=w.heap.size+5∨q=w.heap.size+6∨q=w.heap.size+7):=by
  rw[hV]
  exact ((Gr.refl w1 (fun q=>q=w.heap.size+5∨q=w.heap.size+6∨q=w.heap.size+7)).one (w.heap.size+5) 0 (.inl (.inl rfl)) _).four (w.heap.size+6) (.inl (.inr (.inl rfl))) _ _ _ _
 have v7:V.heap[w.heap.size+7]? = some (.cells [.int .i64 b.1,.int .i64 b.2.1,.int .i64 b.2.2.1,.int .i64 b.2.2.2.1,.slice a7 n7 c7].toArray 39 (0,0)):=by
  rw[hV]
  have g:Gr w1 (((((w1.setCell ⟨w.heap.size+1+1+1+1+1,0,none⟩ (.slice k5 k5n k5c)).setCell ⟨w.heap.size+1+1+1+1+1+1,0,none⟩ (.slice n5 n5n n5c)).setCell ⟨w.heap.size+1+1+1+1+1+1,1,none⟩ (.slice b5 b5n b5c)).setCell ⟨w.heap.size+1+1+1+1+1+1,2,none⟩ (.slice p5 p5n p5c)).setCell ⟨w.heap.size+1+1+1+1+1+1,3,none⟩ (.int .i64 D.tip)) (fun q=>q=w.heap.size+5∨q=w.heap.size+6):=
   ((Gr.refl w1 (fun q=>q=w.heap.size+5∨q=w.heap.size+6)).one (w.heap.size+5) 0 (.inl (.inl rfl)) _).four (w.heap.size+6) (.inl (.inr rfl)) _ _ _ _
  exact g.heap hb7 (fun e=>by omega)
 have v6:V.heap[w.heap.size+6]? = some (.cells [.slice n5 n5n n5c,.slice b5 b5n b5c,.slice p5 p5n p5c,.int .i64 D.tip].toArray 67 (0,0)):=by
  rw[hV]
  have g:Gr w1 (w1.setCell ⟨w.heap.size+1+1+1+1+1,0,none⟩ (.slice k5 k5n k5c)) (fun q=>q=w.heap.size+5):=(Gr.refl w1 (fun q=>q=w.heap.size+5)).one (w.heap.size+5) 0 (.inl rfl) _
  exact Tr.set_cells (Tr.set_cells (Tr.set_cells (Tr.set_cells (g.heap h6 (fun e=>by have e:w.heap.size+6=w.heap.size+5:=e;omega)) 0 _) 1 _) 2 _) 3 _
 have v5:V.heap[w.heap.size+5]? = some (.cells [.slice k5 k5n k5c].toArray 24 (0,0)):=by
  rw[hV]
  have g:Gr (w1.setCell ⟨w.heap.size+1+1+1+1+1,0,none⟩ (.slice k5 k5n k5c)) (((((w1.setCell ⟨w.heap.size+1+1+1+1+1,0,none⟩ (.slice k5 k5n k5c)).setCell ⟨w.heap.size+1+1+1+1+1+1,0,none⟩ (.slice n5 n5n n5c)).setCell ⟨w.heap.size+1+1+1+1+1+1,1,none⟩ (.slice b5 b5n b5c)).setCell ⟨w.heap.size+1+1+1+1+1+1,2,none⟩ (.slice p5 p5n p5c)).setCell ⟨w.heap.size+1+1+1+1+1+1,3,none⟩ (.int .i64 D.tip)) (fun q=>q=w.heap.size+6):=(Gr.refl (w1.setCell ⟨w.heap.size+1+1+1+1+1,0,none⟩ (.slice k5 k5n k5c)) (fun q=>q=w.heap.size+6)).four (w.heap.size+6) (.inl rfl) _ _ _ _
  exact g.heap (Tr.set_cells h5 0 _) (fun e=>by have e:w.heap.size+5=w.heap.size+6:=e;omega)
 have HV5:=hide v5
 have HV6:=hide v6
 have HV7:=hide v7
 have GV:=hide gV
 have FIN:Hid (∀ W,Gr w1 W (fun q=>q=w.heap.size+5∨q=w.heap.size+6∨q=w.heap.size+7)→NmkR w W x b D (.returned (.tuple #[.agg #[.slice k5 k5n k5c],.agg #[.slice n5 n5n n5c,.slice b5 b5n b5c,.slice p5 p5n p5c,.int .i64 D.tip],.agg #[.int .i64 b.1,.int .i64 b.2.1,.int .i64 b.2.2.1,.int .i64 b.2.2.2.1,.slice a7 n7 c7],.int .i64 x]))):=fun W g=>by
  have hxs:=unhide HXs
  refine⟨k5,k5n,k5c,n5,n5n,n5c,b5,b5n,b5c,p5,p5n,p5c,a7,n7,c7,rfl,fun W2 g2=>hF W2 ((g.mono (fun q _ e=>?_)).trans (g2.mono (fun q _ e=>?_))),s1,s2,s3,s4,s7,?_⟩
  ·show q<X.heap.size;omega
  ·have e:q<w.heap.size:=e;show q<X.heap.size;omega
  ·have gX:Gr w X (fun q=>False):=Gr.of (unhide HBX)
   have gW:Gr w W (fun _=>False):=(gX.far g1 (fun q e=>.inl (by have e:q=w.heap.size+7:=e;omega))).far g (fun q e=>.inl (by omega))
   exact gW.below (Below.refl _ _) (Nat.le_refl _) (fun _ q=>q.elim)
 clear hr hF s1 s2 s3 s4 s7 hb7 g1 h5 h6 v5 v6 v7 gV HX HBAD HX5 HX6 HX7 C1 t0 t1 t2 t3 t4 tl tl1 HXs HBX
 go_upto_region 2 with fail
 rw[←hV]
 clear hV o0 of ol p0 p1 p2 p3 pf0 pf1 pf2 pf3 pl
 have v5:=unhide HV5
 have v6:=unhide HV6
 have v7:=unhide HV7
 have o0:=Za v5 0 _ rfl
 have of:=Zb v5 0
 have ol:=lt_of_block v5
 have p0:=Za v6 0 _ rfl
 have p1:=Za v6 1 _ rfl
 have p2:=Za v6 2 _ rfl
 have p3:=Za v6 3 _ rfl
 have pf0:=Zb v6 0
 have pf1:=Zb v6 1
 have pf2:=Zb v6 2
 have pf3:=Zb v6 3
 have pl:=lt_of_block v6
 have q0:=Za v7 0 _ rfl
 have q1:=Za v7 1 _ rfl
 have q2:=Za v7 2 _ rfl
 have q3:=Za v7 3 _ rfl
 have q4:=Za v7 4 _ rfl
 have qf0:=Zb v7 0
 have qf1:=Zb v7 1
 have qf2:=Zb v7 2
 have qf3:=Zb v7 3
 have qf4:=Zb v7 4
 have ql:=lt_of_block v7
 clear v5 v6 v7 HV5 HV6 HV7
 go_region
 all_goals
  go_wp2
  (try simp only[Exit.inBlock,Exit.then])
  refine bodyPost_ret (v:=.tuple #[.agg #[.slice k5 k5n k5c],.agg #[.slice n5 n5n n5c,.slice b5 b5n b5c,.slice p5 p5n p5c,.int .i64 D.tip],.agg #[.int .i64 b.1,.int .i64 b.2.1,.int .i64 b.2.2.1,.int .i64 b.2.2.2.1,.slice a7 n7 c7],.int .i64 x]) ?_ rfl ?_
  ·rw[Gj rfl]
   go_simp
  ·exact (unhide FIN) _ ((((((unhide GV).one (w.heap.size+5) 0 (.inl (.inl rfl)) _).four (w.heap.size+6) (.inl (.inr (.inl rfl))) _ _ _ _).five (w.heap.size+7) (.inl (.inr (.inr rfl))) _ _ _ _ _).trans (Gr.of (Ze _))))
def kn1:Int×Zg×Dsk:=nmR [] [] [] [] 0 2 0 []
def kn2:Int×Zg×Dsk:=nmR kn1.2.2.k kn1.2.2.n kn1.2.2.t kn1.2.2.p kn1.2.2.tip 3 0 []
def knC:List Zd:=(Xf kn2.2.2.k kn2.2.2.n kn2.2.2.t noB).2 kn2.2.2.tip
theorem kn1_x:kn1.1=0:=by kernel_rfl
theorem kn1_h:kn1.2.1.2.1=1:=by kernel_rfl
theorem kn1_p:kn1.2.2.p=[]:=by kernel_rfl
theorem kn2_x:kn2.1=0:=by kernel_rfl
theorem kn2_q:kn2.2.1.1≠0:=by
 have h:kn2.2.1.1=2:=by kernel_rfl
 rw[h];decide
theorem kn2_h:kn2.2.1.2.1=2:=by kernel_rfl
theorem kn2_p:kn2.2.2.p=[]:=by kernel_rfl
theorem kn2_o:opE kn2.2.2.k kn2.2.2.n kn2.2.2.t kn2.2.2.p kn2.2.2.tip=0:=by kernel_rfl
theorem Ez:knC.length=2:=by kernel_rfl
theorem Zcg:Zn knC=0:=by kernel_rfl
theorem Ey:Zi (knC.filter (ofK []))=128:=by kernel_rfl
theorem Kx(w:World)(hE:Env w):Calls Tryz.prog 33 #[] w fun e w'=>e = .returned (.bool true)∧Below w.heap.size w w':=by
 obtain⟨⟨x1,⟨q1,h1,r1,o1,L1⟩,D⟩,hk1⟩:∃ r,kn1=r:=⟨_,rfl⟩
 obtain⟨⟨x2,⟨q2,h2,r2,o2,L2⟩,E⟩,hk2⟩:∃ r,kn2=r:=⟨_,rfl⟩
 obtain⟨C,hC⟩:∃ C,knC=C:=⟨_,rfl⟩
 obtain rfl:0=x1:=by rw[←kn1_x,hk1]
 obtain rfl:1=h1:=by rw[←kn1_h,hk1]
 have hDp:D.p=[]:=by have:=kn1_p;rw[hk1] at this;exact this
 obtain rfl:0=x2:=by rw[←kn2_x,hk2]
 obtain rfl:2=h2:=by rw[←kn2_h,hk2]
 have hEp:E.p=[]:=by have:=kn2_p;rw[hk2] at this;exact this
 have hq2:q2≠0:=by have:=kn2_q;rw[hk2] at this;exact this
 have hEo:opE E.k E.n E.t E.p E.tip=0:=by have:=kn2_o;rw[hk2] at this;exact this
 have hn2:nmR D.k D.n D.t D.p D.tip 3 0 []=(0,(q2,2,r2,o2,L2),E):=by
  have:=hk2
  unfold kn2 at this
  rw[hk1] at this
  exact this
 have hCE:(Xf E.k E.n E.t noB).2 E.tip=C:=by
  have:=hC
  unfold knC at this
  rw[hk2] at this
  exact this
 have hCl:C.length=2:=hC ▸ Ez
 have hCk:Zn C=0:=hC ▸ Zcg
 have hCs:Zi (C.filter (ofK []))=128:=hC ▸ Ey
 have C1:=hide (Kv none 0 0 [] none none none 0 0 0 0 0 0 [] [] [] 0 w hE (Bk.TextsAt.nil _ _) ⟨rfl,fun h=>absurd h (by decide)⟩ (RowsAt.nil _ _) (RowsAt.nil _ _) Zo Zo Zo (by decide) (fun t h=>by cases h) 2 0 none 0 0 [] ⟨rfl,fun h=>absurd h (by decide)⟩ Zo (by decide) 0 (q1,1,r1,o1,L1) D hk1)
 have HE:=hide hE
 have HDp:=hide hDp
 have HEp:=hide hEp
 have HEo:=hide hEo
 have HN2:=hide hn2
 have HCE:=hide hCE
 have HCl:=hide hCl
 have HCk:=hide hCk
 have HCs:=hide hCs
 have gq2:(q2 != 0)=true:=by simp[hq2]
 clear hE hk1 hk2 hC hDp hEp hq2 hEo hn2 hCE hCl hCk hCs
 go_enter Tryz.func33,Tryz.ntmps33
 go_wp2_with fail
 refine (unhide C1).mono ?_
 rintro e w1 ⟨k1,k1n,k1c,n1,n1n,n1c,t1,t1n,t1c,p1,p1n,p1c,a1,l1,c1,rfl,hF1,s11,s12,s13,s14,s15,hb1⟩
 dsimp only[blkV]
 obtain⟨X,hX⟩:∃ X,X=Y5 w1 [.cells #[.slice k1 k1n k1c] 24,.cells #[.slice n1 n1n n1c,.slice t1 t1n t1c,.slice p1 p1n p1c,.int .i64 D.tip] 67,.cells #[.int .i64 q1,.int .i64 1,.int .i64 r1,.int .i64 o1,.slice a1 l1 c1] 39]:=⟨_,rfl⟩
 have hX':X=((w1.alloc (.cells #[.slice k1 k1n k1c] 24)).alloc (.cells #[.slice n1 n1n n1c,.slice t1 t1n t1c,.slice p1 p1n p1c,.int .i64 D.tip] 67)).alloc (.cells #[.int .i64 q1,.int .i64 1,.int .i64 r1,.int .i64 o1,.slice a1 l1 c1] 39):=hX
 have hbX:Below w1.heap.size w1 X:=by rw[hX];exact Z7 _ _
 have hXs:X.heap.size=w1.heap.size+3:=by rw[hX];exact Yn _ _
 have x0:X.heap[w1.heap.size]? = some (.cells [.slice k1 k1n k1c].toArray 24 (0,0)):=by rw[hX];exact Zj _ w1 0 _ rfl
 have x1:X.heap[w1.heap.size+1]? = some (.cells [.slice n1 n1n n1c,.slice t1 t1n t1c,.slice p1 p1n p1c,.int .i64 D.tip].toArray 67 (0,0)):=by rw[hX];exact Zj _ w1 1 _ rfl
 have x2:X.heap[w1.heap.size+2]? = some (.cells [.int .i64 q1,.int .i64 1,.int .i64 r1,.int .i64 o1,.slice a1 l1 c1].toArray 39 (0,0)):=by rw[hX];exact Zj _ w1 2 _ rfl
 have D1:=(hF1 X (Gr.of hbX)).1
 have hp1:p1n=0:=by have:=D1.p.1;rw[unhide HDp] at this;exact this.symm
 have hbw:=bel_on hb1 hbX
 have C2:=hide (Kv k1 k1n k1c D.k n1 t1 p1 n1n n1c t1n t1c p1n p1c D.n D.t D.p D.tip X ((unhide HE).later hbw) D1.k D1.n D1.b D1.p s12 s13 s14 (by omega) (fun t h=>by rw[unhide HDp] at h;cases h) 3 0 none 0 0 [] ⟨rfl,fun h=>absurd h (by decide)⟩ Zo (by decide) 0 (q2,2,r2,o2,L2) E (unhide HN2))
 have HBW:=hide hbw
 have HX0:=hide x0
 have HX1:=hide x1
 have HX2:=hide x2
 have HXs:=hide hXs
 have HW1:=hide hb1.size
 have t0:=Za x0 0 _ rfl
 have t10:=Za x1 0 _ rfl
 have t11:=Za x1 1 _ rfl
 have t12:=Za x1 2 _ rfl
 have t13:=Za x1 3 _ rfl
 have tl0:=lt_of_block x0
 have tl1:=lt_of_block x1
 clear hX hF1 s11 s12 s13 s14 s15 D1 hp1 hbw hbX hXs x0 x1 x2 C1 hb1
 go_upto_region 2 with fail
 rw[←hX']
 clear hX'
 go_wp2_with fail
 refine (unhide C2).mono ?_
 rintro e w2 ⟨k2,k2n,k2c,n2,n2n,n2c,t2,t2n,t2c,p2,p2n,p2c,a2,l2,c2,rfl,hF2,s21,s22,s23,s24,s25,hb2⟩
 dsimp only[blkV]
 have y0:=(hb2.block _ (lt_of_block (unhide HX0))).trans (unhide HX0)
 have y1:=(hb2.block _ (lt_of_block (unhide HX1))).trans (unhide HX1)
 have y2:=(hb2.block _ (lt_of_block (unhide HX2))).trans (unhide HX2)
 clear t0 t10 t11 t12 t13 tl0 tl1 C2
 have t0:=Za y0 0 _ rfl
 have t10:=Za y1 0 _ rfl
 have t11:=Za y1 1 _ rfl
 have t12:=Za y1 2 _ rfl
 have t13:=Za y1 3 _ rfl
 have tf0:=Zb y0 0
 have tf10:=Zb y1 0
 have tf11:=Zb y1 1
 have tf12:=Zb y1 2
 have tf13:=Zb y1 3
 have tl0:=lt_of_block y0
 have tl1:=lt_of_block y1
 obtain⟨U,hU⟩:∃ U,U=((((w2.setCell ⟨w1.heap.size,0,none⟩ (.slice k2 k2n k2c)).setCell ⟨w1.heap.size+1,0,none⟩ (.slice n2 n2n n2c)).setCell ⟨w1.heap.size+1,1,none⟩ (.slice t2 t2n t2c)).setCell ⟨w1.heap.size+1,2,none⟩ (.slice p2 p2n p2c)).setCell ⟨w1.heap.size+1,3,none⟩ (.int .i64 E.tip):=⟨_,rfl⟩
 have gU:Gr w2 U (fun q=>q=w1.heap.size∨q=w1.heap.size+1):=by
  rw[hU]
  exact ((Gr.refl w2 (fun q=>q=w1.heap.size∨q=w1.heap.size+1)).one w1.heap.size 0 (.inl (.inl rfl)) _).four (w1.heap.size+1) (.inl (.inr rfl)) _ _ _ _
 have hUs:U.heap.size=w2.heap.size:=by rw[hU];simp[World.setCell]
 have u1:U.heap[w1.heap.size+1]? = some (.cells [.slice n2 n2n n2c,.slice t2 t2n t2c,.slice p2 p2n p2c,.int .i64 E.tip].toArray 67 (0,0)):=by
  rw[hU]
  have g:Gr w2 (w2.setCell ⟨w1.heap.size,0,none⟩ (.slice k2 k2n k2c)) (fun q=>q=w1.heap.size):=(Gr.refl w2 (fun q=>q=w1.heap.size)).one w1.heap.size 0 (.inl rfl) _
  exact Tr.set_cells (Tr.set_cells (Tr.set_cells (Tr.set_cells (g.heap y1 (fun e=>by have e:w1.heap.size+1=w1.heap.size:=e;omega)) 0 _) 1 _) 2 _) 3 _
 have u0:U.heap[w1.heap.size]? = some (.cells [.slice k2 k2n k2c].toArray 24 (0,0)):=by
  rw[hU]
  have g:Gr (w2.setCell ⟨w1.heap.size,0,none⟩ (.slice k2 k2n k2c)) (((((w2.setCell ⟨w1.heap.size,0,none⟩ (.slice k2 k2n k2c)).setCell ⟨w1.heap.size+1,0,none⟩ (.slice n2 n2n n2c)).setCell ⟨w1.heap.size+1,1,none⟩ (.slice t2 t2n t2c)).setCell ⟨w1.heap.size+1,2,none⟩ (.slice p2 p2n p2c)).setCell ⟨w1.heap.size+1,3,none⟩ (.int .i64 E.tip)) (fun q=>q=w1.heap.size+1):=(Gr.refl (w2.setCell ⟨w1.heap.size,0,none⟩ (.slice k2 k2n k2c)) (fun q=>q=w1.heap.size+1)).four (w1.heap.size+1) (.inl rfl) _ _ _ _
  exact g.heap (Tr.set_cells y0 0 _) (fun e=>by have e:w1.heap.size=w1.heap.size+1:=e;omega)
 have u2:=gU.heap y2 (fun e=>by rcases e with e|e <;> omega)
 obtain⟨V,hV⟩:∃ V,V=U.alloc (.cells #[.int .i64 q2,.int .i64 2,.int .i64 r2,.int .i64 o2,.slice a2 l2 c2] 39):=⟨_,rfl⟩
 have hbV:Below U.heap.size U V:=by rw[hV];exact bel_new _ _
 have v3:V.heap[w2.heap.size]? = some (.cells [.int .i64 q2,.int .i64 2,.int .i64 r2,.int .i64 o2,.slice a2 l2 c2].toArray 39 (0,0)):=by rw[hV,←hUs];exact Zl _ _ _ _ _ _ _
 have v0:=(hbV.block _ (lt_of_block u0)).trans u0
 have v1:=(hbV.block _ (lt_of_block u1)).trans u1
 have v2:=(hbV.block _ (lt_of_block u2)).trans u2
 have gV:Gr w2 V (fun q=>q=w1.heap.size∨q=w1.heap.size+1):=gU.trans (Gr.of hbV)
 have hxs:=unhide HXs
 have DD:=(hF2 V (gV.mono (fun q _ e=>by rcases e with e|e <;> (show q<X.heap.size;omega)))).1
 have hp2:p2n=0:=by have:=DD.p.1;rw[unhide HEp] at this;exact this.symm
 have bV:Below w.heap.size w V:=gV.below (bel_on (unhide HBW) hb2) (bel_on (unhide HBW) hb2).size (fun q e=>by have:=unhide HW1;rcases e with e|e <;> omega)
 have hEV:=(unhide HE).later bV
 have C3:=hide (Jp k2 k2n k2c E.k n2 t2 p2 n2n n2c t2n t2c p2n p2c E.n E.t E.p E.tip 0 V hEV DD.k DD.n DD.b DD.p s22 s23 s24 (by omega) (fun t h=>by rw[unhide HEp] at h;cases h) (unhide HEo) C ((if_pos rfl).trans (unhide HCE)))
 have C4:=hide (fun W (hw:Below V.heap.size V W)=>Kw k2 k2n k2c E.k n2 t2 p2 n2n n2c t2n t2c p2n p2c E.n E.t E.p E.tip 0 W (hEV.later hw) (DD.k.later hw) (DD.n.later hw) (DD.b.later hw) (DD.p.later hw) s22 s23 s24 (by omega) (fun t h=>by rw[unhide HEp] at h;cases h) (unhide HEo) none 0 0 [] ⟨rfl,fun h=>absurd h (by decide)⟩ C ((if_pos rfl).trans (unhide HCE)) 0 128 ((if_pos rfl).trans (unhide HCk)) ((if_pos rfl).trans (unhide HCs)))
 have C5:=hide (fun W (hw:Below V.heap.size V W)=>Fd k2 k2n k2c E.k n2 t2 p2 n2n n2c t2n t2c p2n p2c E.n E.t E.p E.tip 0 W (hEV.later hw) (DD.k.later hw) (DD.n.later hw) (DD.b.later hw) (DD.p.later hw) s22 s23 s24 (by omega) (fun t h=>by rw[unhide HEp] at h;cases h) (unhide HEo))
 have KV:Hid (∀ W,Below V.heap.size V W→(W.cell? ⟨w1.heap.size,0,none⟩=some (.slice k2 k2n k2c)∧W.cell? ⟨w1.heap.size+1,0,none⟩=some (.slice n2 n2n n2c)∧W.cell? ⟨w1.heap.size+1,1,none⟩=some (.slice t2 t2n t2c)∧W.cell? ⟨w1.heap.size+1,2,none⟩=some (.slice p2 p2n p2c)∧W.cell? ⟨w1.heap.size+1,3,none⟩=some (.int .i64 E.tip)∧W.cell? ⟨w1.heap.size+2,1,none⟩=some (.int .i64 1)∧W.cell? ⟨w2.heap.size,0,none⟩=some (.int .i64 q2)∧W.cell? ⟨w2.heap.size,1,none⟩=some (.int .i64 2))∧w1.heap.size<W.heap.size∧w1.heap.size+1<W.heap.size∧w1.heap.size+2<W.heap.size∧w2.heap.size<W.heap.size):=fun W hw=>
  ⟨⟨cell_later hw (Za v0 0 _ rfl),cell_later hw (Za v1 0 _ rfl),cell_later hw (Za v1 1 _ rfl),cell_later hw (Za v1 2 _ rfl),cell_later hw (Za v1 3 _ rfl),cell_later hw (Za v2 1 _ rfl),cell_later hw (Za v3 0 _ rfl),cell_later hw (Za v3 1 _ rfl)⟩,Nat.lt_of_lt_of_le (lt_of_block v0) hw.size,Nat.lt_of_lt_of_le (lt_of_block v1) hw.size,Nat.lt_of_lt_of_le (lt_of_block v2) hw.size,Nat.lt_of_lt_of_le (lt_of_block v3) hw.size⟩
 have HBV:=hide bV
 clear hF2 s21 s22 s23 s24 s25 hb2 y0 y1 y2 gU u0 u1 u2 hbV v0 v1 v2 v3 gV hxs DD hp2 bV hEV hUs
 go_upto_region 3 with fail
 rw[←hU,←hV]
 clear hU hV t0 t10 t11 t12 t13 tf0 tf10 tf11 tf12 tf13 tl0 tl1
 obtain⟨⟨m0,m1,m2,m3,m4,m5,m6,m7⟩,m8,m9,m10,m11⟩:=(unhide KV) V (Below.refl _ _)
 go_wp2_with fail
 refine (unhide C3).mono ?_
 rintro e w3 ⟨ca,cn,cc,rfl,hcc,-,hb3⟩
 have hcn:cn=2:=hcc.1.symm.trans (unhide HCl)
 subst hcn
 have HB3:=hide hb3
 have D4:=hide ((unhide C4) w3 hb3)
 clear m0 m1 m2 m3 m4 m5 m6 m7 m8 m9 m10 m11 hcc C3 C4
 obtain⟨⟨m0,m1,m2,m3,m4,m5,m6,m7⟩,m8,m9,m10,m11⟩:=(unhide KV) w3 hb3
 clear hb3
 go_wp2_with fail
 refine (unhide D4).mono ?_
 rintro e w4 ⟨rfl,hb4⟩
 have hb4':=bel_on (unhide HB3) hb4
 have HB4:=hide hb4'
 have D5:=hide ((unhide C5) w4 hb4')
 clear m0 m1 m2 m3 m4 m5 m6 m7 m8 m9 m10 m11 D4 C5 hb4
 obtain⟨⟨m0,m1,m2,m3,m4,m5,m6,m7⟩,m8,m9,m10,m11⟩:=(unhide KV) w4 hb4'
 clear hb4' KV
 go_wp2_with fail
 refine (unhide D5).mono ?_
 rintro e w5 ⟨rfl,hb5⟩
 have HB5:=hide (bel_on (unhide HBV) (bel_on (unhide HB4) hb5))
 clear hb5 D5
 go_wp2
 go_ret
 exact⟨rfl,unhide HB5⟩
def V4:Nat→Int
 | 0=>0
 | n+1=>V4 n+(rwD ((n:Int)+1)).1
def Jk:Nat→List Int
 | 0=>[]
 | n+1=>Jk n++[(rwD ((n:Int)+1)).1]
theorem Pk(h:Int):0≤(rwD h).1∧(rwD h).1≤64:=by
 unfold rwD
 split
 ·have:=Jh ((h - 1).toNat / 8)
  simp only
  omega
 ·simp
theorem Zbp{h:Int}(h1:1≤h)(h2:h≤1000):(rwD h).2=0:=by
 unfold rwD
 rw[if_pos (by simp;omega)]
theorem Qa:∀ n,0≤V4 n∧V4 n≤64*n
 | 0=>by simp[V4]
 | n+1=>by
  have h1:=Qa n
  have h2:=Pk ((n:Int)+1)
  unfold V4
  omega
theorem V6:∀ n,(Jk n).length=n
 | 0=>rfl
 | n+1=>by rw[Jk,List.length_append,V6 n];rfl
theorem Hy:∀ (n i:Nat) (hi:i<(Jk n).length),(Jk n)[i]=(rwD ((i:Int)+1)).1
 | n+1,i,hi=>by
  have hl:=V6 n
  have hi':i<n+1:=by rw[V6] at hi;exact hi
  by_cases e:i<n
  ·simp only[Jk]
   rw[List.getElem_append_left (by omega)]
   exact Hy n i (by omega)
  ·have e:i=n:=by omega
   subst e
   simp only[Jk]
   rw[List.getElem_append_right (by omega)]
   simp[hl]
theorem Nk:∀ (l:List Int) (s x t:Int),sm s l=(t,0)→0≤x→x≤1000000000→t+x≤1000000000→sm s (l++[x])=(t+x,0)
 | [],s,x,t,h,h1,h2,h3=>by
  simp only[sm,Prod.mk.injEq,and_true] at h
  subst h
  simp[sm,h1,h2,h3]
 | y :: l,s,x,t,h,h1,h2,h3=>by
  simp only[List.cons_append,sm] at h ⊢
  split at h
  ·rename_i q
   rw[if_pos q]
   split at h
   ·rename_i q2
    rw[if_pos q2]
    exact Nk l _ x t h h1 h2 h3
   ·simp at h
  ·simp at h
theorem Nl:∀ n:Nat,n≤1000→sm 0 (Jk n)=(V4 n,0)
 | 0,_=>rfl
 | n+1,hn=>by
  have h1:=Pk ((n:Int)+1)
  have h2:=Qa n
  rw[Jk,V4]
  exact Nk _ _ _ _ (Nl n (by omega)) (by omega) (by omega) (by omega)
def FilS(B p:Nat)(f:Nat→Int)(w wr:World)(k:Nat):Prop:=
 ∃ xs:List Value,wr.ownsRow B 3 1 (.slice (some ⟨B,0,none⟩) p p) p xs∧(∀ j,j<k→xs[j]? = some (.int .i64 (f j)))∧Below B w wr
theorem FilS.later{B p:Nat}{f:Nat→Int}{w wr w':World}{k:Nat}(h:FilS B p f w wr k)(hB:B≤wr.heap.size)(hb:Below wr.heap.size wr w'):FilS B p f w w' k:=by
 obtain⟨xs,ho,hf,hw⟩:=h
 exact⟨xs,(Gr.of hb:Gr wr w' (fun _=>False)).own ho (fun _ _ q=>q),hf,hw.trans (hb.mono hB)⟩
theorem FilS.step{B p:Nat}{f:Nat→Int}{w wr:World}{k:Nat}(h:FilS B p f w wr k)(hk:k<p){x:Int}(hx:x=f k):FilS B p f w (wr.setCell ⟨B,k,none⟩ (.int .i64 x)) (k+1):=by
 obtain⟨xs,ho,hf,hb⟩:=h
 have hl:xs.length=p:=by simpa using ho.1
 refine⟨xs.set k (.int .i64 x),(ho.stored k _).1,fun j hj=>?_,hb.setCell (Nat.le_refl _) _⟩
 by_cases e:j=k
 ·subst e;simp[hl,hk,hx]
 ·rw[List.getElem?_set_ne (by omega)];exact hf j (by omega)
theorem FilS.old{B p:Nat}{f:Nat→Int}{w wr:World}{k:Nat}(h:FilS B p f w wr k)(hk:k<p):∃ v,wr.cell? ⟨B,k,none⟩=some v:=by
 obtain⟨xs,ho,_,_⟩:=h
 have hl:xs.length=p:=by simpa using ho.1
 exact⟨xs[k]'(by omega),by rw[ho.cellAt k (by omega)];simp[hl,hk]⟩
theorem FilS.free{B p:Nat}{f:Nat→Int}{w wr:World}{k:Nat}(h:FilS B p f w wr k)(j:Nat):wr.frozen? ⟨B,j,none⟩=false:=by
 obtain⟨xs,ho,_,_⟩:=h
 exact ho.frozenAt j
theorem FilS.row{B n:Nat}{w wr:World}(h:FilS B n (fun i=>(rwD ((i:Int)+1)).1) w wr n)(hn:n≤1000):RowAt wr (some ⟨B,0,none⟩) n (Jk n):=by
 obtain⟨xs,ho,hf,_⟩:=h
 have hl:xs.length=n:=by simpa using ho.1
 refine⟨V6 n,by unfold maxLen;omega,fun _=>⟨B,0,rfl,fun i hi=>?_⟩⟩
 have hi':i<(Jk n).length:=by rw[V6];exact hi
 have e:(Jk n).getD i 0=(rwD ((i:Int)+1)).1:=by
  rw[List.getD_eq_getElem?_getD,List.getElem?_eq_getElem hi',Option.getD_some]
  exact Hy n i hi'
 rw[e,Nat.zero_add,ho.cellAt i (by omega)]
 exact hf i hi
theorem Dj(n:Nat)(w:World)(h2:n≤1000) :
  Calls Tryz.prog 41 #[.int .i64 n] w fun e w'=>e = .returned (.tuple #[.int .i64 (V4 n),.int .i64 0])∧Below w.heap.size w w':=by
 obtain⟨i0,hi,hz0,hz1,hz2⟩:=info_parts Tryz.infoInt
 go_enter Tryz.func41,Tryz.ntmps41
 go_wp2_with (first|(go_at_call 103;refine (Y9 _ _ _ _ (by omega) (by omega)).mono ?_;rintro e w' ⟨rfl,rfl⟩)|(at_make;refine wpList_make_full _ rfl _ _ 25 rfl w.heap.size 3 i0 (.int .i64 0) 1 Tryz.underlying25 hi hz0 hz1 .i64 .i64 _ _ n rfl rfl rfl rfl (by rw[hz2];omega) (by unfold maxLen;omega) (Nat.le_refl _) ?_;intro w0 hown0 hgrow0))
 have hst:FilS w.heap.size n (fun i=>(rwD ((i:Int)+1)).1) w w0 0:=⟨_,hown0,fun j hj=>absurd hj (by omega),(Below.refl _ _).grown hgrow0 (Nat.le_refl _) (fun k h=>by cases h)⟩
 clear hown0 hgrow0
 have HST:=hide hst
 clear hst
 go_loopw [14] (fun i wr=>∃ k:Nat,k≤n∧i = .int .i64 k∧Hid (FilS w.heap.size n (fun i=>(rwD ((i:Int)+1)).1) w wr k)) (fun i _=>n - (intOf i).toNat)
 case atStart=>exact⟨0,Nat.zero_le _,rfl,HST⟩
 case round=>
  obtain⟨k,hk,rfl,HF⟩:=hrel
  clear HST
  by_cases hlt:k<n
  ·obtain⟨r,hr⟩:∃ r,(rwD ((k:Int)+1)).1=r:=⟨_,rfl⟩
   have HR:=hide (Jj ((k:Int)+1) r 0 wr (Prod.ext hr (Zbp (by omega) (by omega))))
   have HRR:=hide hr
   clear hr
   go_wp2_with fail
   refine (unhide HR).mono ?_
   rintro e w' ⟨rfl,hb⟩
   have hf:=(unhide HF).later ((unhide HF).choose_spec.2.2.size) hb
   obtain⟨v,hold⟩:=hf.old hlt
   have hfree:=hf.free k
   have hl:=World.block_lt_of_cell? _ _ hold
   have HF2:=hide (hf.step hlt (unhide HRR).symm)
   clear HR hb hf HF
   go_wp2_with fail
   go_roundw
   case rel=>exact⟨k+1,by omega,by go_num,HF2⟩
   case measure=>simp[intOf];omega
  ·have e:k=n:=by omega
   subst e
   clear hk hlt
   have HS:=hide (Nh (some ⟨w.heap.size,0,none⟩) k k (Jk k) wr ((unhide HF).row h2))
   have hsm:=Nl k h2
   rw[hsm] at HS
   clear hsm
   go_wp2_with fail
   refine (unhide HS).mono ?_
   rintro e w' ⟨rfl,rfl⟩
   have HB:=hide ((unhide HF).choose_spec.2.2)
   clear HS HF
   go_wp2
   go_ret2
   exact⟨rfl,unhide HB⟩
theorem Zck{N:List Int}{T:List Zg}(hc:Tr.chkTr N T=0)(x:Int):0≤(Tr.fnd x N T).2.1∧(Tr.fnd x N T).2.1≤1000:=by
 have ok:=Tr.TrOk.of hc
 by_cases e:x∈N
 ·have:=Sb (ok.chk _ (Tr.fnd_at ok.len e))
  omega
 ·rw[Tr.fnd_out ok.len e]
  exact⟨Int.le_refl _,by decide⟩
theorem Dk{h:Int}(h0:0≤h):V4 (h+1).toNat=V4 h.toNat+(rwD (h+1)).1:=by
 obtain⟨n,rfl⟩:=Int.eq_ofNat_of_zero_le h0
 show V4 (((n:Int)+1).toNat)=V4 ((n:Int).toNat)+_
 have e1:((n:Int)+1).toNat=n+1:=by omega
 have e2:((n:Int)).toNat=n:=by omega
 rw[e1,e2,V4]
def Zav(N:List Int)(T:List Zg)(β : Int→List Zd)(x:Int):Prop:=Yc (β x)∧Zi (β x)≤V4 (Tr.fnd x N T).2.1.toNat
theorem Ci{K:List ByteArray}{N:List Int}{T:List Zg}(hc:Tr.chkTr N T=0):∀ (n k:Nat) (β γ : Int→List Zd),N.length - k=n→k≤N.length→Xf K (N.drop k) (T.drop k) β = (0,γ) →
  (∀ x,(x=0∨x∈N.take k)→Zav N T β x)→∀ x,(x=0∨x∈N)→Zav N T γ x
 | 0,k,β,γ,hn,hk,h,hi=>by
  rw[Cj (by omega)] at h
  simp only[Prod.mk.injEq,true_and] at h
  subst h
  have e:k=N.length:=by omega
  subst e
  rw[List.take_length] at hi
  exact hi
 | n+1,k,β,γ,hn,hk,h,hi=>by
  have ok:=Tr.TrOk.of hc
  have h1:k<N.length:=by omega
  have h2:k<T.length:=by rw[←ok.len];exact h1
  rw[Zbb h1 h2] at h
  split at h
  ·simp at h
  split at h
  ·rename_i q
   exact absurd (congrArg Prod.fst h) q
  rename_i q
  have q:=Decidable.not_not.1 q
  refine Ci hc n (k+1) _ γ (by omega) (by omega) h (fun x hx=>?_)
  obtain⟨a1,a2⟩:=Tr.ahead hc k h1 h2
  obtain⟨c,M,S,hcon⟩:∃ c M S,Uh K (β T[k].1) T[k]=(c,M,S):=⟨_,_,_,rfl⟩
  rw[hcon] at q ⊢
  have q:c=0:=q
  subst q
  obtain⟨_,r2,_,_,_,r6,_⟩:=Zaj hcon
  by_cases e:x=N[k]
  ·have hu:Qn β N[k] M x=M:=by unfold Qn;rw[if_pos e]
   unfold Zav
   rw[hu,e,a1]
   refine⟨r2,?_⟩
   have p1:=(hi T[k].1 a2).2
   have p2:=ok.hgt N[k] (List.getElem_mem h1)
   rw[a1] at p2
   have p3:=(Zck hc T[k].1).1
   rw[p2,Dk p3,←p2]
   omega
  ·have hu:Qn β N[k] M x = β x:=by unfold Qn;rw[if_neg e]
   unfold Zav
   rw[hu]
   refine hi x ?_
   rcases hx with hx|hx
   ·exact .inl hx
   ·right
    rw[List.take_succ_eq_append_getElem h1,List.mem_append] at hx
    rcases hx with hx|hx
    ·exact hx
    ·exact absurd (by simpa using hx) e
theorem Ba{K:List ByteArray}{N:List Int}{T:List Zg}{P:List TxD}{tip:Int}(h:opE K N T P tip=0):Zn ((Xf K N T noB).2 tip)=0∧Zi ((Xf K N T noB).2 tip)≤V4 (Yo N T tip).toNat∧0≤Yo N T tip∧Yo N T tip≤1000∧(tip=0→Yo N T tip=0)∧(tip≠0→(Tr.blockE N T tip).2=0):=by
 obtain⟨_,h2,h3,_⟩:=Th h
 obtain⟨hc,ht⟩:=Ql h2
 have ok:=Tr.TrOk.of hc
 have R0:Yc []:=(Zs []).1 (by kernel_rfl)
 have hS:=Ci hc (K:=K) N.length 0 noB (Xf K N T noB).2 (by omega) (Nat.zero_le _) (by
  rw[List.drop_zero,List.drop_zero]
  exact Prod.ext h3 rfl) (fun x _=>⟨R0,by
   have:=(Qa (Tr.fnd x N T).2.1.toNat).1
   simpa[noB,Zi] using this⟩) tip ht
 have hb:=Rq h2
 have e:Yo N T tip=(Tr.fnd tip N T).2.1:=by
  unfold Yo Tr.blockE
  rw[if_neg (fun q=>q hc)]
  split
  ·rfl
  ·rename_i q
   rw[Tr.fnd_out ok.len (by simpa using q)]
 refine⟨(Zs _).2 hS.1,by rw[e];exact hS.2,hb.2.1,hb.2.2,fun e0=>?_,fun e0=>?_⟩
 ·rw[e,e0,Tr.fnd_out ok.len ok.zero];rfl
 ·unfold Tr.blockE
  rw[if_neg (fun q=>q hc)]
  have hm:tip∈N:=by
   rcases ht with q|q
   ·exact absurd q e0
   ·exact q
  rw[if_pos (by simpa using hm)]
end Go.Proofs.YtmomfkikogbdeaaGreatDoor
