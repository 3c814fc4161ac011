import Derived.Test.YtmomfkikogbdeaaGreatDoorG22
set_option maxHeartbeats 3200000
set_option maxRecDepth 10000
namespace Go.Proofs.YtmomfkikogbdeaaGreatDoor.Bk
open Go.RowKit Go.Maps
theorem all_isF(a al:Option Addr)(n c nl cl:Nat)(L l M:List ByteArray)(N:List Int)(x:Int)(w:World)(h:TextsAt w a n L)(hl:TextsAt w al nl l)(hnl:nl≤17592186044416)(hx:allR L l=(M,N,x)) :
  Calls Tryz.prog 86 #[.agg #[.slice a n c],.slice al nl cl] w fun e w'=>(∃ a' n' c' a2 n2 c2,e = .returned (.tuple #[.agg #[.slice a' n' c'],.slice a2 n2 c2,.int .i64 x])∧(∀ w2,Gr w' w2 (fun k=>k<w.heap.size)→TextsAt w2 a' n' M)∧SlOk a' n' c'∧IntsAt w' a2 n2 N∧n2≤nl∧n2≤c2)∧Below w.heap.size w w':=by
 unfold allR at hx
 by_cases h0:bkChk L=0
 ·rw[if_pos h0] at hx
  exact Kb a al n c nl cl L l M N x w h hl hnl ((right_iff L).1 h0) hx
 ·rw[if_neg h0] at hx
  have e1:M=[]:=by injection hx with hx _;exact hx.symm
  have e2:N=[]:=by injection hx with _ hx;injection hx with hx _;exact hx.symm
  have e3:bkChk L=x:=by injection hx with _ hx;injection hx with _ hx
  subst e1 e2
  refine (C9 a al n c nl cl L w h x e3 (by rw[←e3];exact h0)).mono ?_
  rintro e w' ⟨rfl,hb⟩
  exact⟨⟨_,_,_,_,_,_,rfl,fun _ _=>TextsAt.nil _ _,SlOk.nil,IntsAt.nil _ _,Nat.zero_le _,Nat.le_refl _⟩,hb⟩
theorem name_fresh(a:Option Addr)(n c:Nat)(L M:List ByteArray)(s:ByteArray)(k x:Int)(w:World)(h:TextsAt w a n L)(hx:nameR L s=(M,k,x)) :
  Calls Tryz.prog 157 #[.agg #[.slice a n c],.string s] w fun e w'=>(∃ a' n' c',e = .returned (.tuple #[.agg #[.slice a' n' c'],.int .i64 k,.int .i64 x])∧(∀ w2,Gr w' w2 (fun k=>k<w.heap.size)→TextsAt w2 a' n' M)∧SlOk a' n' c')∧Below w.heap.size w w':=by
 have hb1:=Zi w (.cells #[.slice a n c] 24)
 have hb2:=Zi (w.alloc (.cells #[.slice a n c] 24)) (.cells #[.slice none 0 0] 24)
 have hs1:(w.alloc (.cells #[.slice a n c] 24)).heap.size=w.heap.size+1:=by simp
 have hs2:((w.alloc (.cells #[.slice a n c] 24)).alloc (.cells #[.slice none 0 0] 24)).heap.size=w.heap.size+1+1:=by simp
 have c1:=heap_alloc_new (w.alloc (.cells #[.slice a n c] 24)) (.cells #[.slice none 0 0] 24)
 rw[hs1] at c1
 have hb3:=Zi ((w.alloc (.cells #[.slice a n c] 24)).alloc (.cells #[.slice none 0 0] 24)) (.cells #[.string s] 9)
 have ht:=Zda ((w.alloc (.cells #[.slice a n c] 24)).alloc (.cells #[.slice none 0 0] 24)) s
 rw[hs2] at ht
 have hb:=Zf (Zf hb1 hb2) hb3
 have c2:=(hb3.block _ (lt_of_block c1)).trans c1
 have ea:=Zgy L s
 rw[hx] at ea
 have ER:=Zdj (L:=L) (s:=s)
 rw[hx] at ER
 simp only at ea ER
 have AL:=Zb (all_isF a (some ⟨w.heap.size+1+1,0,none⟩) n c 1 1 L [s] M (if x=0 then [k] else []) x _ (h.later hb) ht (by decide) ea)
 have HB:=Zb hb
 have C2:=Zb c2
 clear h hx ea hb hb1 hb2 hb3 hs1 hs2 c1 c2 ht
 by_cases h0:x=0
 ·subst h0
  rw[if_pos rfl] at AL
  clear ER
  go_enter Tryz.func157,Tryz.ntmps157
  go_wp2_with fail
  refine (Za AL).mono ?_
  rintro e w2 ⟨⟨a',n',c',a2,n2,c2,rfl,t1,t2,t3,-⟩,hb2⟩
  obtain⟨t4,t5⟩:=t3
  have e:n2=1:=by rw[←t4];rfl
  subst e
  obtain⟨b,off,rfl,hc⟩:=t5 (by decide)
  have f:=hc 0 (by simp)
  simp only[Nat.add_zero,List.getElem_cons_zero] at f
  have HB2:=Zb (Zf (Za HB) hb2)
  have c3:=(hb2.block _ (lt_of_block (Za C2))).trans (Za C2)
  have hb3:=Zi w2 (.cells #[.slice a' n' c'] 24)
  have c4:=(hb3.block _ (lt_of_block c3)).trans c3
  have HOK:=Zb t2
  have hlt:w.heap.size+1<w2.heap.size:=lt_of_block c3
  have f2:=Ze hb3 f
  have n0:=Qi w2 (.slice a' n' c') 24
  have hne:b≠w.heap.size+1:=by
   intro e
   subst e
   rw[cell_of_row _ _ _ _ _ _ c3] at f
   rcases off with _|off
   ·simp at f
   ·simp at f
  obtain⟨X,hX⟩:∃ X,X=w2.alloc (.cells #[.slice a' n' c'] 24):=⟨_,rfl⟩
  rw[←hX] at c4 f2 n0 hb3
  have HB3:=Zb (Zf (Za HB2) hb3)
  have d0:X.cell? ⟨w.heap.size+1,0,none⟩=some (.slice none 0 0):=by simp[World.cell?,c4]
  have df:X.frozen? ⟨w.heap.size+1,0,none⟩=false:=by simp[World.frozen?,c4]
  have hbl:b<X.heap.size:=World.block_lt_of_cell? _ _ f2
  have hne2:¬w2.heap.size=w.heap.size+1:=by omega
  have TS:Hid (∀ u w2,Gr (X.setCell ⟨w.heap.size+1,0,none⟩ u).drew w2 (fun k=>k<w.heap.size)→TextsAt w2 a' n' M):=fun u w2 g2=>t1 w2 (((((Gr.of hb3).set (p:=⟨w.heap.size+1,0,none⟩) (.inl (by simp)) u).draw).trans (g2.mono (fun _ _ hk=>Nat.lt_of_lt_of_le hk (by simp;omega)))))
  clear t1 t2 hb2 hb3 c3 c4 f hc t4 t5
  go_wp2
  rw[←hX]
  clear hX
  go_region
  go_wp2
  (try simp only[Exit.then])
  refine bodyPost_ret (v:=.tuple #[.agg #[.slice a' n' c'],.int .i64 k,.int .i64 0]) ?_ rfl ⟨⟨_,_,_,rfl,(Za TS) _,Za HOK⟩,?_⟩
  ·rw[results_cell_tmp2 rfl]
   go_simp
  ·exact ((Za HB3).setCell (Nat.le_succ _) _).drew
 ·rw[if_neg h0] at AL
  obtain⟨rfl,rfl⟩:=ER h0
  have g:(x != 0)=true:=by simp[h0]
  go_enter Tryz.func157,Tryz.ntmps157
  go_wp2_with fail
  refine (Za AL).mono ?_
  rintro e w2 ⟨⟨a',n',c',a2,n2,c2,rfl,t1,t2,t3,-⟩,hb2⟩
  have HB2:=Zb (Zf (Za HB) hb2)
  have c3:=(hb2.block _ (lt_of_block (Za C2))).trans (Za C2)
  have hb3:=Zi w2 (.cells #[.slice a' n' c'] 24)
  have c4:=(hb3.block _ (lt_of_block c3)).trans c3
  have HB3:=Zb (Zf (Za HB2) hb3)
  have hlt:w.heap.size+1<w2.heap.size:=lt_of_block c3
  have d0:w2.cell? ⟨w.heap.size+1,0,none⟩=some (.slice none 0 0):=by simp[World.cell?,c3]
  have df:w2.frozen? ⟨w.heap.size+1,0,none⟩=false:=by simp[World.frozen?,c3]
  clear t1 t2 t3 hb2 hb3 c3 c4
  go_wp2
  (try simp only[Exit.inBlock,Exit.then])
  refine bodyPost_ret (v:=.tuple #[.agg #[.slice none 0 0],.int .i64 0,.int .i64 x]) ?_ rfl ⟨⟨_,_,_,rfl,fun _ _=>TextsAt.nil _ _,SlOk.nil⟩,?_⟩
  ·rw[results_cell_tmp2 rfl]
   go_simp
  ·exact ((Za HB2).setCell (Nat.le_succ _) _).alloc (by have:=(Za HB2).size;simp;omega) _
end Go.Proofs.YtmomfkikogbdeaaGreatDoor.Bk
namespace Go.Proofs.YtmomfkikogbdeaaGreatDoor
open Go.RowKit Go.Shelf
def J3(K:List ByteArray)(C:List Zh)(h:Int):Int:=
 if Bk.bkChk K≠0 then Bk.bkChk K else if Zy C≠0 then Zy C else if (decide (1≤h) && decide (h≤1000))=false then 3 else 0
def Zet(w:World)(p:Nat)(K:List ByteArray)(C:List Zh)(h:Int):Prop:=
 ∃ ka kn kc la ln lc,w.heap[p]? = some (.cells #[.slice ka kn kc,.slice la ln lc,.int .i64 h] 162 (0,0))∧Bk.TextsAt w ka kn K∧SlOk ka kn kc∧CoinsAt w la ln C∧SlOk la ln lc
def DoT(w':World)(B p:Nat)(K:List ByteArray)(C:List Zh)(h:Int):Prop:=
 ∃ ka kn kc la ln lc,w'.heap[p]? = some (.cells [.slice ka kn kc,.slice la ln lc,.int .i64 h].toArray 162 (0,0))∧Fresh B w' (fun w2=>Bk.TextsAt w2 ka kn K∧CoinsAt w2 la ln C)∧SlOk ka kn kc∧SlOk la ln lc
theorem DoT.till{w:World}{B p:Nat}{K:List ByteArray}{C:List Zh}{h:Int}(d:DoT w B p K C h):Zet w p K C h:=by
 obtain⟨ka,kn,kc,la,ln,lc,h1,h2,h3,h4⟩:=d
 have h5:=h2 w (Gr.refl _ _)
 exact⟨ka,kn,kc,la,ln,lc,h1,h5.1,h3,h5.2,h4⟩
theorem DoT.on{w w':World}{B p:Nat}{K:List ByteArray}{C:List Zh}{h:Int}(d:DoT w B p K C h)(g:Gr w w' (fun q=>q<B))(hp:w'.heap[p]? = w.heap[p]?):DoT w' B p K C h:=by
 obtain⟨ka,kn,kc,la,ln,lc,h1,h2,h3,h4⟩:=d
 exact⟨ka,kn,kc,la,ln,lc,hp.trans h1,fun w2 g2=>h2 w2 (g.trans g2),h3,h4⟩
theorem DoT.later{w w':World}{B p:Nat}{K:List ByteArray}{C:List Zh}{h:Int}(d:DoT w B p K C h)(hb:Below w.heap.size w w'):DoT w' B p K C h:=by
 have hp:p<w.heap.size:=by obtain⟨ka,kn,kc,la,ln,lc,h1,_⟩:=d;exact lt_of_block h1
 exact d.on (Gr.of hb) (hb.block p hp)
theorem DoT.less{w:World}{B B' p:Nat}{K:List ByteArray}{C:List Zh}{h:Int}(d:DoT w B p K C h)(hB:B'≤B):DoT w B' p K C h:=by
 obtain⟨ka,kn,kc,la,ln,lc,h1,h2,h3,h4⟩:=d
 exact⟨ka,kn,kc,la,ln,lc,h1,fun w2 g2=>h2 w2 (g2.mono fun _ _ q=>Nat.lt_of_lt_of_le q hB),h3,h4⟩
def OpR(w w':World)(x:Int)(K:List ByteArray)(C:List Zh)(h:Int)(e:Ending):Prop:=
 ((x≠0∧e = .returned (.tuple #[.pointer none,.int .i64 x]))∨(x=0∧∃ p,e = .returned (.tuple #[.pointer (some ⟨p,0,none⟩),.int .i64 0])∧w.heap.size≤p∧p+1=w'.heap.size∧DoT w' w.heap.size p K C h))∧Below w.heap.size w w'
theorem Zcr(ka:Option Addr)(kn kc:Nat)(K:List ByteArray)(la:Option Addr)(ln lc:Nat)(C:List Zh)(h x:Int)(w:World)(hK:Bk.TextsAt w ka kn K)(hC:CoinsAt w la ln C)(sC:SlOk la ln lc)(hx:J3 K C h=x) :
  Calls Tryz.prog 149 #[.agg #[.slice ka kn kc],.slice la ln lc,.int .i64 h] w fun e w'=>OpR w w' x K C h e:=by
 obtain⟨X,hX⟩:∃ X,X=w.alloc (.cells #[.slice ka kn kc] 24):=⟨_,rfl⟩
 have hbX:Below w.heap.size w X:=by rw[hX];exact Zi _ _
 have hX0:X.heap[w.heap.size]? = some (.cells [.slice ka kn kc].toArray 24 (0,0)):=by rw[hX];exact Yo _ _ _
 obtain⟨⟨M,Z,z⟩,hz⟩:∃ r,Bk.allR K []=r:=⟨_,rfl⟩
 have C1:=Zb (Bk.all_isF ka none kn kc 0 0 K [] M Z z X (hK.later hbX) ⟨rfl,fun h=>absurd h (by omega)⟩ (by omega) hz)
 have hzc:z=Bk.bkChk K∧(z=0→M=K):=by
  unfold Bk.allR at hz
  split at hz
  ·rename_i q;rw[Bk.nmGo] at hz;simp only[Prod.mk.injEq] at hz;exact⟨by rw[←hz.2.2,q],fun _=>hz.1.symm⟩
  ·rename_i q;simp only[Prod.mk.injEq] at hz;exact⟨hz.2.2.symm,fun e=>absurd (hz.2.2.trans e) q⟩
 unfold J3 at hx
 rw[←hzc.1] at hx
 obtain⟨y,hy⟩:∃ y,Zy C=y:=⟨_,rfl⟩
 rw[hy] at hx
 obtain⟨g,hg⟩:∃ g,(decide (1≤h) && decide (h≤1000))=g:=⟨_,rfl⟩
 rw[hg] at hx
 have HZ:=Zb hzc.2
 have HX:=Zb hx
 have HG:=Zb hg
 have HY:=Zb hy
 have HC:=Zb (hC.later hbX)
 have HSC:=Zb sC
 have HBX:=Zb hbX
 have HX0:=Zb hX0
 have x00:=Zd hX0 0 _ rfl
 have xl:=lt_of_block hX0
 have HXL:=Zb xl
 clear hK hC sC hx hbX hX0 hz hzc hy hg
 go_enter Tryz.func149,Tryz.ntmps149
 go_wp2_with fail
 rw[←hX]
 clear hX
 (try go_wp2_with fail)
 refine (Za C1).mono ?_
 rintro e w1 ⟨⟨a',n',c',a2,n2,c2,rfl,hT,sT,_,_,_⟩,hb1⟩
 have h10:=(hb1.block _ (lt_of_block (Za HX0))).trans (Za HX0)
 have y0:=Zd h10 0 _ rfl
 have yf:=Zg h10 0
 have yl:=lt_of_block h10
 obtain⟨W1,hW1⟩:∃ W1,W1=w1.setCell ⟨w.heap.size,0,none⟩ (.slice a' n' c'):=⟨_,rfl⟩
 have g1:Gr w1 W1 (fun q=>q=w.heap.size):=by rw[hW1];exact (Gr.refl w1 (fun q=>q=w.heap.size)).set (p:=⟨w.heap.size,0,none⟩) (.inl rfl) _
 have h1W:W1.heap[w.heap.size]? = some (.cells #[.slice a' n' c'] 24 (0,0)):=by rw[hW1];exact Wz h10
 have hbW:Below w.heap.size w W1:=g1.below (Zf (Za HBX) hb1) (Zf (Za HBX) hb1).size (fun q e=>by omega)
 have HCW:Hid (CoinsAt W1 la ln C):=Zaz (S:=fun q=>q=w.heap.size) g1.size g1.block (fun k e=>by subst e;exact⟨_,_,_,h10⟩) ((Za HC).later hb1)
 have HTW:Hid (Fresh w.heap.size W1 (fun w2=>Bk.TextsAt w2 a' n' M)):=fun w2 g2=>hT w2 ((g1.mono (fun k _ e=>by rw[e];exact (Za HXL))).trans (g2.mono (fun k _ e=>Nat.lt_trans e (Za HXL))))
 have HBW:=Zb hbW
 have H1W:=Zb h1W
 have HST:=Zb sT
 have HWL:=Zb (show w.heap.size<W1.heap.size from lt_of_block h1W)
 have C2:=Zb (Wo la ln lc C y W1 (Za HCW) (Za HY))
 clear hb1 h10 hT sT g1 h1W hbW C1 x00 xl HC HX0 HBX
 by_cases hz0:z=0
 ·subst hz0
  obtain rfl:=(Za HZ) rfl
  go_wp2_with fail
  rw[←hW1]
  clear hW1 y0 yf yl
  (try go_wp2_with fail)
  refine (Za C2).mono ?_
  rintro e w2 ⟨rfl,hb2⟩
  have HB2:=Zb (Zf (Za HBW) hb2)
  have H12:=Zb hb2
  have C3:=Zb (Yu h 1 1000 g w2 (Za HG))
  clear hb2 C2
  by_cases hy0:y=0
  ·subst hy0
   go_wp2_with fail
   refine (Za C3).mono ?_
   rintro e w3 ⟨rfl,hb3⟩
   have HB3:=Zb (Zf (Za HB2) hb3)
   have H13:=Zb (Zf (Za H12) hb3)
   clear hb3 C3 H12 HB2
   cases g
   ·have HXE:Hid (x=3):=by have:=Za HX;rw[if_neg (fun q=>q rfl),if_neg (fun q=>q rfl),if_pos rfl] at this;exact this.symm
    clear HX
    go_wp2
    go_ret2
    rw[Za HXE]
    exact⟨.inl ⟨by decide,rfl⟩,Za HB3⟩
   ·have HXE:Hid (x=0):=by have:=Za HX;rw[if_neg (fun q=>q rfl),if_neg (fun q=>q rfl),if_neg (by decide)] at this;exact this.symm
    have hRC:=(Zz C).1 (Za HY)
    have hcc:=Za HCW
    have hcl:=hcc.1
    have hlen:=hRC.len
    have CP:=Zb (fun V (hv:Below W1.heap.size W1 V)=>Qs la ln lc C V (by omega) (hcc.later hv) (Za HSC) (fun z hz=>by have:=Ts (Yp (hRC.one z hz)).2.2.2.2.2.2.2.2;omega))
    have h3:=((Za H13).block _ (lt_of_block (Za H1W))).trans (Za H1W)
    have KS:Hid (∀ V:World,Below w3.heap.size w3 V→V.cell? ⟨w.heap.size,0,none⟩=some (.slice a' n' c')∧w.heap.size<V.heap.size):=fun V hv=>⟨Ze hv (Zd (X:=[.slice a' n' c']) h3 0 _ rfl),Nat.lt_of_lt_of_le (lt_of_block h3) hv.size⟩
    clear HX hRC hcc hcl hlen h3
    go_wp2_with fail
    refine wp_region_held_drew (S:=fun V=>V.cell? ⟨w.heap.size,0,none⟩=some (.slice a' n' c')∧w.heap.size<V.heap.size) (by kernel_rfl) ((Za KS) _ (Zj _)) (fun Zjc=>?_)
    refine tk 0 ⟨some 28,.load 24 (.tmp 3),24, "till.go:31",#[],none⟩ ?_ rfl ?_ Zjc ?_
    rotate_left
    ·(intro V hSw;obtain⟨s1,s2⟩:=hSw;go_simp;first|done|with_reducible rfl)
    (try simp only[Act.put,ZA,ZB,ZC])
    refine tk 1 ⟨some 29,.move (.tmp 1),29, "till.go:31",#[],none⟩ ?_ rfl ?_ Zjc ?_
    rotate_left
    ·(intro V hSw;obtain⟨s1,s2⟩:=hSw;go_simp;first|done|with_reducible rfl)
    (try simp only[Act.put,ZA,ZB,ZC])
    refine tk 3 ⟨some 31,.move (.tmp 2),3, "till.go:31",#[],none⟩ ?_ rfl ?_ Zjc ?_
    rotate_left
    ·(intro V hSw;obtain⟨s1,s2⟩:=hSw;go_simp;first|done|with_reducible rfl)
    (try simp only[Act.put,ZA,ZB,ZC])
    refine wpAnyH_ready (rs:=[2]) (by kernel_rfl) (by simp) ?_
    refine AllReadyH.cons (o:=⟨some 30,.call { callee:=Callee.value (.func 66),args:=#[.tmp 29],argTypes:=#[29] },29, "till.go:31",#[⟨1,.data⟩],none⟩) rfl (fun KQ hK=>?_) AllReadyH.nil
    refine Zl (by kernel_rfl) 66 #[.slice la ln lc] (by kernel_rfl) ((Za CP) _ (Zf (Za H13) (Zj _))) ?_
    rintro e V1 ⟨ca,cc,rfl,hF,scc,hbV⟩
    refine⟨_,rfl,?_⟩
    have hb1:Below w3.heap.size w3 V1:=Zf (Zj w3) hbV
    have hcc:CoinsAt V1 ca ln C:=hF _ (Gr.refl _ _)
    refine hK.out _ _ ((Za KS) _ hb1) (fun Zjd=>?_)
    clear hK KQ Zjc
    have Zjc:=Zjd
    clear Zjd
    (try simp only[Act.put,ZA,ZB,ZC])
    refine tk 4 ⟨some 32,.build 162 #[(0,.tmp 28),(1,.tmp 30),(2,.tmp 31)],162, "till.go:31",#[⟨0,.data⟩,⟨2,.data⟩,⟨3,.data⟩],none⟩ ?_ rfl ?_ Zjc ?_
    rotate_left
    ·(intro W hSw;(try dsimp only at hSw);go_simp;first|done|with_reducible rfl)
    (try simp only[Act.put,ZA,ZB,ZC])
    refine wpAnyH_ready (rs:=[5]) (by kernel_rfl) (by simp) ?_
    refine AllReadyH.cons (o:=⟨some 33,.box 162 (.tmp 32),157, "till.go:31",#[⟨4,.data⟩],none⟩) rfl (fun KQ hK=>?_) AllReadyH.nil
    go_simp
    obtain⟨V2,hV2⟩:∃ V2,V2=V1.alloc (.cells #[.slice a' n' c',.slice ca ln cc,.int .i64 h] 162):=⟨_,rfl⟩
    have hb12:Below V1.heap.size V1 V2:=by rw[hV2];exact Zi _ _
    have h2:V2.heap[V1.heap.size]? = some (.cells #[.slice a' n' c',.slice ca ln cc,.int .i64 h] 162 (0,0)):=by rw[hV2];exact heap_alloc_new _ _
    have hs2:V2.heap.size=V1.heap.size+1:=by rw[hV2];simp
    rw[←hV2]
    refine hK.out _ _ ((Za KS) _ (Zf hb1 hb12)) (fun Zjd=>?_)
    clear hK KQ Zjc
    have Zjc:=Zjd
    clear Zjd
    (try simp only[Act.put,ZA,ZB,ZC])
    refine tk 6 ⟨some 6,.assign (.tmp 33),157, "till.go:31",#[⟨5,.data⟩,⟨2,.chain⟩,⟨0,.phase⟩,⟨1,.phase⟩,⟨2,.phase⟩,⟨3,.phase⟩,⟨4,.phase⟩,⟨5,.phase⟩],none⟩ ?_ rfl ?_ Zjc ?_
    rotate_left
    ·(intro W hSw;(try dsimp only at hSw);go_simp;first|done|with_reducible rfl)
    (try simp only[Act.put,ZA,ZB,ZC])
    refine tk 7 ⟨some 7,.assign (.const (Value.int IntKind.i64 0)),30, "till.go:31",#[⟨6,.chain⟩,⟨0,.phase⟩,⟨1,.phase⟩,⟨2,.phase⟩,⟨3,.phase⟩,⟨4,.phase⟩,⟨5,.phase⟩,⟨6,.phase⟩],none⟩ ?_ rfl ?_ Zjc ?_
    rotate_left
    ·(intro W hSw;(try dsimp only at hSw);go_simp;first|done|with_reducible rfl)
    (try simp only[Act.put,ZA,ZB,ZC])
    refine wpAnyH_done (by kernel_rfl) ?_ _
    clear Zjc
    have HF:Hid (OpR w V2 0 M C h (.returned (.tuple #[.pointer (some ⟨V1.heap.size,0,none⟩),.int .i64 0]))):=⟨.inr ⟨rfl,V1.heap.size,rfl,Nat.le_trans (Za HB3).size hb1.size,hs2.symm,a',n',c',ca,ln,cc,h2,fun w2 g2=>⟨(Za HTW) w2 ((Gr.of (Zf (Za H13) (Zf hb1 hb12))).trans g2),hF w2 ((Gr.of hb12).trans (g2.mono (fun k _ e=>Nat.lt_of_lt_of_le e (Za HB3).size)))⟩,Za HST,scc⟩,Zf (Za HB3) (Zf hb1 hb12)⟩
    clear hb12 h2 hs2 hV2 hb1 hcc hF scc hbV KS CP
    go_wp2
    go_ret2
    rw[Za HXE]
    exact Za HF
  ·have HXE:Hid (x=y):=by have:=Za HX;rw[if_neg (fun q=>q rfl),if_pos hy0] at this;exact this.symm
   have gy:(y != 0)=true:=by simp[hy0]
   clear HX C3
   go_wp2
   go_ret2
   rw[Za HXE]
   exact⟨.inl ⟨hy0,rfl⟩,Za HB2⟩
 ·have HXE:Hid (x=z):=by have:=Za HX;rw[if_pos hz0] at this;exact this.symm
  have gz:(z != 0)=true:=by simp[hz0]
  clear HX C2
  have HW1:=Zb hW1
  clear hW1
  go_wp2
  rw[←Za HW1]
  go_ret2
  rw[Za HXE]
  exact⟨.inl ⟨hz0,rfl⟩,Za HBW⟩
open Bk (Right nm nameR)
theorem Tm{h:Int}{K K':List ByteArray}{C C':List Zh}{t:TxD}(e:doD h (K,C) t=(0,K',C')) :
  Zx t=0∧t.2.1.length≠0∧∃ n S,nameR K (txT t)=(K',n,0)∧apD C t n h=(0,C',S):=by
 unfold doD at e
 split at e
 ·rename_i q;injection e with e _;exact absurd e q
 rename_i q1
 split at e
 ·injection e with e _;exact absurd (show (4:Int)=0 from e) (by decide)
 rename_i q2
 split at e
 ·rename_i q;injection e with e _;exact absurd e q
 rename_i q3
 split at e
 ·rename_i q;injection e with e _;exact absurd e q
 rename_i q4
 injection e with _ e
 injection e with e1 e2
 exact⟨Decidable.not_not.1 q1,q2,_,_,Prod.ext e1 (Prod.ext rfl (Decidable.not_not.1 q3)),Prod.ext (Decidable.not_not.1 q4) (Prod.ext e2 rfl)⟩
theorem Tn{h:Int}{K K':List ByteArray}{C C':List Zh}{t:TxD}(hK:Right K)(e:doD h (K,C) t=(0,K',C')) :
  Right K'∧(∃ M,K'=K++M)∧Z6 C'∧Zo C'≤Zo C∧Zx t=0:=by
 obtain⟨h1,h2,n,S,h3,h4⟩:=Tm e
 obtain⟨d1,d2,_⟩:=To hK (show (doD h (K,C) t).1=0 by rw[e])
 rw[e] at d1 d2
 exact⟨d1,d2,(H9 h4).2.1,(Zeq h4).2 h2,h1⟩
def swT(h:Int):List TxD→List ByteArray×List Zh→List (TxD×List Zh)
 | [],_=>[]
 | t :: l,s=>if (doD h s t).1=0 then (t,(doD h s t).2.2) :: swT h l (doD h s t).2 else swT h l s
def Y3(C:List Zh)(X:List (TxD×List Zh)):List Zh:=(X.getLast?.map (·.2)).getD C
theorem Ws(C:List Zh):Y3 C []=C:=rfl
theorem Xz(C:List Zh)(X:List (TxD×List Zh))(t:TxD)(C':List Zh):Y3 C (X++[(t,C')])=C':=by simp[Y3]
theorem Az(C:List Zh)(X:List (TxD×List Zh))(t:TxD)(C':List Zh):Y3 C ((t,C') :: X)=Y3 C' X:=by
 cases X with
 | nil=>rfl
 | cons y X=>
  obtain⟨z,hz⟩:∃ z,(y :: X).getLast? = some z:=⟨_,List.getLast?_eq_some_getLast (by simp)⟩
  unfold Y3
  rw[List.getLast?_cons_cons,hz]
  rfl
theorem Ud(h:Int):∀ (l:List TxD) (s:List ByteArray×List Zh),(swT h l s).map (·.1)=(Zs h l s).1
 | [],_=>rfl
 | t :: l,s=>by
  rw[swT,Zs]
  split
  ·rw[List.map_cons,Ud h l]
  ·exact Ud h l s
theorem P8(h:Int):∀ (l:List TxD) (s:List ByteArray×List Zh),Y3 s.2 (swT h l s)=(Zs h l s).2.2
 | [],_=>rfl
 | t :: l,s=>by
  rw[swT,Zs]
  split
  ·rw[Az,P8 h l]
  ·exact P8 h l s
theorem Jn(h:Int):∀ (l:List TxD) (s:List ByteArray×List Zh),(swT h l s).length≤l.length
 | [],_=>Nat.le_refl _
 | t :: l,s=>by
  rw[swT]
  split
  ·rw[List.length_cons,List.length_cons];exact Nat.succ_le_succ (Jn h l _)
  ·exact Nat.le_succ_of_le (Jn h l s)
theorem Q0{h:Int}:∀ (l:List TxD) (K:List ByteArray) (C:List Zh),Right K→Z6 C→Z6 (Zs h l (K,C)).2.2∧Zo (Zs h l (K,C)).2.2≤Zo C∧∀ t∈(Zs h l (K,C)).1,Zx t=0∧t.2.1.length≠0
 | [],K,C,_,hC=>⟨hC,Int.le_refl _,fun _ q=>by cases q⟩
 | t :: l,K,C,hK,hC=>by
  rw[Zs]
  by_cases q:(doD h (K,C) t).1=0
  ·rw[if_pos q]
   have e:doD h (K,C) t=(0,(doD h (K,C) t).2.1,(doD h (K,C) t).2.2):=Prod.ext q rfl
   obtain⟨d1,_,d3,d4,d5⟩:=Tn hK e
   obtain⟨s1,s2,s3⟩:=Q0 (h:=h) l _ _ d1 d3
   refine⟨s1,Int.le_trans s2 d4,fun x hx=>?_⟩
   rcases List.mem_cons.1 hx with rfl|hx
   ·exact⟨d5,(Tm e).2.1⟩
   ·exact s3 x hx
  ·rw[if_neg q]
   exact Q0 l K C hK hC
def swE(K:List ByteArray)(C:List Zh)(l:List TxD)(h:Int):Int:=
 if J3 K C h≠0 then J3 K C h else if 8<l.length then 2 else 0
theorem Vx{K:List ByteArray}{C:List Zh}{h:Int}(e:J3 K C h=0):Right K∧Z6 C∧1≤h∧h≤1000:=by
 unfold J3 at e
 split at e
 ·rename_i q;exact absurd e q
 rename_i q1
 split at e
 ·rename_i q;exact absurd e q
 rename_i q2
 split at e
 ·exact absurd e (by decide)
 rename_i q3
 simp at q3
 exact⟨(Bk.right_iff K).1 (Decidable.not_not.1 q1),(Zz C).1 (Decidable.not_not.1 q2),q3.1,q3.2⟩
theorem Tf{K:List ByteArray}{C:List Zh}{h:Int}(hK:Right K)(hC:Z6 C)(h1:1≤h)(h2:h≤1000):J3 K C h=0:=by
 unfold J3
 rw[if_neg (fun q=>q ((Bk.right_iff K).2 hK)),if_neg (fun q=>q ((Zz C).2 hC)),if_neg (by simp[h1,h2])]
theorem Uw{K:List ByteArray}{C:List Zh}{l:List TxD}{h:Int}(e:swE K C l h=0):J3 K C h=0∧l.length≤8:=by
 unfold swE at e
 split at e
 ·rename_i q;exact absurd e q
 rename_i q1
 split at e
 ·exact absurd e (by decide)
 exact⟨Decidable.not_not.1 q1,by omega⟩
def acE(K:List ByteArray)(C:List Zh)(l:List TxD)(t:TxD)(h:Int):Int×List ByteArray×List TxD:=
 if swE K C l h≠0 then (swE K C l h,[],[]) else if ((Zs h l (K,C)).1.any fun x=>Vh x t)=true then (6,[],[]) else
 if (doD h (Zs h l (K,C)).2 t).1≠0 then ((doD h (Zs h l (K,C)).2 t).1,[],[]) else if (Zs h l (K,C)).1.length=8 then (12,[],[]) else
 (0,(doD h (Zs h l (K,C)).2 t).2.1,(Zs h l (K,C)).1++[t])
def Gp(h n:Int)(lk:List (Int×Int)):TxD:=(h,[],[(n,lk)])
def Yz:Zk:=(0,0,0,0,[])
def Zdw(h:Int)(l:List TxD)(K:List ByteArray)(C:List Zh):Int:=Zo C - Zo (Y3 C ((swT h l (K,C)).take 3))
def mkE(K:List ByteArray)(C:List Zh)(l:List TxD)(p h wk n:Int)(lk:List (Int×Int)):Int×Zk:=
 if swE K C l h≠0 then (swE K C l h,Yz) else if (rwD h).1+Zdw h l K C=0 then (9,Yz) else
 if Yt (p,h,wk,n,Gp h ((rwD h).1+Zdw h l K C) lk :: (Zs h l (K,C)).1.take 3)≠0 then (Yt (p,h,wk,n,Gp h ((rwD h).1+Zdw h l K C) lk :: (Zs h l (K,C)).1.take 3),Yz) else
 (0,(p,h,wk,n,Gp h ((rwD h).1+Zdw h l K C) lk :: (Zs h l (K,C)).1.take 3))
theorem Ed(x:Zh)(a:Option Addr)(n c:Nat)(w:World):Calls Tryz.prog 81 #[cnV x a n c] w fun e w'=>e = .returned (.bool true)∧Below w.heap.size w w':=by
 unfold cnV
 have HB:=Zb (Zi w (.cells #[.int .i64 x.1,.int .i64 x.2.1,.int .i64 (cv x),.slice a n c,.int .i64 (ch x),.bool (cr x)] 124))
 go_enter Tryz.func81,Tryz.ntmps81
 go_wp2
 go_ret
 exact⟨rfl,Za HB⟩
theorem Nj(a:Option Addr)(n c:Nat)(L:List Zh)(x s:Int)(w:World)(h:CoinsAt w a n L)(hx:Zy L=x)(hs:(if x=0 then Zo L else 0)=s) :
  Calls Tryz.prog 80 #[.slice a n c,.func (.func 81) #[] #[]] w fun e w'=>e = .returned (.tuple #[.int .i64 s,.int .i64 x])∧Below w.heap.size w w':=by
 have C1:=Zb (Wo a n c L x w h hx)
 by_cases e1:x=0
 ·subst e1
  rw[if_pos rfl] at hs
  have hR:=(Zz L).1 hx
  have hn:n≤720:=by rw[←h.1];exact hR.len
  have HSB:=Zb (fun k=>R5 L k (fun z hz=>by have:=Yp (hR.one z hz);omega))
  have HL:=Zb h
  have HZ:=Zb h.1
  have HS:=Zb hs
  clear hR h hx hs
  go_enter Tryz.func80,Tryz.ntmps80
  go_wp2_with fail
  refine (Za C1).mono ?_
  rintro e w2 ⟨rfl,hb2⟩
  have HB2:=Zb hb2
  clear hb2 C1
  go_wp2
  go_loopw [7,17] (fun sv i wr=>∃ (k:Nat) (d:Int),k≤n∧sv = .int .i64 d∧i = .int .i64 k∧Hid (d=Zo (L.take k))∧Hid (Below w.heap.size w wr)) (fun _ i _=>n - (intOf i).toNat)
  case atStart=>exact⟨0,0,Nat.zero_le _,rfl,rfl,rfl,HB2⟩
  case round=>
   obtain⟨k,d,hk,rfl,rfl,A,HB⟩:=hrel
   by_cases hlt:k<n
   ·have hlk:k<L.length:=by rw[Za HZ];exact hlt
    obtain⟨b,off,rfl,hbl,hcell⟩:=(Za HL).2 (by omega)
    have hin:=CoinAt.kept _ _ _ _ _ (Za HB) (hcell k hlk)
    have b1:=(Za HSB) k
    have b2:=(Za HSB) (k+1)
    have hst:=Tz L k hlk
    obtain⟨y,hy⟩:∃ y,L[k]=y:=⟨_,rfl⟩
    rw[hy] at hin hst
    obtain⟨la,ln,lc,g0,g1,g2,g3,g4,g5,_,_⟩:=hin.val
    obtain⟨v,hv⟩:∃ v,cv y=v:=⟨_,rfl⟩
    have T1:=fun w=>Ed y la ln lc w
    unfold cnV at T1
    rw[hv] at g2 hst T1
    have HT1:=Zb T1
    rw[←Za A] at b1 hst
    rw[hst] at b2
    have A2:Hid (d+v=Zo (L.take (k+1))):=hst.symm
    obtain⟨X,hX⟩:∃ X,X=wr.alloc (.cells #[.int .i64 y.1,.int .i64 y.2.1,.int .i64 v,.slice la ln lc,.int .i64 (ch y),.bool (cr y)] 124):=⟨_,rfl⟩
    have hbX:Below wr.heap.size wr X:=by rw[hX];exact Zi _ _
    have hX1:X.heap[wr.heap.size]? = some (.cells [.int .i64 y.1,.int .i64 y.2.1,.int .i64 v,.slice la ln lc,.int .i64 (ch y),.bool (cr y)].toArray 124 (0,0)):=by rw[hX];exact Wi _ _ _ _ _ _ _ _
    have m2:=Zd hX1 2 _ rfl
    have HBX:=Zb (Zf (Za HB) hbX)
    have hw1:IntKind.i64.wrap (d+v)=d+v:=by rw[IntKind.wrap_i64];omega
    clear hin hy hst A HB T1 hv hX1 hbX
    go_wp2_with fail
    rw[←hX]
    clear hX
    refine ((Za HT1) _).mono ?_
    rintro e w3 ⟨rfl,hb3⟩
    have n2:=Ze hb3 m2
    have hl3:=World.block_lt_of_cell? _ _ n2
    have HB3:=Zb (Zf (Za HBX) hb3)
    clear hb3 m2
    go_wp2
    go_roundw
    case rel=>exact⟨k+1,d+v,by omega,rfl,by go_num,A2,HB3⟩
    case measure=>simp[intOf];omega
   ·have e:k=n:=by omega
    subst e
    have R:Hid (d=s):=by
     show _=_
     rw[Za A,List.take_of_length_le (by rw[Za HZ];exact Nat.le_refl _)]
     exact Za HS
    clear A
    go_wp2
    go_ret2
    exact⟨by rw[←Za R];rfl,Za HB⟩
 ·rw[if_neg e1] at hs
  subst hs
  have g:(x != 0)=true:=by simp[e1]
  clear h hx e1
  go_enter Tryz.func80,Tryz.ntmps80
  go_wp2_with fail
  refine (Za C1).mono ?_
  rintro e w2 ⟨rfl,hb2⟩
  have HB2:=Zb hb2
  clear hb2 C1
  go_wp2
  go_ret2
  exact⟨rfl,Za HB2⟩
theorem Nh(a:Option Addr)(n c:Nat)(L:List Zh)(x s:Int)(w:World)(h:CoinsAt w a n L)(hx:Zy L=x)(hs:(if x=0 then Zo L else 0)=s) :
  Calls Tryz.prog 25 #[.slice a n c] w fun e w'=>e = .returned (.tuple #[.int .i64 s,.int .i64 x])∧Below w.heap.size w w':=by
 have C:=Zb (Nj a n c L x s w h hx hs)
 clear h hx hs
 go_enter Tryz.func25,Tryz.ntmps25
 go_wp2_with fail
 refine (Za C).mono ?_
 rintro e w2 ⟨rfl,hb2⟩
 have HB2:=Zb hb2
 clear hb2
 go_wp2
 go_ret2
 exact⟨rfl,Za HB2⟩
theorem Lh(a:Option Addr)(n c:Nat)(L:List Zh)(s:Int)(w:World)(h:CoinsAt w a n L)(hR:Z6 L)(hs:Zo L=s) :
  Calls Tryz.prog 158 #[.slice a n c] w fun e w'=>e = .returned (.int .i64 s)∧Below w.heap.size w w':=by
 have C1:=Zb (Nh a n c L 0 s w h ((Zz L).2 hR) (by rw[if_pos rfl];exact hs))
 clear h hR hs
 go_enter Tryz.func158,Tryz.ntmps158
 go_wp2_with fail
 refine (Za C1).mono ?_
 rintro e w1 ⟨rfl,hb⟩
 have HB:=Zb hb
 clear hb C1
 go_wp2
 go_ret
 exact⟨rfl,Za HB⟩
end Go.Proofs.YtmomfkikogbdeaaGreatDoor
namespace Go.Proofs.YtmomfkikogbdeaaGreatDoor.Tr
open Go.RowKit
def IntsAt(w:World)(a:Option Addr)(len:Nat)(Z:List Int):Prop:=
 Z.length=len∧(0<len→∃ b off,a=some ⟨b,off,none⟩∧b<w.heap.size∧∀ i (h:i<Z.length),w.cell? ⟨b,off+i,none⟩=some (.int .i64 Z[i]))
theorem IntsAt.later{w w':World}{a:Option Addr}{len:Nat}{Z:List Int}(h:IntsAt w a len Z)(hb:Below w.heap.size w w'):IntsAt w' a len Z:=by
 refine⟨h.1,fun h0=>?_⟩
 obtain⟨b,off,e,hl,hc⟩:=h.2 h0
 exact⟨b,off,e,Nat.lt_of_lt_of_le hl hb.size,fun i hi=>Ze hb (hc i hi)⟩
theorem IntsAt.nil(w:World)(a:Option Addr):IntsAt w a 0 []:=⟨rfl,fun h=>absurd h (by omega)⟩
theorem IntsAt.take{w:World}{a:Option Addr}{len:Nat}{l:List Int}(h:IntsAt w a len l)(k:Nat)(hk:k≤len):IntsAt w a k (l.take k):=by
 have hl:=h.1
 refine⟨by rw[List.length_take];omega,fun h0=>?_⟩
 obtain⟨b,off,e,hb,hc⟩:=h.2 (by omega)
 refine⟨b,off,e,hb,fun i hi=>?_⟩
 rw[List.length_take] at hi
 rw[List.getElem_take]
 exact hc i (by omega)
theorem Uj{w:World}{base:Nat}{v:Value}{n:Nat}{N:List Int}(h:w.ownsRow base 3 1 v n (N.map (Value.int .i64))):∃ a cap,v = .slice a n cap∧SlOk a n cap∧IntsAt w a n N:=by
 have hl:N.length=n:=by simpa using h.1
 rcases h.2 with ⟨rfl,rfl⟩|⟨g,cap,cur,rfl,hg,hh,h1,h2,h3,h4⟩
 ·exact⟨none,0,rfl,⟨Nat.le_refl _,Nat.zero_le _,fun _=>⟨rfl,rfl⟩⟩,hl,fun h=>absurd h (by omega)⟩
 ·refine⟨_,cap,rfl,⟨h1,h2,fun e=>by cases e⟩,hl,fun _=>⟨g,0,rfl,lt_of_block hh,fun i hi=>?_⟩⟩
  rw[Nat.zero_add,World.ownsRow.cellAt h _ (by omega)]
  simp[hi]
def BlkAt(w:World)(b o:Nat)(x:Zk):Prop:=
 w.cell? ⟨b,o,none⟩=some (.int .i64 x.1)∧w.cell? ⟨b,o+1,none⟩=some (.int .i64 x.2.1)∧w.cell? ⟨b,o+2,none⟩=some (.int .i64 x.2.2.1)∧w.cell? ⟨b,o+3,none⟩=some (.int .i64 x.2.2.2.1) ∧
 ∃ a n c,w.cell? ⟨b,o+4,none⟩=some (.slice a n c)∧TxsAt w a n x.2.2.2.2∧SlOk a n c
theorem BlkAt.kept:L5 BlkAt:=fun _ _ _ _ _ hb h=>by
 obtain⟨h1,h2,h3,h4,a,n,c,h5,h6,h7⟩:=h
 exact⟨Ze hb h1,Ze hb h2,Ze hb h3,Ze hb h4,a,n,c,Ze hb h5,h6.later hb,h7⟩
def BlksAt(w:World)(a:Option Addr)(len:Nat)(l:List Zk):Prop:=RowsAt BlkAt 5 w a len l
theorem BlksAt.later{w w':World}{a:Option Addr}{len:Nat}{l:List Zk}(h:BlksAt w a len l)(hb:Below w.heap.size w w'):BlksAt w' a len l:=RowsAt.later BlkAt.kept h hb
theorem cells3{w:World}{b o:Nat}{x y z:Value}(h0:w.cell? ⟨b,o,none⟩=some x)(h1:w.cell? ⟨b,o+1,none⟩=some y)(h2:w.cell? ⟨b,o+2,none⟩=some z):Qv w b o [x,y,z]:=by
 intro j u hj
 match j,hj with
 | 0,hj=>cases hj;exact h0
 | 1,hj=>cases hj;exact h1
 | 2,hj=>cases hj;exact h2
 | j+3,hj=>simp at hj
theorem Ziv{w:World}{b o:Nat}{x y:Value}(h0:w.cell? ⟨b,o,none⟩=some x)(h1:w.cell? ⟨b,o+1,none⟩=some y):Qv w b o [x,y]:=by
 intro j u hj
 match j,hj with
 | 0,hj=>cases hj;exact h0
 | 1,hj=>cases hj;exact h1
 | j+2,hj=>simp at hj
theorem Ziu{w:World}{b o:Nat}{x y z r s:Value}(h0:w.cell? ⟨b,o,none⟩=some x)(h1:w.cell? ⟨b,o+1,none⟩=some y)(h2:w.cell? ⟨b,o+2,none⟩=some z)(h3:w.cell? ⟨b,o+3,none⟩=some r)(h4:w.cell? ⟨b,o+4,none⟩=some s):Qv w b o [x,y,z,r,s]:=by
 intro j u hj
 match j,hj with
 | 0,hj=>cases hj;exact h0
 | 1,hj=>cases hj;exact h1
 | 2,hj=>cases hj;exact h2
 | 3,hj=>cases hj;exact h3
 | 4,hj=>cases hj;exact h4
 | j+5,hj=>simp at hj
def inR:Rec InD where
 sz:=3
 C w cs x:=∃ a n c,cs=[.int .i64 x.1,.int .i64 x.2.1,.slice a n c]∧OpsAt w a n x.2.2∧SlOk a n c
 R:=InAt
 wide _ _ _:=by rintro ⟨a,n,c,rfl,_⟩;rfl
 one _ _ _:=by rintro ⟨a,n,c,rfl,_⟩ v hv;simp at hv;rcases hv with rfl|rfl|rfl <;> rfl
 kept _ _ _ _ hb:=by rintro ⟨a,n,c,rfl,h1,h2⟩;exact⟨a,n,c,rfl,h1.later hb,h2⟩
 rc _ _ _ _:=by rintro ⟨h1,h2,a,n,c,h3,h4,h5⟩;exact⟨_,cells3 h1 h2 h3,a,n,c,rfl,h4,h5⟩
 cr _ _ _ _ _ h:=by rintro ⟨a,n,c,rfl,h1,h2⟩;exact⟨h 0 _ rfl,h 1 _ rfl,a,n,c,h 2 _ rfl,h1,h2⟩
def outR:Rec Z0 where
 sz:=2
 C w cs x:=∃ a n c,cs=[.int .i64 x.1,.slice a n c]∧OpsAt w a n x.2∧SlOk a n c
 R:=OutAt
 wide _ _ _:=by rintro ⟨a,n,c,rfl,_⟩;rfl
 one _ _ _:=by rintro ⟨a,n,c,rfl,_⟩ v hv;simp at hv;rcases hv with rfl|rfl <;> rfl
 kept _ _ _ _ hb:=by rintro ⟨a,n,c,rfl,h1,h2⟩;exact⟨a,n,c,rfl,h1.later hb,h2⟩
 rc _ _ _ _:=by rintro ⟨h1,a,n,c,h3,h4,h5⟩;exact⟨_,Ziv h1 h3,a,n,c,rfl,h4,h5⟩
 cr _ _ _ _ _ h:=by rintro ⟨a,n,c,rfl,h1,h2⟩;exact⟨h 0 _ rfl,a,n,c,h 1 _ rfl,h1,h2⟩
def txR:Rec TxD where
 sz:=3
 C w cs x:=∃ a n c a' n' c',cs=[.int .i64 x.1,.slice a n c,.slice a' n' c']∧InsAt w a n x.2.1∧SlOk a n c∧OutsAt w a' n' x.2.2∧SlOk a' n' c'
 R:=TxAt
 wide _ _ _:=by rintro ⟨a,n,c,a',n',c',rfl,_⟩;rfl
 one _ _ _:=by rintro ⟨a,n,c,a',n',c',rfl,_⟩ v hv;simp at hv;rcases hv with rfl|rfl|rfl <;> rfl
 kept _ _ _ _ hb:=by rintro ⟨a,n,c,a',n',c',rfl,h1,h2,h3,h4⟩;exact⟨a,n,c,a',n',c',rfl,h1.later hb,h2,h3.later hb,h4⟩
 rc _ _ _ _:=by rintro ⟨h1,⟨a,n,c,h2,h3,h4⟩,a',n',c',h5,h6,h7⟩;exact⟨_,cells3 h1 h2 h5,a,n,c,a',n',c',rfl,h3,h4,h6,h7⟩
 cr _ _ _ _ _ h:=by rintro ⟨a,n,c,a',n',c',rfl,h1,h2,h3,h4⟩;exact⟨h 0 _ rfl,⟨a,n,c,h 1 _ rfl,h1,h2⟩,a',n',c',h 2 _ rfl,h3,h4⟩
def blkR:Rec Zk where
 sz:=5
 C w cs x:=∃ a n c,cs=[.int .i64 x.1,.int .i64 x.2.1,.int .i64 x.2.2.1,.int .i64 x.2.2.2.1,.slice a n c]∧TxsAt w a n x.2.2.2.2∧SlOk a n c
 R:=BlkAt
 wide _ _ _:=by rintro ⟨a,n,c,rfl,_⟩;rfl
 one _ _ _:=by rintro ⟨a,n,c,rfl,_⟩ v hv;simp at hv;rcases hv with rfl|rfl|rfl|rfl|rfl <;> rfl
 kept _ _ _ _ hb:=by rintro ⟨a,n,c,rfl,h1,h2⟩;exact⟨a,n,c,rfl,h1.later hb,h2⟩
 rc _ _ _ _:=by rintro ⟨h1,h2,h3,h4,a,n,c,h5,h6,h7⟩;exact⟨_,Ziu h1 h2 h3 h4 h5,a,n,c,rfl,h6,h7⟩
 cr _ _ _ _ _ h:=by rintro ⟨a,n,c,rfl,h1,h2⟩;exact⟨h 0 _ rfl,h 1 _ rfl,h 2 _ rfl,h 3 _ rfl,a,n,c,h 4 _ rfl,h1,h2⟩
def Qo(x:Int):List Int→Nat→Int
 | [],_=>-1
 | a :: r,k=>if x=a then k else Qo x r (k+1)
theorem Zgk(x:Int)(L:List Int)(k:Nat)(h:k<L.length):Qo x (L.drop k) k=if x=L[k] then (k:Int) else Qo x (L.drop (k+1)) (k+1):=by
 rw[List.drop_eq_getElem_cons h];rfl
theorem Zdq(x:Int)(L:List Int)(k:Nat)(h:L.length≤k):Qo x (L.drop k) k = -1:=by
 rw[List.drop_of_length_le h];rfl
def Yz:Zk:=(0,0,0,0,[])
def fnd(x:Int):List Int→List Zk→Zk
 | a :: N,b :: T=>if x=a then b else fnd x N T
 | _,_=>Yz
theorem Jd(x:Int):∀ (N:List Int) (T:List Zk) (k:Nat),N.length=T.length→(Qo x N k = -1∧x∉N∧fnd x N T=Yz)∨∃ i,∃ h:i<T.length,Qo x N k=(k+i:Nat)∧x∈N∧fnd x N T=T[i]
 | [],_,_,_=>.inl ⟨rfl,by simp,by simp[fnd]⟩
 | a :: N,[],_,h=>by cases h
 | a :: N,b :: T,k,h=>by
  by_cases e:x=a
  ·exact .inr ⟨0,by simp,by simp[Qo,e],by simp[e],by simp[fnd,e]⟩
  ·rcases Jd x N T (k+1) (by simpa using h) with ⟨h1,h2,h3⟩|⟨i,hi,h1,h2,h3⟩
   ·exact .inl ⟨by simp[Qo,e,h1],by simp[e,h2],by simp[fnd,e,h3]⟩
   ·exact .inr ⟨i+1,by simpa using hi,by simp[Qo,e,h1];omega,by simp[h2],by simp[fnd,e,h3]⟩
theorem Ds(x:Int):∀ (N:List Int) (k:Nat),decide (0≤Qo x N k)=decide (x∈N)
 | [],_=>by simp[Qo]
 | a :: N,k=>by
  by_cases e:x=a
  ·simp[Qo,e]
  ·simp[Qo,e,Ds x N (k+1)]
def nextD(N:List Int)(T:List Zk)(x:Int)(b:Zk):Int:=
 if (decide (1≤x) && decide (x≤120))=false then 3 else if Yt b≠0 then Yt b else if decide (x∈N)=true then 6
 else if b.1≠0∧decide (b.1∈N)=false then 5 else if b.2.1≠(fnd b.1 N T).2.1+1 then 4 else 0
def Xc(N:List Int)(T:List Zk):List Int→List Zk→Int
 | x :: M,b :: U=>if nextD N T x b≠0 then nextD N T x b else Xc (N++[x]) (T++[b]) M U
 | _,_=>0
def chkTr(N:List Int)(T:List Zk):Int:=if N.length≠T.length then 4 else if 24<N.length then 2 else Xc [] [] N T
theorem Zei(N:List Int)(T:List Zk)(k:Nat)(h:k<N.length)(h':k<T.length):Xc (N.take k) (T.take k) (N.drop k) (T.drop k) =
  if nextD (N.take k) (T.take k) N[k] T[k]≠0 then nextD (N.take k) (T.take k) N[k] T[k] else Xc (N.take (k+1)) (T.take (k+1)) (N.drop (k+1)) (T.drop (k+1)):=by
 rw[List.drop_eq_getElem_cons h,List.drop_eq_getElem_cons h',Xc,List.take_succ_eq_append_getElem h,List.take_succ_eq_append_getElem h']
theorem Zbh(N:List Int)(T:List Zk)(k:Nat)(h:N.length≤k):Xc (N.take k) (T.take k) (N.drop k) (T.drop k)=0:=by
 rw[List.drop_of_length_le h];unfold Xc;rfl
def Y7(T:List Zk):Prop:=∀ b∈T,1≤b.2.1∧b.2.1≤1000∧1≤b.2.2.1∧b.2.2.1≤1000
theorem chkB_head{b:Zk}(h:Yt b=0):1≤b.2.1∧b.2.1≤1000∧1≤b.2.2.1∧b.2.2.1≤1000:=by
 unfold Yt at h
 split at h
 ·cases h
 ·next q=>simp[Wu] at q;omega
theorem Cx(x:Int):∀ (N:List Int) (T:List Zk),fnd x N T=Yz∨fnd x N T∈T
 | [],_=>.inl (by simp[fnd])
 | _ :: _,[]=>.inl (by simp[fnd])
 | a :: N,b :: T=>by
  by_cases e:x=a
  ·exact .inr (by simp[fnd,e])
  ·rcases Cx x N T with h|h
   ·exact .inl (by simp[fnd,e,h])
   ·exact .inr (by simp[fnd,e,h])
theorem Jf{T:List Zk}(h:Y7 T)(x:Int)(N:List Int):0≤(fnd x N T).2.1∧(fnd x N T).2.1≤1000∧0≤(fnd x N T).2.2.1∧(fnd x N T).2.2.1≤1000:=by
 rcases Cx x N T with e|e
 ·rw[e];simp[Yz]
 ·have:=h _ e;omega
def upD(N:List Int)(T:List Zk):Nat→Int→List Int
 | 0,_=>[]
 | d+1,x=>upD N T d (fnd x N T).1++[x]
theorem L6(N:List Int)(T:List Zk):∀ (d:Nat) (x:Int),(upD N T d x).length=d
 | 0,_=>rfl
 | d+1,x=>by simp[upD,L6 N T d]
def Xp(N:List Int)(T:List Zk)(x:Int):List Int:=upD N T (fnd x N T).2.1.toNat x
def Xj(N:List Int)(T:List Zk)(s:Int):List Int→Int
 | []=>s
 | x :: P=>Xj N T (s+(fnd x N T).2.2.1) P
theorem Zfa(N:List Int)(T:List Zk)(s:Int)(P:List Int)(k:Nat)(h:k<P.length):Xj N T s (P.drop k)=Xj N T (s+(fnd P[k] N T).2.2.1) (P.drop (k+1)):=by
 rw[List.drop_eq_getElem_cons h];rfl
theorem Zbo(N:List Int)(T:List Zk)(s:Int)(P:List Int)(k:Nat)(h:P.length≤k):Xj N T s (P.drop k)=s:=by
 rw[List.drop_of_length_le h];rfl
def Ys(N:List Int)(T:List Zk)(x:Int):Int:=Xj N T 0 (Xp N T x)
def bstGo(N:List Int)(T:List Zk)(b m:Int):List Int→Int
 | []=>b
 | x :: P=>if m<Ys N T x∨Ys N T x=m∧x<b then bstGo N T x (Ys N T x) P else bstGo N T b m P
theorem Zel(N:List Int)(T:List Zk)(b m:Int)(P:List Int)(k:Nat)(h:k<P.length):bstGo N T b m (P.drop k)=if m<Ys N T P[k]∨Ys N T P[k]=m∧P[k]<b then bstGo N T P[k] (Ys N T P[k]) (P.drop (k+1)) else bstGo N T b m (P.drop (k+1)):=by
 rw[List.drop_eq_getElem_cons h];rfl
theorem Zbj(N:List Int)(T:List Zk)(b m:Int)(P:List Int)(k:Nat)(h:P.length≤k):bstGo N T b m (P.drop k)=b:=by
 rw[List.drop_of_length_le h];rfl
def bstD(N:List Int)(T:List Zk):Int×Int:=if chkTr N T≠0 then (0,chkTr N T) else (bstGo N T 0 0 N,0)
def U6(N:List Int)(T:List Zk)(x:Int):List Int×Int:=if chkTr N T≠0 then ([],chkTr N T) else if x≠0∧decide (x∈N)=false then ([],5) else (Xp N T x,0)
def workE(N:List Int)(T:List Zk)(x:Int):Int×Int:=if (U6 N T x).2≠0 then (0,(U6 N T x).2) else (Xj N T 0 (U6 N T x).1,0)
end Go.Proofs.YtmomfkikogbdeaaGreatDoor.Tr
