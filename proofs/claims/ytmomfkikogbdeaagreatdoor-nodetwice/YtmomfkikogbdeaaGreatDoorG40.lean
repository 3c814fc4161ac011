import Derived.Test.YtmomfkikogbdeaaGreatDoorG39
namespace Go.Proofs.YtmomfkikogbdeaaGreatDoor
open Go.RowKit
def mnR(D:Dsk)(wk nc:Int)(lk:List (Int×Int)):Int×Zk×Dsk:=
 if (mkE D.k (D.β D.tip) D.p D.tip (Ya D.n D.t D.tip+1) wk nc lk).1≠0 then ((mkE D.k (D.β D.tip) D.p D.tip (Ya D.n D.t D.tip+1) wk nc lk).1,Yz,D) else
 if (tkR D (mkE D.k (D.β D.tip) D.p D.tip (Ya D.n D.t D.tip+1) wk nc lk).2).1≠0 then ((tkR D (mkE D.k (D.β D.tip) D.p D.tip (Ya D.n D.t D.tip+1) wk nc lk).2).1,Yz,D) else
 (0,(mkE D.k (D.β D.tip) D.p D.tip (Ya D.n D.t D.tip+1) wk nc lk).2,(tkR D (mkE D.k (D.β D.tip) D.p D.tip (Ya D.n D.t D.tip+1) wk nc lk).2).2.2)
def KeptOn(Z:Nat→Prop)(w:World)(d bm:Nat)(D:Dsk):Prop:=
 ∃ ka kn kc na nn nc ba bn bc pa pn pc,w.heap[d]? = some (.cells [.slice ka kn kc,.slice na nn nc,.slice ba bn bc,.slice pa pn pc,.int .i64 D.tip,.map (some bm)].toArray 254 (0,0)) ∧
  (∀ W,Gr w W (fun q=>q=d∨q=bm∨Z q)→Ty W ka kn D.k na nn D.n ba bn D.t pa pn D.p)∧SlOk ka kn kc∧SlOk na nn nc∧SlOk ba bn bc∧SlOk pa pn pc
theorem DeskOn.kept{Z:Nat→Prop}{w:World}{d bm m:Nat}{D:Dsk}(h:DeskOn Z w d bm m D):KeptOn Z w d bm D:=by
 obtain⟨q1,q2,q3,q4,q5,q6,q7,q8,q9,q10,q11,q12,q13,hq⟩:=h
 exact⟨q1,q2,q3,q4,q5,q6,q7,q8,q9,q10,q11,q12,hq.box,hq.dat,hq.sk,hq.sn,hq.sb,hq.sp⟩
theorem KeptOn.off{Z:Nat→Prop}{r:Nat}{w w':World}{d bm:Nat}{D:Dsk}(h:KeptOn (fun q=>Z q∨q=r) w d bm D)(g:Gr w w' (fun q=>q=r))(hd:d≠r):KeptOn Z w' d bm D:=by
 obtain⟨q1,q2,q3,q4,q5,q6,q7,q8,q9,q10,q11,q12,box,dat,s⟩:=h
 refine⟨q1,q2,q3,q4,q5,q6,q7,q8,q9,q10,q11,q12,g.heap box hd,fun W g2=>dat W ((g.mono (fun q _ e=>.inr (.inr (.inr e)))).trans (g2.mono (fun q _ e=>?_))),s⟩
 rcases e with e|e|e
 ·exact .inl e
 ·exact .inr (.inl e)
 ·exact .inr (.inr (.inl e))
def Zhc(Z:Nat→Prop)(w w':World)(d bm:Nat)(D:Dsk)(x:Int)(b:Zk)(e:Ending):Prop:=
 ∃ a n c,e = .returned (.tuple #[Qy b a n c,.int .i64 x])∧Fresh w.heap.size w' (fun w2=>TxsAt w2 a n b.2.2.2.2)∧SlOk a n c∧Gr w w' (fun q=>q=d∨q=bm)∧(x=0→KeptOn Z w' d bm D)
def CutMn(X wx:World)(u:Nat)(b1 b2 b3 b4:Int)(L:List TxD):Prop:=
 ∃ a n c,wx.heap[u]? = some (.cells [.int .i64 b1,.int .i64 b2,.int .i64 b3,.int .i64 b4,.slice a n c].toArray 39 (0,0))∧(∀ W,Gr wx W (fun q=>q<X.heap.size)→TxsAt W a n L)∧SlOk a n c∧Below X.heap.size X wx∧X.heap.size≤u
section
variable {Z : Nat → Prop} {w : World} {d bm m : Nat} {ka na ba pa : Option Addr} {kn kc nn nc bn bc pn pc : Nat} {K : List ByteArray} {N : List Int} {T : List Zk} {P : List TxD} {tip : Int} {f : Int → Value} {β : Int → List Zh}
set_option maxRecDepth 10000 in
set_option maxHeartbeats 12800000 in
theorem Zec(h:DeskAt Z w d bm m ka kn kc K na nn nc N ba bn bc T pa pn pc P tip f β)(win:World)(hwin:Below win.heap.size win w)(hE:Env win)(hd:win.heap.size≤d)(hbm:win.heap.size≤bm)(hm:m<1000000)(ht:(Lit.int .i64 tip).wf=true)(h1:0≤Ya N T tip)(h2:Ya N T tip≤1000)(wk no:Int)(ta:Option Addr)(tn tc:Nat)(lk:List (Int×Int))(hT:OpsAt w ta tn lk)(sT:SlOk ta tn tc)(hn:tn≤8796093022208)(x:Int)(b:Zk)(D:Dsk)(hx:mnR ⟨K,N,T,P,tip,β⟩ wk no lk=(x,b,D)) :
  Calls Tryz.prog 113 #[.pointer (some ⟨d,0,none⟩),.int .i64 wk,.int .i64 no,.slice ta tn tc] w fun e w'=>Zhc Z w w' d bm D x b e:=by
 obtain⟨z,hz⟩:∃ z,Ya N T tip=z:=⟨_,rfl⟩
 obtain⟨⟨x1,b1,b2,b3,b4,L⟩,hk⟩:∃ r,mkE K (β tip) P tip (z+1) wk no lk=r:=⟨_,rfl⟩
 obtain⟨⟨x2,nm2,D2⟩,h2t⟩:∃ r,tkR ⟨K,N,T,P,tip,β⟩ (b1,b2,b3,b4,L)=r:=⟨_,rfl⟩
 unfold mnR at hx
 simp only[hz,hk,h2t] at hx
 rw[hz] at h1 h2
 have hw1:IntKind.i64.wrap (z+1)=z+1:=by rw[IntKind.wrap_i64];omega
 obtain⟨ca,cn,cc,hfp,_,sC⟩:=h.c tip
 obtain⟨X,hX⟩:∃ X,X=w.alloc (.cells #[.int .i64 0,.int .i64 0,.int .i64 0,.int .i64 0,.slice none 0 0] 39):=⟨_,rfl⟩
 have hbX:Below w.heap.size w X:=by rw[hX];exact Zi _ _
 have hXs:X.heap.size=w.heap.size+1:=by rw[hX];simp
 have hX0:X.heap[w.heap.size]? = some (.cells [.int .i64 0,.int .i64 0,.int .i64 0,.int .i64 0,.slice none 0 0].toArray 39 (0,0)):=by rw[hX];exact heap_alloc_new w _
 have hdl:d<w.heap.size:=lt_of_block h.box
 have hml:bm<w.heap.size:=h.mp.lt
 have CC:=Zb (fun V (hv:Below w.heap.size w V)=>Qb (h.later hv) ht)
 rw[hfp] at CC
 have CH:=Zb (fun V (hv:Below w.heap.size w V)=>Qr (h.later hv) z hz)
 have CM:=Zb (fun V (hv:Below w.heap.size w V)=>Zcs ka kn kc K ca cn cc (β tip) pa pn pc P tip z wk no ta tn tc lk (z+1) x1 (b1,b2,b3,b4,L) V (hE.later (Zf hwin hv)) (h.later hv).now.k (by obtain⟨a2,n2,c2,q1,q2,_⟩:=(h.later hv).c tip;rw[hfp] at q1;injection q1 with e1 e2 e3;subst e1 e2 e3;exact q2) sC (h.later hv).now.p (hT.later hv) sT hn hw1 hk)
 have c0:=Zd h.box 0 _ rfl
 have c3:=Zd h.box 3 _ rfl
 have c4:=Zd h.box 4 _ rfl
 have KS:Hid (∀ U:World,Below w.heap.size w U→(U.cell? ⟨d,0,none⟩=some (.slice ka kn kc)∧U.cell? ⟨d,3,none⟩=some (.slice pa pn pc)∧U.cell? ⟨d,4,none⟩=some (.int .i64 tip)∧d<U.heap.size)):=fun U hu=>⟨Ze hu c0,Ze hu c3,Ze hu c4,Nat.lt_of_lt_of_le hdl hu.size⟩
 have CT:=Zb (fun V (hv:Below X.heap.size X V) (a:Option Addr) (n c:Nat) (hL:∀ W,Gr V W (fun q=>q=d∨q=bm)→TxsAt W a n L) (sL:SlOk a n c)=>Fb ((h.widen hbX w.heap.size (Nat.le_refl _) (by omega)).later hv) win (Zf hwin (Zf hbX hv)) hE hd hbm hm b1 b2 b3 b4 a n c L hL sL x2 nm2 D2 h2t)
 have HBX:=Zb hbX
 have HXs:=Zb hXs
 have HX0:=Zb hX0
 have HX:=Zb hx
 have HDL:=Zb hdl
 have HML:=Zb hml
 clear h hwin hE hd hbm hm ht h1 h2 hT sT hn hx hz hk h2t hw1 hfp sC hbX hXs hX0 hdl hml c0 c3 c4
 go_enter Tryz.func113,Tryz.ntmps113
 go_upto_region 1 with fail
 rw[←hX]
 clear hX
 go_cut [10,11] from 12 to 36 (fun s10 s11 wx=>∃ u,s10 = .pointer (some ⟨u,0,none⟩)∧s11 = .int .i64 x1∧Hid (CutMn X wx u b1 b2 b3 b4 L))
 case first=>
  have hbx:=Zj X
  have hb:=Zf (Za HBX) hbx
  refine wp_region_held_drew (S:=fun U=>(U.cell? ⟨d,0,none⟩=some (.slice ka kn kc)∧U.cell? ⟨d,3,none⟩=some (.slice pa pn pc)∧U.cell? ⟨d,4,none⟩=some (.int .i64 tip)∧d<U.heap.size)) (by kernel_rfl) ((Za KS) _ hb) (fun Zjc=>?_)
  refine tk 0 ⟨some 13,.move (.tmp 0),181, "desk.go:96",#[],none⟩ ?_ rfl ?_ Zjc ?_
  rotate_left
  ·(intro U hSw;obtain⟨s1,s2,s3,s4⟩:=hSw;go_simp;first|done|with_reducible rfl)
  (try simp only[Act.put,ZA,ZB,ZC])
  refine tk 1 ⟨some 14,.nilCheck (.tmp 13),0, "desk.go:96",#[⟨0,.data⟩],none⟩ ?_ rfl ?_ Zjc ?_
  rotate_left
  ·(intro U hSw;obtain⟨s1,s2,s3,s4⟩:=hSw;go_simp;first|done|with_reducible rfl)
  (try simp only[Act.put,ZA,ZB,ZC])
  refine tk 2 ⟨some 15,.fieldAddr 254 (.tmp 14) 0,0, "desk.go:96",#[⟨1,.data⟩],none⟩ ?_ rfl ?_ Zjc ?_
  rotate_left
  ·(intro U hSw;obtain⟨s1,s2,s3,s4⟩:=hSw;go_simp;first|done|with_reducible rfl)
  (try simp only[Act.put,ZA,ZB,ZC])
  refine tk 3 ⟨some 16,.load 24 (.tmp 15),24, "desk.go:96",#[⟨2,.data⟩],none⟩ ?_ rfl ?_ Zjc ?_
  rotate_left
  ·(intro U hSw;obtain⟨s1,s2,s3,s4⟩:=hSw;go_simp;first|done|with_reducible rfl)
  (try simp only[Act.put,ZA,ZB,ZC])
  refine tk 4 ⟨some 17,.move (.tmp 0),181, "desk.go:96",#[],none⟩ ?_ rfl ?_ Zjc ?_
  rotate_left
  ·(intro U hSw;obtain⟨s1,s2,s3,s4⟩:=hSw;go_simp;first|done|with_reducible rfl)
  (try simp only[Act.put,ZA,ZB,ZC])
  refine tk 6 ⟨some 19,.move (.tmp 0),181, "desk.go:96",#[],none⟩ ?_ rfl ?_ Zjc ?_
  rotate_left
  ·(intro U hSw;obtain⟨s1,s2,s3,s4⟩:=hSw;go_simp;first|done|with_reducible rfl)
  (try simp only[Act.put,ZA,ZB,ZC])
  refine tk 7 ⟨some 20,.nilCheck (.tmp 19),0, "desk.go:96",#[⟨6,.data⟩],none⟩ ?_ rfl ?_ Zjc ?_
  rotate_left
  ·(intro U hSw;obtain⟨s1,s2,s3,s4⟩:=hSw;go_simp;first|done|with_reducible rfl)
  (try simp only[Act.put,ZA,ZB,ZC])
  refine tk 8 ⟨some 21,.fieldAddr 254 (.tmp 20) 1,0, "desk.go:96",#[⟨7,.data⟩],none⟩ ?_ rfl ?_ Zjc ?_
  rotate_left
  ·(intro U hSw;obtain⟨s1,s2,s3,s4⟩:=hSw;go_simp;first|done|with_reducible rfl)
  (try simp only[Act.put,ZA,ZB,ZC])
  refine tk 9 ⟨some 22,.fieldAddr 67 (.tmp 21) 1,0, "desk.go:96",#[⟨8,.data⟩],none⟩ ?_ rfl ?_ Zjc ?_
  rotate_left
  ·(intro U hSw;obtain⟨s1,s2,s3,s4⟩:=hSw;go_simp;first|done|with_reducible rfl)
  (try simp only[Act.put,ZA,ZB,ZC])
  refine tk 10 ⟨some 23,.load 37 (.tmp 22),37, "desk.go:96",#[⟨9,.data⟩],none⟩ ?_ rfl ?_ Zjc ?_
  rotate_left
  ·(intro U hSw;obtain⟨s1,s2,s3,s4⟩:=hSw;go_simp;first|done|with_reducible rfl)
  (try simp only[Act.put,ZA,ZB,ZC])
  refine tk 11 ⟨some 24,.move (.tmp 0),181, "desk.go:96",#[],none⟩ ?_ rfl ?_ Zjc ?_
  rotate_left
  ·(intro U hSw;obtain⟨s1,s2,s3,s4⟩:=hSw;go_simp;first|done|with_reducible rfl)
  (try simp only[Act.put,ZA,ZB,ZC])
  refine tk 12 ⟨some 25,.nilCheck (.tmp 24),0, "desk.go:96",#[⟨11,.data⟩],none⟩ ?_ rfl ?_ Zjc ?_
  rotate_left
  ·(intro U hSw;obtain⟨s1,s2,s3,s4⟩:=hSw;go_simp;first|done|with_reducible rfl)
  (try simp only[Act.put,ZA,ZB,ZC])
  refine tk 13 ⟨some 26,.fieldAddr 254 (.tmp 25) 1,0, "desk.go:96",#[⟨12,.data⟩],none⟩ ?_ rfl ?_ Zjc ?_
  rotate_left
  ·(intro U hSw;obtain⟨s1,s2,s3,s4⟩:=hSw;go_simp;first|done|with_reducible rfl)
  (try simp only[Act.put,ZA,ZB,ZC])
  refine tk 14 ⟨some 27,.fieldAddr 67 (.tmp 26) 2,0, "desk.go:96",#[⟨13,.data⟩],none⟩ ?_ rfl ?_ Zjc ?_
  rotate_left
  ·(intro U hSw;obtain⟨s1,s2,s3,s4⟩:=hSw;go_simp;first|done|with_reducible rfl)
  (try simp only[Act.put,ZA,ZB,ZC])
  refine tk 15 ⟨some 28,.load 3 (.tmp 27),3, "desk.go:96",#[⟨14,.data⟩],none⟩ ?_ rfl ?_ Zjc ?_
  rotate_left
  ·(intro U hSw;obtain⟨s1,s2,s3,s4⟩:=hSw;go_simp;first|done|with_reducible rfl)
  (try simp only[Act.put,ZA,ZB,ZC])
  refine tk 16 ⟨some 29,.move (.tmp 0),181, "desk.go:96",#[],none⟩ ?_ rfl ?_ Zjc ?_
  rotate_left
  ·(intro U hSw;obtain⟨s1,s2,s3,s4⟩:=hSw;go_simp;first|done|with_reducible rfl)
  (try simp only[Act.put,ZA,ZB,ZC])
  refine tk 18 ⟨some 31,.move (.tmp 1),3, "desk.go:96",#[],none⟩ ?_ rfl ?_ Zjc ?_
  rotate_left
  ·(intro U hSw;obtain⟨s1,s2,s3,s4⟩:=hSw;go_simp;first|done|with_reducible rfl)
  (try simp only[Act.put,ZA,ZB,ZC])
  refine tk 19 ⟨some 32,.move (.tmp 2),3, "desk.go:96",#[],none⟩ ?_ rfl ?_ Zjc ?_
  rotate_left
  ·(intro U hSw;obtain⟨s1,s2,s3,s4⟩:=hSw;go_simp;first|done|with_reducible rfl)
  (try simp only[Act.put,ZA,ZB,ZC])
  refine tk 20 ⟨some 33,.move (.tmp 3),48, "desk.go:96",#[],none⟩ ?_ rfl ?_ Zjc ?_
  rotate_left
  ·(intro U hSw;obtain⟨s1,s2,s3,s4⟩:=hSw;go_simp;first|done|with_reducible rfl)
  (try simp only[Act.put,ZA,ZB,ZC])
  refine wpAnyH_ready (rs:=[5,25]) (by kernel_rfl) (by simp) ?_
  refine AllReadyH.cons (o:=⟨some 18,.call { callee:=Callee.value (.func 108),args:=#[.tmp 17],argTypes:=#[181] },29, "desk.go:96",#[⟨4,.data⟩],none⟩) rfl (fun KQ hK=>?_) (AllReadyH.cons (o:=⟨some 10,.alloc 39,0, "desk.go:96",#[],none⟩) rfl (fun KQ hK=>?_) AllReadyH.nil)
  ·refine Zl (by kernel_rfl) 108 #[.pointer (some ⟨d,0,none⟩)] (by kernel_rfl) ((Za CC) X.drew hb) ?_
   rintro e v1 ⟨rfl,hbn⟩
   refine⟨_,rfl,?_⟩
   have hVl:=hbx.size
   have hbx:=Zf hbx hbn
   have hb:=Zf (Za HBX) hbx
   refine hK.out _ _ ((Za KS) _ hb) (fun Zjd=>?_)
   clear hK KQ Zjc
   have Zjc:=Zjd
   clear Zjd
   (try simp only[Act.put,ZA,ZB,ZC])
   refine wpAnyH_ready (rs:=[17,25]) (by kernel_rfl) (by simp) ?_
   refine AllReadyH.cons (o:=⟨some 30,.call { callee:=Callee.value (.func 165),args:=#[.tmp 29],argTypes:=#[181] },3, "desk.go:96",#[⟨16,.data⟩,⟨5,.chain⟩],none⟩) rfl (fun KQ hK=>?_) (AllReadyH.cons (o:=⟨some 10,.alloc 39,0, "desk.go:96",#[],none⟩) rfl (fun KQ hK=>?_) AllReadyH.nil)
   ·refine Zl (by kernel_rfl) 165 #[.pointer (some ⟨d,0,none⟩)] (by kernel_rfl) ((Za CH) v1 hb) ?_
    rintro e v2 ⟨rfl,hbn⟩
    refine⟨_,rfl,?_⟩
    have hVl:=hbx.size
    have hbx:=Zf hbx hbn
    have hb:=Zf (Za HBX) hbx
    refine hK.out _ _ ((Za KS) _ hb) (fun Zjd=>?_)
    clear hK KQ Zjc
    have Zjc:=Zjd
    clear Zjd
    (try simp only[Act.put,ZA,ZB,ZC])
    refine wpAnyH_ready (rs:=[21,25]) (by kernel_rfl) (by simp) ?_
    refine AllReadyH.cons (o:=⟨some 34,.call { callee:=Callee.value (.func 26),args:=#[.tmp 16,.tmp 18,.tmp 23,.tmp 28,.tmp 30,.tmp 31,.tmp 32,.tmp 33],argTypes:=#[24,29,37,3,3,3,3,48] },40, "desk.go:96",#[⟨3,.data⟩,⟨5,.data⟩,⟨10,.data⟩,⟨15,.data⟩,⟨17,.data⟩,⟨18,.data⟩,⟨19,.data⟩,⟨20,.data⟩,⟨17,.chain⟩],none⟩) rfl (fun KQ hK=>?_) (AllReadyH.cons (o:=⟨some 10,.alloc 39,0, "desk.go:96",#[],none⟩) rfl (fun KQ hK=>?_) AllReadyH.nil)
    ·refine Zl (by kernel_rfl) 26 #[.agg #[.slice ka kn kc],.slice ca cn cc,.slice pa pn pc,.int .i64 tip,.int .i64 z,.int .i64 wk,.int .i64 no,.slice ta tn tc] (by kernel_rfl) ((Za CM) v2 hb) ?_
     rintro e v3 ⟨a5,n5,c5,rfl,hF5,s5,hbn⟩
     refine⟨_,rfl,?_⟩
     dsimp only[Qy]
     have hVl:=hbx.size
     have hbx:=Zf hbx hbn
     have hb:=Zf (Za HBX) hbx
     refine hK.out _ _ ((Za KS) _ hb) (fun Zjd=>?_)
     clear hK KQ Zjc
     have Zjc:=Zjd
     clear Zjd
     (try simp only[Act.put,ZA,ZB,ZC])
     refine tk 22 ⟨some 12,.move (.tmp 34),40, "desk.go:96",#[⟨21,.data⟩],none⟩ ?_ rfl ?_ Zjc ?_
     rotate_left
     ·(intro U hSw;(try dsimp only at hSw);go_simp;first|done|with_reducible rfl)
     (try simp only[Act.put,ZA,ZB,ZC])
     refine tk 23 ⟨some 35,.extract (.tmp 12) 0,39, "desk.go:96",#[⟨22,.data⟩],none⟩ ?_ rfl ?_ Zjc ?_
     rotate_left
     ·(intro U hSw;(try dsimp only at hSw);go_simp;first|done|with_reducible rfl)
     (try simp only[Act.put,ZA,ZB,ZC])
     refine tk 24 ⟨some 36,.extract (.tmp 12) 1,30, "desk.go:96",#[⟨22,.data⟩,⟨26,.gcOnly .lateStores⟩],none⟩ ?_ rfl ?_ Zjc ?_
     rotate_left
     ·(intro U hSw;(try dsimp only at hSw);go_simp;first|done|with_reducible rfl)
     (try simp only[Act.put,ZA,ZB,ZC])
     refine wpAnyH_ready (rs:=[25]) (by kernel_rfl) (by simp) ?_
     refine AllReadyH.cons (o:=⟨some 10,.alloc 39,0, "desk.go:96",#[],none⟩) rfl (fun KQ hK=>?_) AllReadyH.nil
     go_simp
     obtain⟨al4,hw6⟩:∃ w6,w6=v3.alloc (.cells #[.int .i64 0,.int .i64 0,.int .i64 0,.int .i64 0,.slice none 0 0] 39):=⟨_,rfl⟩
     rw[←hw6]
     have hu:al4.heap[v3.heap.size]? = some (.cells [.int .i64 0,.int .i64 0,.int .i64 0,.int .i64 0,.slice none 0 0].toArray 39 (0,0)):=by rw[hw6];exact Zv _ _ _ _ _ _ _
     have hul:X.heap.size≤v3.heap.size:=hbx.size
     have hba:Below v3.heap.size v3 al4:=by rw[hw6];exact Zi _ _
     have hbx:Below X.heap.size X al4:=Zf hbx hba
     have hb:=Zf (Za HBX) hbx
     clear hw6
     refine hK.out _ _ ((Za KS) _ hb) (fun Zjd=>?_)
     clear hK KQ Zjc
     have Zjc:=Zjd
     clear Zjd
     (try simp only[Act.put,ZA,ZB,ZC])
     have hue:=hu
     have u50:=Zd hu 0 _ rfl
     have u5f0:=Zg hu 0
     have u51:=Zd hu 1 _ rfl
     have u5f1:=Zg hu 1
     have u52:=Zd hu 2 _ rfl
     have u5f2:=Zg hu 2
     have u53:=Zd hu 3 _ rfl
     have u5f3:=Zg hu 3
     have u54:=Zd hu 4 _ rfl
     have u5f4:=Zg hu 4
     have u5l:=lt_of_block hu
     refine wpAnyH_ready (rs:=[26]) (by kernel_rfl) (by simp) ?_
     refine AllReadyH.cons (o:=⟨none,.store 39 (.tmp 10) (.tmp 35),0, "desk.go:96",#[⟨25,.data⟩,⟨23,.data⟩,⟨21,.chain⟩,⟨0,.phase⟩,⟨1,.phase⟩,⟨2,.phase⟩,⟨3,.phase⟩,⟨4,.phase⟩,⟨5,.phase⟩,⟨6,.phase⟩,⟨7,.phase⟩,⟨8,.phase⟩,⟨9,.phase⟩,⟨10,.phase⟩,⟨11,.phase⟩,⟨12,.phase⟩,⟨13,.phase⟩,⟨14,.phase⟩,⟨15,.phase⟩,⟨16,.phase⟩,⟨17,.phase⟩,⟨18,.phase⟩,⟨19,.phase⟩,⟨20,.phase⟩,⟨21,.phase⟩,⟨22,.phase⟩,⟨23,.phase⟩,⟨24,.textOnly .lateStores⟩,⟨25,.phase⟩],none⟩) rfl (fun KQ hK=>?_) AllReadyH.nil
     go_simp
     refine hK.out _ _ ((Za KS) _ (Gr.below (S:=fun q=>q=v3.heap.size) ((Gr.refl _ (fun q=>q=v3.heap.size)).five v3.heap.size (.inl rfl) _ _ _ _ _) hb hb.size (fun q e=>by have e:q=v3.heap.size:=e;have:=(Za HBX).size;omega))) (fun Zjd=>?_)
     clear hK KQ Zjc
     have Zjc:=Zjd
     clear Zjd
     (try simp only[Act.put])
     refine tk 27 ⟨some 11,.assign (.tmp 36),30, "desk.go:96",#[⟨24,.data⟩,⟨26,.chain⟩,⟨0,.phase⟩,⟨1,.phase⟩,⟨2,.phase⟩,⟨3,.phase⟩,⟨4,.phase⟩,⟨5,.phase⟩,⟨6,.phase⟩,⟨7,.phase⟩,⟨8,.phase⟩,⟨9,.phase⟩,⟨10,.phase⟩,⟨11,.phase⟩,⟨12,.phase⟩,⟨13,.phase⟩,⟨14,.phase⟩,⟨15,.phase⟩,⟨16,.phase⟩,⟨17,.phase⟩,⟨18,.phase⟩,⟨19,.phase⟩,⟨20,.phase⟩,⟨21,.phase⟩,⟨22,.phase⟩,⟨23,.phase⟩,⟨24,.phase⟩,⟨25,.phase⟩,⟨26,.phase⟩],none⟩ ?_ rfl ?_ Zjc ?_
     rotate_left
     ·(intro U hSw;(try dsimp only at hSw);go_simp;first|done|with_reducible rfl)
     (try simp only[Act.put,ZA,ZB,ZC])
     refine wpAnyH_done (by kernel_rfl) ?_ _
     clear Zjc
     go_wp2_with fail
     go_meet
     case rel=>
      have gg:Gr al4 (((((al4.setCell ⟨v3.heap.size,0,none⟩ (.int .i64 b1)).setCell ⟨v3.heap.size,1,none⟩ (.int .i64 b2)).setCell ⟨v3.heap.size,2,none⟩ (.int .i64 b3)).setCell ⟨v3.heap.size,3,none⟩ (.int .i64 b4)).setCell ⟨v3.heap.size,4,none⟩ (.slice a5 n5 c5)) (fun q=>q=v3.heap.size):=(Gr.refl al4 (fun q=>q=v3.heap.size)).five v3.heap.size (.inl rfl) _ _ _ _ _
      refine⟨v3.heap.size,rfl,rfl,a5,n5,c5,Tr.set_cells (Tr.set_cells (Tr.set_cells (Tr.set_cells (Tr.set_cells hue 0 _) 1 _) 2 _) 3 _) 4 _,fun W g=>hF5 W ?_,s5,gg.below hbx hbx.size (fun q e=>by have e:q=v3.heap.size:=e;omega),hul⟩
      exact ((Gr.of hba).far gg (fun q e=>.inl (by have e:q=v3.heap.size:=e;omega))).trans2 g (fun q _ e=>by have e:q<X.heap.size:=e;omega)
    ·go_simp
     obtain⟨al5,hw6⟩:∃ w6,w6=v2.alloc (.cells #[.int .i64 0,.int .i64 0,.int .i64 0,.int .i64 0,.slice none 0 0] 39):=⟨_,rfl⟩
     rw[←hw6]
     have hu:al5.heap[v2.heap.size]? = some (.cells [.int .i64 0,.int .i64 0,.int .i64 0,.int .i64 0,.slice none 0 0].toArray 39 (0,0)):=by rw[hw6];exact Zv _ _ _ _ _ _ _
     have hul:X.heap.size≤v2.heap.size:=hbx.size
     have hba:Below v2.heap.size v2 al5:=by rw[hw6];exact Zi _ _
     have hbx:Below X.heap.size X al5:=Zf hbx hba
     have hb:=Zf (Za HBX) hbx
     clear hw6
     refine hK.out _ _ ((Za KS) _ hb) (fun Zjd=>?_)
     clear hK KQ Zjc
     have Zjc:=Zjd
     clear Zjd
     (try simp only[Act.put,ZA,ZB,ZC])
     refine wpAnyH_ready (rs:=[21]) (by kernel_rfl) (by simp) ?_
     refine AllReadyH.cons (o:=⟨some 34,.call { callee:=Callee.value (.func 26),args:=#[.tmp 16,.tmp 18,.tmp 23,.tmp 28,.tmp 30,.tmp 31,.tmp 32,.tmp 33],argTypes:=#[24,29,37,3,3,3,3,48] },40, "desk.go:96",#[⟨3,.data⟩,⟨5,.data⟩,⟨10,.data⟩,⟨15,.data⟩,⟨17,.data⟩,⟨18,.data⟩,⟨19,.data⟩,⟨20,.data⟩,⟨17,.chain⟩],none⟩) rfl (fun KQ hK=>?_) AllReadyH.nil
     refine Zl (by kernel_rfl) 26 #[.agg #[.slice ka kn kc],.slice ca cn cc,.slice pa pn pc,.int .i64 tip,.int .i64 z,.int .i64 wk,.int .i64 no,.slice ta tn tc] (by kernel_rfl) ((Za CM) al5 hb) ?_
     rintro e v6 ⟨a5,n5,c5,rfl,hF5,s5,hbn⟩
     refine⟨_,rfl,?_⟩
     dsimp only[Qy]
     have hul2:v2.heap.size<al5.heap.size:=lt_of_block hu
     have hu:=(hbn.block _ (lt_of_block hu)).trans hu
     have hVl:=hbx.size
     have hbx:=Zf hbx hbn
     have hb:=Zf (Za HBX) hbx
     refine hK.out _ _ ((Za KS) _ hb) (fun Zjd=>?_)
     clear hK KQ Zjc
     have Zjc:=Zjd
     clear Zjd
     (try simp only[Act.put,ZA,ZB,ZC])
     refine tk 22 ⟨some 12,.move (.tmp 34),40, "desk.go:96",#[⟨21,.data⟩],none⟩ ?_ rfl ?_ Zjc ?_
     rotate_left
     ·(intro U hSw;(try dsimp only at hSw);go_simp;first|done|with_reducible rfl)
     (try simp only[Act.put,ZA,ZB,ZC])
     refine tk 23 ⟨some 35,.extract (.tmp 12) 0,39, "desk.go:96",#[⟨22,.data⟩],none⟩ ?_ rfl ?_ Zjc ?_
     rotate_left
     ·(intro U hSw;(try dsimp only at hSw);go_simp;first|done|with_reducible rfl)
     (try simp only[Act.put,ZA,ZB,ZC])
     refine tk 24 ⟨some 36,.extract (.tmp 12) 1,30, "desk.go:96",#[⟨22,.data⟩,⟨26,.gcOnly .lateStores⟩],none⟩ ?_ rfl ?_ Zjc ?_
     rotate_left
     ·(intro U hSw;(try dsimp only at hSw);go_simp;first|done|with_reducible rfl)
     (try simp only[Act.put,ZA,ZB,ZC])
     have hue:=hu
     have u50:=Zd hu 0 _ rfl
     have u5f0:=Zg hu 0
     have u51:=Zd hu 1 _ rfl
     have u5f1:=Zg hu 1
     have u52:=Zd hu 2 _ rfl
     have u5f2:=Zg hu 2
     have u53:=Zd hu 3 _ rfl
     have u5f3:=Zg hu 3
     have u54:=Zd hu 4 _ rfl
     have u5f4:=Zg hu 4
     have u5l:=lt_of_block hu
     refine wpAnyH_ready (rs:=[26]) (by kernel_rfl) (by simp) ?_
     refine AllReadyH.cons (o:=⟨none,.store 39 (.tmp 10) (.tmp 35),0, "desk.go:96",#[⟨25,.data⟩,⟨23,.data⟩,⟨21,.chain⟩,⟨0,.phase⟩,⟨1,.phase⟩,⟨2,.phase⟩,⟨3,.phase⟩,⟨4,.phase⟩,⟨5,.phase⟩,⟨6,.phase⟩,⟨7,.phase⟩,⟨8,.phase⟩,⟨9,.phase⟩,⟨10,.phase⟩,⟨11,.phase⟩,⟨12,.phase⟩,⟨13,.phase⟩,⟨14,.phase⟩,⟨15,.phase⟩,⟨16,.phase⟩,⟨17,.phase⟩,⟨18,.phase⟩,⟨19,.phase⟩,⟨20,.phase⟩,⟨21,.phase⟩,⟨22,.phase⟩,⟨23,.phase⟩,⟨24,.textOnly .lateStores⟩,⟨25,.phase⟩],none⟩) rfl (fun KQ hK=>?_) AllReadyH.nil
     go_simp
     refine hK.out _ _ ((Za KS) _ (Gr.below (S:=fun q=>q=v2.heap.size) ((Gr.refl _ (fun q=>q=v2.heap.size)).five v2.heap.size (.inl rfl) _ _ _ _ _) hb hb.size (fun q e=>by have e:q=v2.heap.size:=e;have:=(Za HBX).size;omega))) (fun Zjd=>?_)
     clear hK KQ Zjc
     have Zjc:=Zjd
     clear Zjd
     (try simp only[Act.put])
     refine tk 27 ⟨some 11,.assign (.tmp 36),30, "desk.go:96",#[⟨24,.data⟩,⟨26,.chain⟩,⟨0,.phase⟩,⟨1,.phase⟩,⟨2,.phase⟩,⟨3,.phase⟩,⟨4,.phase⟩,⟨5,.phase⟩,⟨6,.phase⟩,⟨7,.phase⟩,⟨8,.phase⟩,⟨9,.phase⟩,⟨10,.phase⟩,⟨11,.phase⟩,⟨12,.phase⟩,⟨13,.phase⟩,⟨14,.phase⟩,⟨15,.phase⟩,⟨16,.phase⟩,⟨17,.phase⟩,⟨18,.phase⟩,⟨19,.phase⟩,⟨20,.phase⟩,⟨21,.phase⟩,⟨22,.phase⟩,⟨23,.phase⟩,⟨24,.phase⟩,⟨25,.phase⟩,⟨26,.phase⟩],none⟩ ?_ rfl ?_ Zjc ?_
     rotate_left
     ·(intro U hSw;(try dsimp only at hSw);go_simp;first|done|with_reducible rfl)
     (try simp only[Act.put,ZA,ZB,ZC])
     refine wpAnyH_done (by kernel_rfl) ?_ _
     clear Zjc
     go_wp2_with fail
     go_meet
     case rel=>
      have gg:Gr v6 (((((v6.setCell ⟨v2.heap.size,0,none⟩ (.int .i64 b1)).setCell ⟨v2.heap.size,1,none⟩ (.int .i64 b2)).setCell ⟨v2.heap.size,2,none⟩ (.int .i64 b3)).setCell ⟨v2.heap.size,3,none⟩ (.int .i64 b4)).setCell ⟨v2.heap.size,4,none⟩ (.slice a5 n5 c5)) (fun q=>q=v2.heap.size):=(Gr.refl v6 (fun q=>q=v2.heap.size)).five v2.heap.size (.inl rfl) _ _ _ _ _
      refine⟨v2.heap.size,rfl,rfl,a5,n5,c5,Tr.set_cells (Tr.set_cells (Tr.set_cells (Tr.set_cells (Tr.set_cells hue 0 _) 1 _) 2 _) 3 _) 4 _,fun W g=>hF5 W ?_,s5,gg.below hbx hbx.size (fun q e=>by have e:q=v2.heap.size:=e;omega),hul⟩
      exact (gg.mono (fun q _ e=>by have e:q=v2.heap.size:=e;omega)).trans2 g (fun q _ e=>by have e:q<X.heap.size:=e;omega)
   ·go_simp
    obtain⟨al7,hw6⟩:∃ w6,w6=v1.alloc (.cells #[.int .i64 0,.int .i64 0,.int .i64 0,.int .i64 0,.slice none 0 0] 39):=⟨_,rfl⟩
    rw[←hw6]
    have hu:al7.heap[v1.heap.size]? = some (.cells [.int .i64 0,.int .i64 0,.int .i64 0,.int .i64 0,.slice none 0 0].toArray 39 (0,0)):=by rw[hw6];exact Zv _ _ _ _ _ _ _
    have hul:X.heap.size≤v1.heap.size:=hbx.size
    have hba:Below v1.heap.size v1 al7:=by rw[hw6];exact Zi _ _
    have hbx:Below X.heap.size X al7:=Zf hbx hba
    have hb:=Zf (Za HBX) hbx
    clear hw6
    refine hK.out _ _ ((Za KS) _ hb) (fun Zjd=>?_)
    clear hK KQ Zjc
    have Zjc:=Zjd
    clear Zjd
    (try simp only[Act.put,ZA,ZB,ZC])
    refine wpAnyH_ready (rs:=[17]) (by kernel_rfl) (by simp) ?_
    refine AllReadyH.cons (o:=⟨some 30,.call { callee:=Callee.value (.func 165),args:=#[.tmp 29],argTypes:=#[181] },3, "desk.go:96",#[⟨16,.data⟩,⟨5,.chain⟩],none⟩) rfl (fun KQ hK=>?_) AllReadyH.nil
    refine Zl (by kernel_rfl) 165 #[.pointer (some ⟨d,0,none⟩)] (by kernel_rfl) ((Za CH) al7 hb) ?_
    rintro e v8 ⟨rfl,hbn⟩
    refine⟨_,rfl,?_⟩
    have hul2:v1.heap.size<al7.heap.size:=lt_of_block hu
    have hu:=(hbn.block _ (lt_of_block hu)).trans hu
    have hVl:=hbx.size
    have hbx:=Zf hbx hbn
    have hb:=Zf (Za HBX) hbx
    refine hK.out _ _ ((Za KS) _ hb) (fun Zjd=>?_)
    clear hK KQ Zjc
    have Zjc:=Zjd
    clear Zjd
    (try simp only[Act.put,ZA,ZB,ZC])
    refine wpAnyH_ready (rs:=[21]) (by kernel_rfl) (by simp) ?_
    refine AllReadyH.cons (o:=⟨some 34,.call { callee:=Callee.value (.func 26),args:=#[.tmp 16,.tmp 18,.tmp 23,.tmp 28,.tmp 30,.tmp 31,.tmp 32,.tmp 33],argTypes:=#[24,29,37,3,3,3,3,48] },40, "desk.go:96",#[⟨3,.data⟩,⟨5,.data⟩,⟨10,.data⟩,⟨15,.data⟩,⟨17,.data⟩,⟨18,.data⟩,⟨19,.data⟩,⟨20,.data⟩,⟨17,.chain⟩],none⟩) rfl (fun KQ hK=>?_) AllReadyH.nil
    refine Zl (by kernel_rfl) 26 #[.agg #[.slice ka kn kc],.slice ca cn cc,.slice pa pn pc,.int .i64 tip,.int .i64 z,.int .i64 wk,.int .i64 no,.slice ta tn tc] (by kernel_rfl) ((Za CM) v8 hb) ?_
    rintro e v9 ⟨a5,n5,c5,rfl,hF5,s5,hbn⟩
    refine⟨_,rfl,?_⟩
    dsimp only[Qy]
    have hul2:v1.heap.size<v8.heap.size:=lt_of_block hu
    have hu:=(hbn.block _ (lt_of_block hu)).trans hu
    have hVl:=hbx.size
    have hbx:=Zf hbx hbn
    have hb:=Zf (Za HBX) hbx
    refine hK.out _ _ ((Za KS) _ hb) (fun Zjd=>?_)
    clear hK KQ Zjc
    have Zjc:=Zjd
    clear Zjd
    (try simp only[Act.put,ZA,ZB,ZC])
    refine tk 22 ⟨some 12,.move (.tmp 34),40, "desk.go:96",#[⟨21,.data⟩],none⟩ ?_ rfl ?_ Zjc ?_
    rotate_left
    ·(intro U hSw;(try dsimp only at hSw);go_simp;first|done|with_reducible rfl)
    (try simp only[Act.put,ZA,ZB,ZC])
    refine tk 23 ⟨some 35,.extract (.tmp 12) 0,39, "desk.go:96",#[⟨22,.data⟩],none⟩ ?_ rfl ?_ Zjc ?_
    rotate_left
    ·(intro U hSw;(try dsimp only at hSw);go_simp;first|done|with_reducible rfl)
    (try simp only[Act.put,ZA,ZB,ZC])
    refine tk 24 ⟨some 36,.extract (.tmp 12) 1,30, "desk.go:96",#[⟨22,.data⟩,⟨26,.gcOnly .lateStores⟩],none⟩ ?_ rfl ?_ Zjc ?_
    rotate_left
    ·(intro U hSw;(try dsimp only at hSw);go_simp;first|done|with_reducible rfl)
    (try simp only[Act.put,ZA,ZB,ZC])
    have hue:=hu
    have u50:=Zd hu 0 _ rfl
    have u5f0:=Zg hu 0
    have u51:=Zd hu 1 _ rfl
    have u5f1:=Zg hu 1
    have u52:=Zd hu 2 _ rfl
    have u5f2:=Zg hu 2
    have u53:=Zd hu 3 _ rfl
    have u5f3:=Zg hu 3
    have u54:=Zd hu 4 _ rfl
    have u5f4:=Zg hu 4
    have u5l:=lt_of_block hu
    refine wpAnyH_ready (rs:=[26]) (by kernel_rfl) (by simp) ?_
    refine AllReadyH.cons (o:=⟨none,.store 39 (.tmp 10) (.tmp 35),0, "desk.go:96",#[⟨25,.data⟩,⟨23,.data⟩,⟨21,.chain⟩,⟨0,.phase⟩,⟨1,.phase⟩,⟨2,.phase⟩,⟨3,.phase⟩,⟨4,.phase⟩,⟨5,.phase⟩,⟨6,.phase⟩,⟨7,.phase⟩,⟨8,.phase⟩,⟨9,.phase⟩,⟨10,.phase⟩,⟨11,.phase⟩,⟨12,.phase⟩,⟨13,.phase⟩,⟨14,.phase⟩,⟨15,.phase⟩,⟨16,.phase⟩,⟨17,.phase⟩,⟨18,.phase⟩,⟨19,.phase⟩,⟨20,.phase⟩,⟨21,.phase⟩,⟨22,.phase⟩,⟨23,.phase⟩,⟨24,.textOnly .lateStores⟩,⟨25,.phase⟩],none⟩) rfl (fun KQ hK=>?_) AllReadyH.nil
    go_simp
    refine hK.out _ _ ((Za KS) _ (Gr.below (S:=fun q=>q=v1.heap.size) ((Gr.refl _ (fun q=>q=v1.heap.size)).five v1.heap.size (.inl rfl) _ _ _ _ _) hb hb.size (fun q e=>by have e:q=v1.heap.size:=e;have:=(Za HBX).size;omega))) (fun Zjd=>?_)
    clear hK KQ Zjc
    have Zjc:=Zjd
    clear Zjd
    (try simp only[Act.put])
    refine tk 27 ⟨some 11,.assign (.tmp 36),30, "desk.go:96",#[⟨24,.data⟩,⟨26,.chain⟩,⟨0,.phase⟩,⟨1,.phase⟩,⟨2,.phase⟩,⟨3,.phase⟩,⟨4,.phase⟩,⟨5,.phase⟩,⟨6,.phase⟩,⟨7,.phase⟩,⟨8,.phase⟩,⟨9,.phase⟩,⟨10,.phase⟩,⟨11,.phase⟩,⟨12,.phase⟩,⟨13,.phase⟩,⟨14,.phase⟩,⟨15,.phase⟩,⟨16,.phase⟩,⟨17,.phase⟩,⟨18,.phase⟩,⟨19,.phase⟩,⟨20,.phase⟩,⟨21,.phase⟩,⟨22,.phase⟩,⟨23,.phase⟩,⟨24,.phase⟩,⟨25,.phase⟩,⟨26,.phase⟩],none⟩ ?_ rfl ?_ Zjc ?_
    rotate_left
    ·(intro U hSw;(try dsimp only at hSw);go_simp;first|done|with_reducible rfl)
    (try simp only[Act.put,ZA,ZB,ZC])
    refine wpAnyH_done (by kernel_rfl) ?_ _
    clear Zjc
    go_wp2_with fail
    go_meet
    case rel=>
     have gg:Gr v9 (((((v9.setCell ⟨v1.heap.size,0,none⟩ (.int .i64 b1)).setCell ⟨v1.heap.size,1,none⟩ (.int .i64 b2)).setCell ⟨v1.heap.size,2,none⟩ (.int .i64 b3)).setCell ⟨v1.heap.size,3,none⟩ (.int .i64 b4)).setCell ⟨v1.heap.size,4,none⟩ (.slice a5 n5 c5)) (fun q=>q=v1.heap.size):=(Gr.refl v9 (fun q=>q=v1.heap.size)).five v1.heap.size (.inl rfl) _ _ _ _ _
     refine⟨v1.heap.size,rfl,rfl,a5,n5,c5,Tr.set_cells (Tr.set_cells (Tr.set_cells (Tr.set_cells (Tr.set_cells hue 0 _) 1 _) 2 _) 3 _) 4 _,fun W g=>hF5 W ?_,s5,gg.below hbx hbx.size (fun q e=>by have e:q=v1.heap.size:=e;omega),hul⟩
     exact (gg.mono (fun q _ e=>by have e:q=v1.heap.size:=e;omega)).trans2 g (fun q _ e=>by have e:q<X.heap.size:=e;omega)
  ·go_simp
   obtain⟨al10,hw6⟩:∃ w6,w6=(X.alloc (.cells #[.int .i64 0,.int .i64 0,.int .i64 0,.int .i64 0,.slice none 0 0] 39)).drew:=⟨_,rfl⟩
   rw[←hw6]
   have hu:al10.heap[X.heap.size]? = some (.cells [.int .i64 0,.int .i64 0,.int .i64 0,.int .i64 0,.slice none 0 0].toArray 39 (0,0)):=by rw[hw6];exact Zv _ _ _ _ _ _ _
   have hul:X.heap.size≤X.heap.size:=Nat.le_refl _
   have hbx:Below X.heap.size X al10:=by rw[hw6];exact Zf (Zi _ _) (Zj _)
   have hb:=Zf (Za HBX) hbx
   clear hw6
   refine hK.out _ _ ((Za KS) _ hb) (fun Zjd=>?_)
   clear hK KQ Zjc
   have Zjc:=Zjd
   clear Zjd
   (try simp only[Act.put,ZA,ZB,ZC])
   refine wpAnyH_ready (rs:=[5]) (by kernel_rfl) (by simp) ?_
   refine AllReadyH.cons (o:=⟨some 18,.call { callee:=Callee.value (.func 108),args:=#[.tmp 17],argTypes:=#[181] },29, "desk.go:96",#[⟨4,.data⟩],none⟩) rfl (fun KQ hK=>?_) AllReadyH.nil
   refine Zl (by kernel_rfl) 108 #[.pointer (some ⟨d,0,none⟩)] (by kernel_rfl) ((Za CC) al10 hb) ?_
   rintro e v11 ⟨rfl,hbn⟩
   refine⟨_,rfl,?_⟩
   have hul2:X.heap.size<al10.heap.size:=lt_of_block hu
   have hu:=(hbn.block _ (lt_of_block hu)).trans hu
   have hVl:=hbx.size
   have hbx:=Zf hbx hbn
   have hb:=Zf (Za HBX) hbx
   refine hK.out _ _ ((Za KS) _ hb) (fun Zjd=>?_)
   clear hK KQ Zjc
   have Zjc:=Zjd
   clear Zjd
   (try simp only[Act.put,ZA,ZB,ZC])
   refine wpAnyH_ready (rs:=[17]) (by kernel_rfl) (by simp) ?_
   refine AllReadyH.cons (o:=⟨some 30,.call { callee:=Callee.value (.func 165),args:=#[.tmp 29],argTypes:=#[181] },3, "desk.go:96",#[⟨16,.data⟩,⟨5,.chain⟩],none⟩) rfl (fun KQ hK=>?_) AllReadyH.nil
   refine Zl (by kernel_rfl) 165 #[.pointer (some ⟨d,0,none⟩)] (by kernel_rfl) ((Za CH) v11 hb) ?_
   rintro e v12 ⟨rfl,hbn⟩
   refine⟨_,rfl,?_⟩
   have hul2:X.heap.size<v11.heap.size:=lt_of_block hu
   have hu:=(hbn.block _ (lt_of_block hu)).trans hu
   have hVl:=hbx.size
   have hbx:=Zf hbx hbn
   have hb:=Zf (Za HBX) hbx
   refine hK.out _ _ ((Za KS) _ hb) (fun Zjd=>?_)
   clear hK KQ Zjc
   have Zjc:=Zjd
   clear Zjd
   (try simp only[Act.put,ZA,ZB,ZC])
   refine wpAnyH_ready (rs:=[21]) (by kernel_rfl) (by simp) ?_
   refine AllReadyH.cons (o:=⟨some 34,.call { callee:=Callee.value (.func 26),args:=#[.tmp 16,.tmp 18,.tmp 23,.tmp 28,.tmp 30,.tmp 31,.tmp 32,.tmp 33],argTypes:=#[24,29,37,3,3,3,3,48] },40, "desk.go:96",#[⟨3,.data⟩,⟨5,.data⟩,⟨10,.data⟩,⟨15,.data⟩,⟨17,.data⟩,⟨18,.data⟩,⟨19,.data⟩,⟨20,.data⟩,⟨17,.chain⟩],none⟩) rfl (fun KQ hK=>?_) AllReadyH.nil
   refine Zl (by kernel_rfl) 26 #[.agg #[.slice ka kn kc],.slice ca cn cc,.slice pa pn pc,.int .i64 tip,.int .i64 z,.int .i64 wk,.int .i64 no,.slice ta tn tc] (by kernel_rfl) ((Za CM) v12 hb) ?_
   rintro e v13 ⟨a5,n5,c5,rfl,hF5,s5,hbn⟩
   refine⟨_,rfl,?_⟩
   dsimp only[Qy]
   have hul2:X.heap.size<v12.heap.size:=lt_of_block hu
   have hu:=(hbn.block _ (lt_of_block hu)).trans hu
   have hVl:=hbx.size
   have hbx:=Zf hbx hbn
   have hb:=Zf (Za HBX) hbx
   refine hK.out _ _ ((Za KS) _ hb) (fun Zjd=>?_)
   clear hK KQ Zjc
   have Zjc:=Zjd
   clear Zjd
   (try simp only[Act.put,ZA,ZB,ZC])
   refine tk 22 ⟨some 12,.move (.tmp 34),40, "desk.go:96",#[⟨21,.data⟩],none⟩ ?_ rfl ?_ Zjc ?_
   rotate_left
   ·(intro U hSw;(try dsimp only at hSw);go_simp;first|done|with_reducible rfl)
   (try simp only[Act.put,ZA,ZB,ZC])
   refine tk 23 ⟨some 35,.extract (.tmp 12) 0,39, "desk.go:96",#[⟨22,.data⟩],none⟩ ?_ rfl ?_ Zjc ?_
   rotate_left
   ·(intro U hSw;(try dsimp only at hSw);go_simp;first|done|with_reducible rfl)
   (try simp only[Act.put,ZA,ZB,ZC])
   refine tk 24 ⟨some 36,.extract (.tmp 12) 1,30, "desk.go:96",#[⟨22,.data⟩,⟨26,.gcOnly .lateStores⟩],none⟩ ?_ rfl ?_ Zjc ?_
   rotate_left
   ·(intro U hSw;(try dsimp only at hSw);go_simp;first|done|with_reducible rfl)
   (try simp only[Act.put,ZA,ZB,ZC])
   have hue:=hu
   have u50:=Zd hu 0 _ rfl
   have u5f0:=Zg hu 0
   have u51:=Zd hu 1 _ rfl
   have u5f1:=Zg hu 1
   have u52:=Zd hu 2 _ rfl
   have u5f2:=Zg hu 2
   have u53:=Zd hu 3 _ rfl
   have u5f3:=Zg hu 3
   have u54:=Zd hu 4 _ rfl
   have u5f4:=Zg hu 4
   have u5l:=lt_of_block hu
   refine wpAnyH_ready (rs:=[26]) (by kernel_rfl) (by simp) ?_
   refine AllReadyH.cons (o:=⟨none,.store 39 (.tmp 10) (.tmp 35),0, "desk.go:96",#[⟨25,.data⟩,⟨23,.data⟩,⟨21,.chain⟩,⟨0,.phase⟩,⟨1,.phase⟩,⟨2,.phase⟩,⟨3,.phase⟩,⟨4,.phase⟩,⟨5,.phase⟩,⟨6,.phase⟩,⟨7,.phase⟩,⟨8,.phase⟩,⟨9,.phase⟩,⟨10,.phase⟩,⟨11,.phase⟩,⟨12,.phase⟩,⟨13,.phase⟩,⟨14,.phase⟩,⟨15,.phase⟩,⟨16,.phase⟩,⟨17,.phase⟩,⟨18,.phase⟩,⟨19,.phase⟩,⟨20,.phase⟩,⟨21,.phase⟩,⟨22,.phase⟩,⟨23,.phase⟩,⟨24,.textOnly .lateStores⟩,⟨25,.phase⟩],none⟩) rfl (fun KQ hK=>?_) AllReadyH.nil
   go_simp
   refine hK.out _ _ ((Za KS) _ (Gr.below (S:=fun q=>q=X.heap.size) ((Gr.refl _ (fun q=>q=X.heap.size)).five X.heap.size (.inl rfl) _ _ _ _ _) hb hb.size (fun q e=>by have e:q=X.heap.size:=e;have:=(Za HBX).size;omega))) (fun Zjd=>?_)
   clear hK KQ Zjc
   have Zjc:=Zjd
   clear Zjd
   (try simp only[Act.put])
   refine tk 27 ⟨some 11,.assign (.tmp 36),30, "desk.go:96",#[⟨24,.data⟩,⟨26,.chain⟩,⟨0,.phase⟩,⟨1,.phase⟩,⟨2,.phase⟩,⟨3,.phase⟩,⟨4,.phase⟩,⟨5,.phase⟩,⟨6,.phase⟩,⟨7,.phase⟩,⟨8,.phase⟩,⟨9,.phase⟩,⟨10,.phase⟩,⟨11,.phase⟩,⟨12,.phase⟩,⟨13,.phase⟩,⟨14,.phase⟩,⟨15,.phase⟩,⟨16,.phase⟩,⟨17,.phase⟩,⟨18,.phase⟩,⟨19,.phase⟩,⟨20,.phase⟩,⟨21,.phase⟩,⟨22,.phase⟩,⟨23,.phase⟩,⟨24,.phase⟩,⟨25,.phase⟩,⟨26,.phase⟩],none⟩ ?_ rfl ?_ Zjc ?_
   rotate_left
   ·(intro U hSw;(try dsimp only at hSw);go_simp;first|done|with_reducible rfl)
   (try simp only[Act.put,ZA,ZB,ZC])
   refine wpAnyH_done (by kernel_rfl) ?_ _
   clear Zjc
   go_wp2_with fail
   go_meet
   case rel=>
    have gg:Gr v13 (((((v13.setCell ⟨X.heap.size,0,none⟩ (.int .i64 b1)).setCell ⟨X.heap.size,1,none⟩ (.int .i64 b2)).setCell ⟨X.heap.size,2,none⟩ (.int .i64 b3)).setCell ⟨X.heap.size,3,none⟩ (.int .i64 b4)).setCell ⟨X.heap.size,4,none⟩ (.slice a5 n5 c5)) (fun q=>q=X.heap.size):=(Gr.refl v13 (fun q=>q=X.heap.size)).five X.heap.size (.inl rfl) _ _ _ _ _
    refine⟨X.heap.size,rfl,rfl,a5,n5,c5,Tr.set_cells (Tr.set_cells (Tr.set_cells (Tr.set_cells (Tr.set_cells hue 0 _) 1 _) 2 _) 3 _) 4 _,fun W g=>hF5 W ?_,s5,gg.below hbx hbx.size (fun q e=>by have e:q=X.heap.size:=e;omega),hul⟩
    exact (gg.mono (fun q _ e=>by have e:q=X.heap.size:=e;omega)).trans2 g (fun q _ e=>by have e:q<X.heap.size:=e;omega)
 case rest=>
  obtain⟨u,rfl,rfl,HC⟩:=hcut
  clear CC CH CM KS
  obtain⟨a5,n5,c5,hu,hF5,s5,hbx,hul⟩:=Za HC
  have HB:=Zb (Zf (Za HBX) hbx)
  have HU:=Zb hu
  have HF5:=Zb hF5
  have HS5:=Zb s5
  have HBXX:=Zb hbx
  clear HC hF5 s5 hbx
  have hr:=((Za HBXX).block _ (lt_of_block (Za HX0))).trans (Za HX0)
  have HR:=Zb hr
  have r0:=Zd hr 0 _ rfl
  have rf0:=Zg hr 0
  have r1:=Zd hr 1 _ rfl
  have rf1:=Zg hr 1
  have r2:=Zd hr 2 _ rfl
  have rf2:=Zg hr 2
  have r3:=Zd hr 3 _ rfl
  have rf3:=Zg hr 3
  have r4:=Zd hr 4 _ rfl
  have rf4:=Zg hr 4
  have rl:=lt_of_block hr
  clear hr
  by_cases z1:x1=0
  ·subst z1
   have hx2:=Za HX
   rw[if_neg (fun q=>q rfl)] at hx2
   have HX2:=Zb hx2
   clear hx2 HX
   have D1:=Zb ((Za CT) wc (Za HBXX) a5 n5 c5 (fun W g=>(Za HF5) W (g.mono (fun q _ e=>by have:=Za HDL;have:=Za HML;have:=Za HXs;rcases e with e|e <;> omega))) (Za HS5))
   clear CT
   have e0:=Zd hu 0 _ rfl
   have e1:=Zd hu 1 _ rfl
   have e2:=Zd hu 2 _ rfl
   have e3:=Zd hu 3 _ rfl
   have e4:=Zd hu 4 _ rfl
   have el:=lt_of_block hu
   clear hu
   go_wp2_with fail
   refine (Za D1).mono ?_
   rintro e w2 ⟨rfl,g2,hD2⟩
   have hn1:¬(w.heap.size=d∨w.heap.size=bm):=by have:=Za HDL;have:=Za HML;omega
   have hn2:¬(u=d∨u=bm):=by have:=Za HDL;have:=Za HML;have:=Za HXs;omega
   have hu2:=g2.heap (Za HU) hn2
   have hr2:=g2.heap (Za HR) hn1
   have G2:=Zb g2
   have HD2:=Zb hD2
   clear e0 r0 rf0 e1 r1 rf1 e2 r2 rf2 e3 r3 rf3 e4 r4 rf4 el rl hD2 D1
   have r0:=Zd hr2 0 _ rfl
   have rf0:=Zg hr2 0
   have e0:=Zd hu2 0 _ rfl
   have r1:=Zd hr2 1 _ rfl
   have rf1:=Zg hr2 1
   have e1:=Zd hu2 1 _ rfl
   have r2:=Zd hr2 2 _ rfl
   have rf2:=Zg hr2 2
   have e2:=Zd hu2 2 _ rfl
   have r3:=Zd hr2 3 _ rfl
   have rf3:=Zg hr2 3
   have e3:=Zd hu2 3 _ rfl
   have r4:=Zd hr2 4 _ rfl
   have rf4:=Zg hr2 4
   have e4:=Zd hu2 4 _ rfl
   have rl:=lt_of_block hr2
   have el:=lt_of_block hu2
   clear hu2 hr2 hn1 hn2 g2
   have GW:Hid (Gr w w2 (fun q=>q=d∨q=bm)):=(Gr.of (Za HB)).trans (Za G2)
   by_cases z2:x2=0
   ·subst z2
    have hx3:=Za HX2
    rw[if_neg (fun q=>q rfl)] at hx3
    simp only[Prod.mk.injEq] at hx3
    obtain⟨rfl,rfl,rfl⟩:=hx3
    clear HX2
    have FIN:Hid (∀ W,Gr w2 W (fun q=>q=w.heap.size)→Zhc Z w W d bm D2 0 (b1,b2,b3,b4,L) (.returned (.tuple #[.agg #[.int .i64 b1,.int .i64 b2,.int .i64 b3,.int .i64 b4,.slice a5 n5 c5],.int .i64 0]))):=fun W g=>by
     have hxs:=Za HXs
     have hdl:=Za HDL
     have hml:=Za HML
     refine⟨a5,n5,c5,rfl,fun W2 g2=>(Za HF5) W2 ?_,Za HS5,(Za GW).far g (fun q e=>.inl (by have e:q=w.heap.size:=e;omega)),fun _=>?_⟩
     ·exact (((Za G2).mono (fun q _ e=>(by rcases e with e|e <;> omega:q<X.heap.size))).trans (g.mono (fun q _ e=>by have e:q=w.heap.size:=e;omega))).trans (g2.mono (fun q _ e=>by omega))
     ·exact ((Za HD2) rfl).kept.off g (by omega)
    go_wp2
    (try simp only[Exit.inBlock,Exit.then])
    refine bodyPost_ret (v:=.tuple #[.agg #[.int .i64 b1,.int .i64 b2,.int .i64 b3,.int .i64 b4,.slice a5 n5 c5],.int .i64 0]) ?_ rfl ?_
    ·rw[results_cell_tmp rfl]
     go_simp
    ·exact (Za FIN) _ ((Gr.refl w2 (fun q=>q=w.heap.size)).five w.heap.size (.inl rfl) _ _ _ _ _)
   ·have hxb:=Za HX2
    rw[if_pos z2] at hxb
    simp only[Prod.mk.injEq] at hxb
    obtain⟨rfl,rfl,rfl⟩:=hxb
    clear HX2
    have gx:(x2 == 0)=false:=by simp[z2]
    have gy:(x2 != 0)=true:=by simp[z2]
    have FIN:Hid (∀ W,Gr w2 W (fun q=>q=w.heap.size)→Zhc Z w W d bm ⟨K,N,T,P,tip,β⟩ x2 Yz (.returned (.tuple #[.agg #[.int .i64 0,.int .i64 0,.int .i64 0,.int .i64 0,.slice none 0 0],.int .i64 x2]))):=fun W g=>⟨none,0,0,rfl,fun _ _=>RowsAt.nil _ _,Zw,((Za GW)).far g (fun q e=>.inl (by have e:q=w.heap.size:=e;omega)),fun e=>absurd e z2⟩
    go_wp2
    (try simp only[Exit.inBlock,Exit.then])
    refine bodyPost_ret (v:=.tuple #[.agg #[.int .i64 0,.int .i64 0,.int .i64 0,.int .i64 0,.slice none 0 0],.int .i64 x2]) ?_ rfl ?_
    ·rw[results_cell_tmp rfl]
     go_simp
    ·exact (Za FIN) _ ((Gr.refl w2 (fun q=>q=w.heap.size)).five w.heap.size (.inl rfl) _ _ _ _ _)
  ·have hxb:=Za HX
   rw[if_pos z1] at hxb
   simp only[Prod.mk.injEq] at hxb
   obtain⟨rfl,rfl,rfl⟩:=hxb
   clear HX
   have gx:(x1 == 0)=false:=by simp[z1]
   have gy:(x1 != 0)=true:=by simp[z1]
   have FIN:Hid (∀ W,Gr wc W (fun q=>q=w.heap.size)→Zhc Z w W d bm ⟨K,N,T,P,tip,β⟩ x1 Yz (.returned (.tuple #[.agg #[.int .i64 0,.int .i64 0,.int .i64 0,.int .i64 0,.slice none 0 0],.int .i64 x1]))):=fun W g=>⟨none,0,0,rfl,fun _ _=>RowsAt.nil _ _,Zw,((Gr.of (Za HB):Gr w wc (fun q=>q=d∨q=bm))).far g (fun q e=>.inl (by have e:q=w.heap.size:=e;omega)),fun e=>absurd e z1⟩
   go_wp2
   (try simp only[Exit.inBlock,Exit.then])
   refine bodyPost_ret (v:=.tuple #[.agg #[.int .i64 0,.int .i64 0,.int .i64 0,.int .i64 0,.slice none 0 0],.int .i64 x1]) ?_ rfl ?_
   ·rw[results_cell_tmp rfl]
    go_simp
   ·exact (Za FIN) _ ((Gr.refl wc (fun q=>q=w.heap.size)).five w.heap.size (.inl rfl) _ _ _ _ _)
end
end Go.Proofs.YtmomfkikogbdeaaGreatDoor
