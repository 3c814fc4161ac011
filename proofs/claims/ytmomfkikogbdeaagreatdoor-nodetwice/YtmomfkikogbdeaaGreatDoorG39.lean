import Derived.Test.YtmomfkikogbdeaaGreatDoorG37
import Derived.Test.YtmomfkikogbdeaaGreatDoorG38
namespace Go.Proofs.YtmomfkikogbdeaaGreatDoor
open Go.RowKit
structure Dsk where
 k:List ByteArray
 n:List Int
 t:List Zk
 p:List TxD
 tip:Int
 β : Int→List Zh
def tkR(D:Dsk)(b:Zk):Int×Int×Dsk:=
 if (Xf D.k b).2.2.2≠0 then ((Xf D.k b).2.2.2,0,D) else
 if (Tr.addE D.n D.t (Xf D.k b).2.1 b).2.2≠0 then ((Tr.addE D.n D.t (Xf D.k b).2.1 b).2.2,0,D) else
 if (Wf (Xf D.k b).1 (D.β b.1) b).1≠0 then ((Wf (Xf D.k b).1 (D.β b.1) b).1,0,D) else
 if (Tr.bstD (Tr.addE D.n D.t (Xf D.k b).2.1 b).1 (Tr.addE D.n D.t (Xf D.k b).2.1 b).2.1).2≠0 then ((Tr.bstD (Tr.addE D.n D.t (Xf D.k b).2.1 b).1 (Tr.addE D.n D.t (Xf D.k b).2.1 b).2.1).2,0,D) else
 let N1:=(Tr.addE D.n D.t (Xf D.k b).2.1 b).1
 let T1:=(Tr.addE D.n D.t (Xf D.k b).2.1 b).2.1
 let t:=(Tr.bstD N1 T1).1
 let γ:=Xq D.β (Xf D.k b).2.1 (Wf (Xf D.k b).1 (D.β b.1) b).2.1
 let v:=Pj (Xf D.k b).1 (γ t) D.p (Ya N1 T1 t+1)
 if v.2.2≠0 then (v.2.2,0,D) else (0,(Xf D.k b).2.1,⟨v.1,N1,T1,v.2.1,t,γ⟩)
def DeskOn(Z:Nat→Prop)(w:World)(d bm m:Nat)(D:Dsk):Prop:=Zev Z w d bm m D.k D.n D.t D.p D.tip D.β
def TakR(Z:Nat→Prop)(w w':World)(d bm m:Nat)(D:Dsk)(x nm:Int)(e:Ending):Prop:=
 e = .returned (.tuple #[.int .i64 nm,.int .i64 x])∧Gr w w' (fun q=>q=d∨q=bm)∧(x=0→DeskOn Z w' d bm (m+1) D)
section
variable {Z : Nat → Prop} {w w' : World} {d bm m : Nat} {ka na ba pa : Option Addr} {kn kc nn nc bn bc pn pc : Nat} {K : List ByteArray} {N : List Int} {T : List Zk} {P : List TxD} {tip : Int} {f : Int → Value} {β : Int → List Zh}
theorem DeskAt.named(h:DeskAt Z w d bm m ka kn kc K na nn nc N ba bn bc T pa pn pc P tip f β){v w1:World}(hv:Below w.heap.size w v)(h1:Below v.heap.size v w1){ka':Option Addr}{kn' kc':Nat}{K':List ByteArray}(hK:Fresh v.heap.size w1 (fun w2=>Bk.TextsAt w2 ka' kn' K'))(sk:SlOk ka' kn' kc') :
  DeskAt Z (w1.setCell ⟨d,0,none⟩ (.slice ka' kn' kc')) d bm m ka' kn' kc' K' na nn nc N ba bn bc T pa pn pc P tip f β:=by
 have h2:=h.later (Zf hv h1)
 have g:Gr w1 (w1.setCell ⟨d,0,none⟩ (.slice ka' kn' kc')) (fun q=>q=d):=(Gr.refl w1 (fun q=>q=d)).one d 0 (.inl rfl) _
 have l1:=lt_of_block h.box
 have l2:=h.mp.lt
 have l3:=hv.size
 refine h2.set g (Tr.set_cells h2.box 0 _) (fun W gW D0=>⟨?_,D0.n,D0.b,D0.p⟩) sk h.sn h.sb h.sp
 exact hK W ((g.mono (fun q _ e=>by have e:q=d:=e;omega)).trans (gW.mono (fun q _ e=>by
  rcases e with e|e|e
  ·omega
  ·omega
  ·exact Nat.lt_of_lt_of_le (h.zb q e) l3)))
theorem DeskAt.grown(h:DeskAt Z w d bm m ka kn kc K na nn nc N ba bn bc T pa pn pc P tip f β){v w1:World}(hv:Below w.heap.size w v)(h1:Below v.heap.size v w1){na' ba':Option Addr}{n' nc' bc':Nat}{N':List Int}{T':List Zk}(hF:Fresh v.heap.size w1 (fun w2=>Tr.IntsAt w2 na' n' N'∧Tr.BlksAt w2 ba' n' T'))(s1:SlOk na' n' nc')(s2:SlOk ba' n' bc') :
  DeskAt Z ((w1.setCell ⟨d,1,none⟩ (.slice na' n' nc')).setCell ⟨d,2,none⟩ (.slice ba' n' bc')) d bm m ka kn kc K na' n' nc' N' ba' n' bc' T' pa pn pc P tip f β:=by
 have h2:=h.later (Zf hv h1)
 have g:Gr w1 ((w1.setCell ⟨d,1,none⟩ (.slice na' n' nc')).setCell ⟨d,2,none⟩ (.slice ba' n' bc')) (fun q=>q=d):=((Gr.refl w1 (fun q=>q=d)).one d 1 (.inl rfl) _).one d 2 (.inl rfl) _
 have l1:=lt_of_block h.box
 have l2:=h.mp.lt
 have l3:=hv.size
 refine h2.set g (Tr.set_cells (Tr.set_cells h2.box 1 _) 2 _) (fun W gW D0=>?_) h.sk s1 s2 h.sp
 have F:=hF W ((g.mono (fun q _ e=>by have e:q=d:=e;omega)).trans (gW.mono (fun q _ e=>e.elim (fun e=>by omega) (fun e=>e.elim (fun e=>by omega) (fun e=>Nat.lt_of_lt_of_le (h.zb q e) l3)))))
 exact⟨D0.k,F.1,F.2,D0.p⟩
theorem DeskAt.tipped(h:DeskAt Z w d bm m ka kn kc K na nn nc N ba bn bc T pa pn pc P tip f β)(t:Int) :
  DeskAt Z (w.setCell ⟨d,4,none⟩ (.int .i64 t)) d bm m ka kn kc K na nn nc N ba bn bc T pa pn pc P t f β:=by
 have g:Gr w (w.setCell ⟨d,4,none⟩ (.int .i64 t)) (fun q=>q=d):=(Gr.refl w (fun q=>q=d)).one d 4 (.inl rfl) _
 exact h.set g (Tr.set_cells h.box 4 _) (fun W gW D0=>⟨D0.k,D0.n,D0.b,D0.p⟩) h.sk h.sn h.sb h.sp
end
theorem Jx{N:List Int}{T:List Zk}{t:Int}(h:Tr.bstD N T=(t,0)):(Lit.int .i64 t).wf=true∧0≤Ya N T t∧Ya N T t≤1000:=by
 obtain⟨hc,ht⟩:=Yh h
 have F:=Wp hc
 refine⟨?_,F.2.2.2.2.2 t⟩
 rcases ht with rfl|ht
 ·decide
 ·exact F.2.2.1 t ht
theorem Ziz{N:List Int}{T:List Zk}{s:Int}{b:Zk}{N':List Int}{T':List Zk}(h:Tr.addE N T s b=(N',T',0)):(Lit.int .i64 s).wf=true∧(Lit.int .i64 b.1).wf=true∧Tr.chkTr N' T'=0:=by
 obtain⟨h1,h2,h3,rfl,rfl⟩:=Tr.addE_ok h
 have hc:=Tr.chkTr_snoc h1 h2 h3
 have F:=Wp hc
 exact⟨F.2.2.1 s (by simp),F.2.2.2.1 b (by simp),hc⟩
section
variable {Z : Nat → Prop} {w : World} {d bm m : Nat} {ka na ba pa : Option Addr} {kn kc nn nc bn bc pn pc : Nat} {K : List ByteArray} {N : List Int} {T : List Zk} {P : List TxD} {tip : Int} {f : Int → Value} {β : Int → List Zh}
set_option maxRecDepth 10000 in
set_option maxHeartbeats 12800000 in
theorem Fb(h:DeskAt Z w d bm m ka kn kc K na nn nc N ba bn bc T pa pn pc P tip f β)(win:World)(hwin:Below win.heap.size win w)(hE:Env win)(hd:win.heap.size≤d)(hbm:win.heap.size≤bm)(hm:m<1000000)(p hh k o:Int)(a:Option Addr)(n c:Nat)(L:List TxD)(hL:∀ W,Gr w W (fun q=>q=d∨q=bm)→TxsAt W a n L)(sL:SlOk a n c)(x nm0:Int)(D:Dsk)(hx:tkR ⟨K,N,T,P,tip,β⟩ (p,hh,k,o,L)=(x,nm0,D)) :
  Calls Tryz.prog 100 #[.pointer (some ⟨d,0,none⟩),.agg #[.int .i64 p,.int .i64 hh,.int .i64 k,.int .i64 o,.slice a n c]] w fun e w'=>TakR Z w w' d bm m D x nm0 e:=by
 obtain⟨⟨K1,nm,Ns,x1⟩,h1⟩:∃ r,Xf K (p,hh,k,o,L)=r:=⟨_,rfl⟩
 obtain⟨⟨N1,T1,x2⟩,h2⟩:∃ r,Tr.addE N T nm (p,hh,k,o,L)=r:=⟨_,rfl⟩
 obtain⟨⟨x3,C3,U3⟩,h3⟩:∃ r,Wf K1 (β p) (p,hh,k,o,L)=r:=⟨_,rfl⟩
 obtain⟨⟨t,x4⟩,h4⟩:∃ r,Tr.bstD N1 T1=r:=⟨_,rfl⟩
 obtain⟨z,hz⟩:∃ z,Ya N1 T1 t=z:=⟨_,rfl⟩
 obtain⟨⟨K2,P2,x5⟩,h5⟩:∃ r,Pj K1 (Xq β nm C3 t) P (z+1)=r:=⟨_,rfl⟩
 unfold tkR at hx
 simp only[h1,h2,h3,h4,hz,h5] at hx
 obtain⟨X,hX⟩:∃ X,X=w.alloc (.cells #[.int .i64 p,.int .i64 hh,.int .i64 k,.int .i64 o,.slice a n c] 39):=⟨_,rfl⟩
 have hbX:Below w.heap.size w X:=by rw[hX];exact Zi _ _
 have hX0:X.heap[w.heap.size]? = some (.cells [.int .i64 p,.int .i64 hh,.int .i64 k,.int .i64 o,.slice a n c].toArray 39 (0,0)):=by rw[hX];exact heap_alloc_new w _
 have hdl:d<w.heap.size:=lt_of_block h.box
 have hml:bm<w.heap.size:=h.mp.lt
 have CN:=Zb (fun V (hv:Below w.heap.size w V)=>Aq ka kn kc K p hh k o a n c L K1 nm Ns x1 V (hE.later (Zf hwin hv)) (h.later hv).now.k (hL V (Gr.of hv)) h1)
 have OLD:=Zb (fun V (g:Gr w V (fun q=>q=d∨q=bm))=>(g.below hwin hwin.size (fun q e=>by rcases e with e|e <;> omega):Below win.heap.size win V))
 have KS:Hid (∀ U:World,Gr X U (fun q=>q=d∨q=bm)→(d<U.heap.size∧U.cell? ⟨w.heap.size,0,none⟩=some (.int .i64 p)∧U.cell? ⟨w.heap.size,1,none⟩=some (.int .i64 hh)∧U.cell? ⟨w.heap.size,2,none⟩=some (.int .i64 k)∧U.cell? ⟨w.heap.size,3,none⟩=some (.int .i64 o)∧U.cell? ⟨w.heap.size,4,none⟩=some (.slice a n c)∧w.heap.size<U.heap.size)):=fun U hu=>⟨Nat.lt_of_lt_of_le hdl (Nat.le_trans hbX.size hu.size),hu.cell (Zd hX0 0 _ rfl) (by simp;omega),hu.cell (Zd hX0 1 _ rfl) (by simp;omega),hu.cell (Zd hX0 2 _ rfl) (by simp;omega),hu.cell (Zd hX0 3 _ rfl) (by simp;omega),hu.cell (Zd hX0 4 _ rfl) (by simp;omega),Nat.lt_of_lt_of_le (lt_of_block hX0) hu.size⟩
 have HH:=Zb h
 have HBX:=Zb hbX
 have HX:=Zb hx
 have HL:=Zb hL
 have HSL:=Zb sL
 have HE:=Zb hE
 have HM:=Zb hm
 have H2:=Zb h2
 have H3:=Zb h3
 have H4:=Zb h4
 have HZ:=Zb hz
 have H5:=Zb h5
 have HDL:=Zb hdl
 have HML:=Zb hml
 clear h hwin hE hd hbm hm hL sL hx h1 h2 h3 h4 hz h5 hbX hX0 hdl hml
 go_enter Tryz.func100,Tryz.ntmps100
 go_upto_region 1 with fail
 rw[←hX]
 clear hX
 go_cut [4,5] from 6 to 19 (fun s4 s5 wx=>s4 = .int .i64 nm∧s5 = .int .i64 x1∧Hid (∃ ka' kn' kc',DeskAt Z wx d bm m ka' kn' kc' K1 na nn nc N ba bn bc T pa pn pc P tip f β∧Gr X wx (fun q=>q=d∨q=bm)))
 case first=>
  refine wp_region_held_drew (S:=fun U=>(d<U.heap.size∧U.cell? ⟨w.heap.size,0,none⟩=some (.int .i64 p)∧U.cell? ⟨w.heap.size,1,none⟩=some (.int .i64 hh)∧U.cell? ⟨w.heap.size,2,none⟩=some (.int .i64 k)∧U.cell? ⟨w.heap.size,3,none⟩=some (.int .i64 o)∧U.cell? ⟨w.heap.size,4,none⟩=some (.slice a n c)∧w.heap.size<U.heap.size)) (by kernel_rfl) ((Za KS) _ (Gr.of (Zj X))) (fun Zjc=>?_)
  refine tk 0 ⟨some 7,.move (.tmp 0),181, "desk.go:59",#[],none⟩ ?_ rfl ?_ Zjc ?_
  rotate_left
  ·(intro U hSw;obtain⟨s0,s1,s2,s3,s4,s5,s6⟩:=hSw;go_simp;first|done|with_reducible rfl)
  (try simp only[Act.put,ZA,ZB,ZC])
  refine tk 1 ⟨some 8,.move (.tmp 0),181, "desk.go:59",#[],none⟩ ?_ rfl ?_ Zjc ?_
  rotate_left
  ·(intro U hSw;obtain⟨s0,s1,s2,s3,s4,s5,s6⟩:=hSw;go_simp;first|done|with_reducible rfl)
  (try simp only[Act.put,ZA,ZB,ZC])
  refine tk 2 ⟨some 9,.nilCheck (.tmp 8),0, "desk.go:59",#[⟨1,.data⟩],none⟩ ?_ rfl ?_ Zjc ?_
  rotate_left
  ·(intro U hSw;obtain⟨s0,s1,s2,s3,s4,s5,s6⟩:=hSw;go_simp;first|done|with_reducible rfl)
  (try simp only[Act.put,ZA,ZB,ZC])
  refine tk 3 ⟨some 10,.fieldAddr 254 (.tmp 9) 0,0, "desk.go:59",#[⟨2,.data⟩],none⟩ ?_ rfl ?_ Zjc ?_
  rotate_left
  ·(intro U hSw;obtain⟨s0,s1,s2,s3,s4,s5,s6⟩:=hSw;go_simp;first|done|with_reducible rfl)
  (try simp only[Act.put,ZA,ZB,ZC])
  refine tk 5 ⟨some 12,.load 39 (.tmp 3),39, "desk.go:59",#[],none⟩ ?_ rfl ?_ Zjc ?_
  rotate_left
  ·(intro U hSw;obtain⟨s0,s1,s2,s3,s4,s5,s6⟩:=hSw;go_simp;first|done|with_reducible rfl)
  (try simp only[Act.put,ZA,ZB,ZC])
  have hb:=Zf (Za HBX) (Zj X)
  have l0:=Ze hb (Zd (Za HH).box 0 _ rfl)
  have ll:=Nat.lt_of_lt_of_le (Za HDL) hb.size
  refine wpAnyH_ready (rs:=[4]) (by kernel_rfl) (by simp) ?_
  refine AllReadyH.cons (o:=⟨some 11,.load 24 (.tmp 10),24, "desk.go:59",#[⟨3,.data⟩],none⟩) rfl (fun KQ hK=>?_) AllReadyH.nil
  go_simp
  clear l0 ll
  refine hK.out _ _ ((Za KS) _ (Gr.of (Zj X))) (fun Zjd=>?_)
  clear hK KQ Zjc
  have Zjc:=Zjd
  clear Zjd
  (try simp only[Act.put,ZA,ZB,ZC])
  refine wpAnyH_ready (rs:=[6]) (by kernel_rfl) (by simp) ?_
  refine AllReadyH.cons (o:=⟨some 13,.call { callee:=Callee.value (.func 27),args:=#[.tmp 11,.tmp 12],argTypes:=#[24,39] },53, "desk.go:59",#[⟨4,.data⟩,⟨5,.data⟩],none⟩) rfl (fun KQ hK=>?_) AllReadyH.nil
  refine Zl (by kernel_rfl) 27 #[.agg #[.slice ka kn kc],.agg #[.int .i64 p,.int .i64 hh,.int .i64 k,.int .i64 o,.slice a n c]] (by kernel_rfl) ((Za CN) _ hb) ?_
  rintro e v1 ⟨k5,k5n,k5c,n5,n5n,n5c,rfl,hT5,sk5,-,-,hb5⟩
  refine⟨_,rfl,?_⟩
  have gX:Gr X v1 (fun q=>q=d∨q=bm):=Gr.of (Zf (Zj X) hb5)
  refine hK.out _ _ ((Za KS) _ gX) (fun Zjd=>?_)
  clear hK KQ Zjc
  have Zjc:=Zjd
  clear Zjd
  (try simp only[Act.put,ZA,ZB,ZC])
  refine tk 7 ⟨some 6,.move (.tmp 13),53, "desk.go:59",#[⟨6,.data⟩],none⟩ ?_ rfl ?_ Zjc ?_
  rotate_left
  ·(intro U hSw;(try dsimp only at hSw);go_simp;first|done|with_reducible rfl)
  (try simp only[Act.put,ZA,ZB,ZC])
  refine tk 8 ⟨some 14,.extract (.tmp 6) 0,24, "desk.go:59",#[⟨7,.data⟩],none⟩ ?_ rfl ?_ Zjc ?_
  rotate_left
  ·(intro U hSw;(try dsimp only at hSw);go_simp;first|done|with_reducible rfl)
  (try simp only[Act.put,ZA,ZB,ZC])
  refine tk 9 ⟨some 15,.extract (.tmp 6) 1,3, "desk.go:59",#[⟨7,.data⟩,⟨14,.gcOnly .lateStores⟩],none⟩ ?_ rfl ?_ Zjc ?_
  rotate_left
  ·(intro U hSw;(try dsimp only at hSw);go_simp;first|done|with_reducible rfl)
  (try simp only[Act.put,ZA,ZB,ZC])
  refine tk 10 ⟨some 16,.extract (.tmp 6) 2,25, "desk.go:59",#[⟨7,.data⟩,⟨15,.gcOnly .lateStores⟩],none⟩ ?_ rfl ?_ Zjc ?_
  rotate_left
  ·(intro U hSw;(try dsimp only at hSw);go_simp;first|done|with_reducible rfl)
  (try simp only[Act.put,ZA,ZB,ZC])
  refine tk 11 ⟨some 17,.extract (.tmp 6) 3,30, "desk.go:59",#[⟨7,.data⟩,⟨15,.gcOnly .lateStores⟩],none⟩ ?_ rfl ?_ Zjc ?_
  rotate_left
  ·(intro U hSw;(try dsimp only at hSw);go_simp;first|done|with_reducible rfl)
  (try simp only[Act.put,ZA,ZB,ZC])
  refine tk 12 ⟨some 18,.nilCheck (.tmp 7),0, "desk.go:59",#[⟨0,.data⟩,⟨0,.phase⟩,⟨1,.phase⟩,⟨2,.phase⟩,⟨3,.phase⟩,⟨4,.phase⟩,⟨5,.phase⟩,⟨6,.phase⟩,⟨7,.phase⟩,⟨8,.phase⟩,⟨9,.textOnly .lateStores⟩,⟨10,.textOnly .lateStores⟩,⟨11,.textOnly .lateStores⟩],none⟩ ?_ rfl ?_ Zjc ?_
  rotate_left
  ·(intro U hSw;(try dsimp only at hSw);go_simp;first|done|with_reducible rfl)
  (try simp only[Act.put,ZA,ZB,ZC])
  refine tk 13 ⟨some 19,.fieldAddr 254 (.tmp 18) 0,0, "desk.go:59",#[⟨12,.data⟩,⟨0,.phase⟩,⟨1,.phase⟩,⟨2,.phase⟩,⟨3,.phase⟩,⟨4,.phase⟩,⟨5,.phase⟩,⟨6,.phase⟩,⟨7,.phase⟩,⟨8,.phase⟩,⟨9,.textOnly .lateStores⟩,⟨10,.textOnly .lateStores⟩,⟨11,.textOnly .lateStores⟩],none⟩ ?_ rfl ?_ Zjc ?_
  rotate_left
  ·(intro U hSw;(try dsimp only at hSw);go_simp;first|done|with_reducible rfl)
  (try simp only[Act.put,ZA,ZB,ZC])
  have hw5:=Zf hb hb5
  have hbx:=((Za HH).later hw5).box
  have y0:=Zd hbx 0 _ rfl
  have g0:=Zg hbx 0
  have yl:=lt_of_block hbx
  refine wpAnyH_ready (rs:=[14]) (by kernel_rfl) (by simp) ?_
  refine AllReadyH.cons (o:=⟨none,.store 24 (.tmp 19) (.tmp 14),0, "desk.go:59",#[⟨13,.data⟩,⟨8,.data⟩,⟨6,.chain⟩,⟨0,.phase⟩,⟨1,.phase⟩,⟨2,.phase⟩,⟨3,.phase⟩,⟨4,.phase⟩,⟨5,.phase⟩,⟨6,.phase⟩,⟨7,.phase⟩,⟨8,.phase⟩,⟨9,.textOnly .lateStores⟩,⟨10,.textOnly .lateStores⟩,⟨11,.textOnly .lateStores⟩],none⟩) rfl (fun KQ hK=>?_) AllReadyH.nil
  go_simp
  refine hK.out _ _ ((Za KS) _ (gX.one d 0 (.inl (.inl rfl)) _)) (fun Zjd=>?_)
  clear hK KQ Zjc
  have Zjc:=Zjd
  clear Zjd
  (try simp only[Act.put])
  refine tk 15 ⟨some 4,.assign (.tmp 15),3, "desk.go:59",#[⟨9,.data⟩,⟨14,.chain⟩,⟨0,.phase⟩,⟨1,.phase⟩,⟨2,.phase⟩,⟨3,.phase⟩,⟨4,.phase⟩,⟨5,.phase⟩,⟨6,.phase⟩,⟨7,.phase⟩,⟨8,.phase⟩,⟨9,.phase⟩,⟨10,.textOnly .lateStores⟩,⟨11,.textOnly .lateStores⟩,⟨12,.phase⟩,⟨13,.phase⟩,⟨14,.phase⟩],none⟩ ?_ rfl ?_ Zjc ?_
  rotate_left
  ·(intro U hSw;(try dsimp only at hSw);go_simp;first|done|with_reducible rfl)
  (try simp only[Act.put,ZA,ZB,ZC])
  refine tk 16 ⟨some 5,.assign (.tmp 17),30, "desk.go:59",#[⟨11,.data⟩,⟨15,.chain⟩,⟨0,.phase⟩,⟨1,.phase⟩,⟨2,.phase⟩,⟨3,.phase⟩,⟨4,.phase⟩,⟨5,.phase⟩,⟨6,.phase⟩,⟨7,.phase⟩,⟨8,.phase⟩,⟨9,.phase⟩,⟨10,.phase⟩,⟨11,.phase⟩,⟨12,.phase⟩,⟨13,.phase⟩,⟨14,.phase⟩,⟨15,.phase⟩],none⟩ ?_ rfl ?_ Zjc ?_
  rotate_left
  ·(intro U hSw;(try dsimp only at hSw);go_simp;first|done|with_reducible rfl)
  (try simp only[Act.put,ZA,ZB,ZC])
  refine wpAnyH_done (by kernel_rfl) ?_ _
  clear Zjc
  go_wp2_with fail
  go_meet
  case rel=>exact⟨rfl,rfl,k5,k5n,k5c,(Za HH).named hb hb5 hT5 sk5,gX.one d 0 (.inl (.inl rfl)) _⟩
 case rest=>
  obtain⟨rfl,rfl,HC⟩:=hcut
  clear CN
  obtain⟨k1,k1n,k1c,hD1,g1⟩:=Za HC
  have HD1:=Zb hD1
  have G1:=Zb g1
  clear HC hD1 g1
  by_cases z1:x1=0
  ·subst z1
   have hx2:=Za HX
   rw[if_neg (fun q=>q rfl)] at hx2
   have HX2:=Zb hx2
   clear hx2 HX
   obtain⟨n1,hn1⟩:∃ n1,N1.length=n1:=⟨_,rfl⟩
   have CA:=Zb (fun V (hv:Below wc.heap.size wc V)=>Tr.add_is na ba nn nc bn bc N T nm p hh k o a n c L N1 T1 n1 x2 V ((Za HD1).later hv).now.n ((Za HD1).later hv).now.b (Za HD1).sn (Za HD1).sb (Za HL V ((Gr.of (Za HBX)).trans ((Za G1).trans (Gr.of hv)))) (Za HSL) (Za H2) hn1)
   clear hn1
   go_upto_region 3 with fail
   go_cut [5] from 22 to 36 (fun s5 wx=>s5 = .int .i64 x2∧Hid (∃ na' nc' ba' bc',DeskAt Z wx d bm m k1 k1n k1c K1 na' n1 nc' N1 ba' n1 bc' T1 pa pn pc P tip f β∧Gr wc wx (fun q=>q=d∨q=bm)))
   case first=>
    refine wp_region_held_drew (S:=fun U=>(d<U.heap.size∧U.cell? ⟨w.heap.size,0,none⟩=some (.int .i64 p)∧U.cell? ⟨w.heap.size,1,none⟩=some (.int .i64 hh)∧U.cell? ⟨w.heap.size,2,none⟩=some (.int .i64 k)∧U.cell? ⟨w.heap.size,3,none⟩=some (.int .i64 o)∧U.cell? ⟨w.heap.size,4,none⟩=some (.slice a n c)∧w.heap.size<U.heap.size)) (by kernel_rfl) ((Za KS) _ ((Za G1).trans (Gr.of (Zj wc)))) (fun Zjc=>?_)
    refine tk 0 ⟨some 23,.move (.tmp 0),181, "desk.go:61",#[],none⟩ ?_ rfl ?_ Zjc ?_
    rotate_left
    ·(intro U hSw;obtain⟨s0,s1,s2,s3,s4,s5,s6⟩:=hSw;go_simp;first|done|with_reducible rfl)
    (try simp only[Act.put,ZA,ZB,ZC])
    refine tk 1 ⟨some 24,.move (.tmp 0),181, "desk.go:61",#[],none⟩ ?_ rfl ?_ Zjc ?_
    rotate_left
    ·(intro U hSw;obtain⟨s0,s1,s2,s3,s4,s5,s6⟩:=hSw;go_simp;first|done|with_reducible rfl)
    (try simp only[Act.put,ZA,ZB,ZC])
    refine tk 2 ⟨some 25,.nilCheck (.tmp 24),0, "desk.go:61",#[⟨1,.data⟩],none⟩ ?_ rfl ?_ Zjc ?_
    rotate_left
    ·(intro U hSw;obtain⟨s0,s1,s2,s3,s4,s5,s6⟩:=hSw;go_simp;first|done|with_reducible rfl)
    (try simp only[Act.put,ZA,ZB,ZC])
    refine tk 3 ⟨some 26,.fieldAddr 254 (.tmp 25) 1,0, "desk.go:61",#[⟨2,.data⟩],none⟩ ?_ rfl ?_ Zjc ?_
    rotate_left
    ·(intro U hSw;obtain⟨s0,s1,s2,s3,s4,s5,s6⟩:=hSw;go_simp;first|done|with_reducible rfl)
    (try simp only[Act.put,ZA,ZB,ZC])
    refine tk 4 ⟨some 27,.fieldAddr 67 (.tmp 26) 0,0, "desk.go:61",#[⟨3,.data⟩],none⟩ ?_ rfl ?_ Zjc ?_
    rotate_left
    ·(intro U hSw;obtain⟨s0,s1,s2,s3,s4,s5,s6⟩:=hSw;go_simp;first|done|with_reducible rfl)
    (try simp only[Act.put,ZA,ZB,ZC])
    refine tk 6 ⟨some 29,.move (.tmp 4),3, "desk.go:61",#[],none⟩ ?_ rfl ?_ Zjc ?_
    rotate_left
    ·(intro U hSw;obtain⟨s0,s1,s2,s3,s4,s5,s6⟩:=hSw;go_simp;first|done|with_reducible rfl)
    (try simp only[Act.put,ZA,ZB,ZC])
    refine tk 7 ⟨some 30,.load 39 (.tmp 3),39, "desk.go:61",#[],none⟩ ?_ rfl ?_ Zjc ?_
    rotate_left
    ·(intro U hSw;obtain⟨s0,s1,s2,s3,s4,s5,s6⟩:=hSw;go_simp;first|done|with_reducible rfl)
    (try simp only[Act.put,ZA,ZB,ZC])
    have hb:=Zj wc
    have l1:=Ze hb (Zd (Za HD1).box 1 _ rfl)
    have l2:=Ze hb (Zd (Za HD1).box 2 _ rfl)
    have ll:=Nat.lt_of_lt_of_le (lt_of_block (Za HD1).box) hb.size
    refine wpAnyH_ready (rs:=[5]) (by kernel_rfl) (by simp) ?_
    refine AllReadyH.cons (o:=⟨some 28,.load 28 (.tmp 27),28, "desk.go:61",#[⟨4,.data⟩],none⟩) rfl (fun KQ hK=>?_) AllReadyH.nil
    go_simp
    clear l1 l2 ll
    refine hK.out _ _ ((Za KS) _ ((Za G1).trans (Gr.of (Zj wc)))) (fun Zjd=>?_)
    clear hK KQ Zjc
    have Zjc:=Zjd
    clear Zjd
    (try simp only[Act.put,ZA,ZB,ZC])
    refine wpAnyH_ready (rs:=[8]) (by kernel_rfl) (by simp) ?_
    refine AllReadyH.cons (o:=⟨some 31,.call { callee:=Callee.value (.func 63),args:=#[.tmp 28,.tmp 29,.tmp 30],argTypes:=#[28,3,39] },137, "desk.go:61",#[⟨5,.data⟩,⟨6,.data⟩,⟨7,.data⟩],none⟩) rfl (fun KQ hK=>?_) AllReadyH.nil
    refine Zl (by kernel_rfl) 63 #[.agg #[.slice na nn nc,.slice ba bn bc],.int .i64 nm,.agg #[.int .i64 p,.int .i64 hh,.int .i64 k,.int .i64 o,.slice a n c]] (by kernel_rfl) ((Za CA) _ hb) ?_
    rintro e v1 ⟨a1,c1,a2,c2,rfl,hF5,s51,s52,hb5⟩
    refine⟨_,rfl,?_⟩
    have gX:Gr wc v1 (fun q=>q=d∨q=bm):=Gr.of (Zf hb hb5)
    refine hK.out _ _ ((Za KS) _ ((Za G1).trans gX)) (fun Zjd=>?_)
    clear hK KQ Zjc
    have Zjc:=Zjd
    clear Zjd
    (try simp only[Act.put,ZA,ZB,ZC])
    refine tk 9 ⟨some 22,.move (.tmp 31),137, "desk.go:61",#[⟨8,.data⟩],none⟩ ?_ rfl ?_ Zjc ?_
    rotate_left
    ·(intro U hSw;(try dsimp only at hSw);go_simp;first|done|with_reducible rfl)
    (try simp only[Act.put,ZA,ZB,ZC])
    refine tk 10 ⟨some 32,.extract (.tmp 22) 0,28, "desk.go:61",#[⟨9,.data⟩],none⟩ ?_ rfl ?_ Zjc ?_
    rotate_left
    ·(intro U hSw;(try dsimp only at hSw);go_simp;first|done|with_reducible rfl)
    (try simp only[Act.put,ZA,ZB,ZC])
    refine tk 11 ⟨some 33,.extract (.tmp 22) 1,30, "desk.go:61",#[⟨9,.data⟩,⟨15,.gcOnly .lateStores⟩],none⟩ ?_ rfl ?_ Zjc ?_
    rotate_left
    ·(intro U hSw;(try dsimp only at hSw);go_simp;first|done|with_reducible rfl)
    (try simp only[Act.put,ZA,ZB,ZC])
    refine tk 12 ⟨some 34,.nilCheck (.tmp 23),0, "desk.go:61",#[⟨0,.data⟩,⟨0,.phase⟩,⟨1,.phase⟩,⟨2,.phase⟩,⟨3,.phase⟩,⟨4,.phase⟩,⟨5,.phase⟩,⟨6,.phase⟩,⟨7,.phase⟩,⟨8,.phase⟩,⟨9,.phase⟩,⟨10,.phase⟩,⟨11,.textOnly .lateStores⟩],none⟩ ?_ rfl ?_ Zjc ?_
    rotate_left
    ·(intro U hSw;(try dsimp only at hSw);go_simp;first|done|with_reducible rfl)
    (try simp only[Act.put,ZA,ZB,ZC])
    refine tk 13 ⟨some 35,.fieldAddr 254 (.tmp 34) 1,0, "desk.go:61",#[⟨12,.data⟩,⟨0,.phase⟩,⟨1,.phase⟩,⟨2,.phase⟩,⟨3,.phase⟩,⟨4,.phase⟩,⟨5,.phase⟩,⟨6,.phase⟩,⟨7,.phase⟩,⟨8,.phase⟩,⟨9,.phase⟩,⟨10,.phase⟩,⟨11,.textOnly .lateStores⟩],none⟩ ?_ rfl ?_ Zjc ?_
    rotate_left
    ·(intro U hSw;(try dsimp only at hSw);go_simp;first|done|with_reducible rfl)
    (try simp only[Act.put,ZA,ZB,ZC])
    refine tk 14 ⟨some 36,.fieldAddr 67 (.tmp 35) 0,0, "desk.go:61",#[⟨13,.data⟩,⟨0,.phase⟩,⟨1,.phase⟩,⟨2,.phase⟩,⟨3,.phase⟩,⟨4,.phase⟩,⟨5,.phase⟩,⟨6,.phase⟩,⟨7,.phase⟩,⟨8,.phase⟩,⟨9,.phase⟩,⟨10,.phase⟩,⟨11,.textOnly .lateStores⟩],none⟩ ?_ rfl ?_ Zjc ?_
    rotate_left
    ·(intro U hSw;(try dsimp only at hSw);go_simp;first|done|with_reducible rfl)
    (try simp only[Act.put,ZA,ZB,ZC])
    have hw5:=Zf hb hb5
    have hbx:=((Za HD1).later hw5).box
    have y1:=Zd hbx 1 _ rfl
    have y2:=Zd hbx 2 _ rfl
    have g1:=Zg hbx 1
    have g2:=Zg hbx 2
    have yl:=lt_of_block hbx
    refine wpAnyH_ready (rs:=[15]) (by kernel_rfl) (by simp) ?_
    refine AllReadyH.cons (o:=⟨none,.store 28 (.tmp 36) (.tmp 32),0, "desk.go:61",#[⟨14,.data⟩,⟨10,.data⟩,⟨8,.chain⟩,⟨0,.phase⟩,⟨1,.phase⟩,⟨2,.phase⟩,⟨3,.phase⟩,⟨4,.phase⟩,⟨5,.phase⟩,⟨6,.phase⟩,⟨7,.phase⟩,⟨8,.phase⟩,⟨9,.phase⟩,⟨10,.phase⟩,⟨11,.textOnly .lateStores⟩],none⟩) rfl (fun KQ hK=>?_) AllReadyH.nil
    go_simp
    refine hK.out _ _ ((Za KS) _ ((Za G1).trans ((gX.one d 1 (.inl (.inl rfl)) _).one d 2 (.inl (.inl rfl)) _))) (fun Zjd=>?_)
    clear hK KQ Zjc
    have Zjc:=Zjd
    clear Zjd
    (try simp only[Act.put])
    refine tk 16 ⟨some 5,.assign (.tmp 33),30, "desk.go:61",#[⟨11,.data⟩,⟨15,.chain⟩,⟨0,.phase⟩,⟨1,.phase⟩,⟨2,.phase⟩,⟨3,.phase⟩,⟨4,.phase⟩,⟨5,.phase⟩,⟨6,.phase⟩,⟨7,.phase⟩,⟨8,.phase⟩,⟨9,.phase⟩,⟨10,.phase⟩,⟨11,.phase⟩,⟨12,.phase⟩,⟨13,.phase⟩,⟨14,.phase⟩,⟨15,.phase⟩],none⟩ ?_ rfl ?_ Zjc ?_
    rotate_left
    ·(intro U hSw;(try dsimp only at hSw);go_simp;first|done|with_reducible rfl)
    (try simp only[Act.put,ZA,ZB,ZC])
    refine wpAnyH_done (by kernel_rfl) ?_ _
    clear Zjc
    go_wp2_with fail
    go_meet
    case rel=>exact⟨rfl,a1,c1,a2,c2,(Za HD1).grown hb hb5 hF5 s51 s52,(gX.one d 1 (.inl (.inl rfl)) _).one d 2 (.inl (.inl rfl)) _⟩
   case rest=>
    obtain⟨rfl,HC⟩:=hcut
    clear CA
    obtain⟨a1,c1,a2,c2,hD2,g2⟩:=Za HC
    have HD2:=Zb hD2
    have G2:=Zb ((Za G1).trans g2)
    clear HC hD2 g2 HD1 G1
    by_cases z2:x2=0
    ·subst z2
     have hx3:=Za HX2
     rw[if_neg (fun q=>q rfl)] at hx3
     have HX3:=Zb hx3
     clear hx3 HX2
     have HWF:=Zb (Ziz (Za H2))
     have GW:=Zb ((Gr.of (Za HBX)).trans (Za G2))
     obtain⟨e0,e1,e2,e3,e4,e5,e6⟩:=(Za KS) _ (Za G2)
     have D3:=Zb (Pc (Za HD2) nm p hh k o a n c L x3 C3 U3 ((Za HE).later ((Za OLD) _ (Za GW))) (Za HL _ (Za GW)) (Za HM) (Za HWF).1 (Za HWF).2.1 (Za H3))
     clear KS HBX H2 H3 HL HSL HWF
     go_wp2_with fail
     refine (Za D3).mono ?_
     rintro e w3 ⟨rfl,f3,hD3,g3⟩
     have HD3:=Zb hD3
     have G3:=Zb ((Za GW).trans (g3.mono (fun q _ e=>(.inr e:q=d∨q=bm))))
     clear hD3 g3 D3 HD2 G2 GW e0 e1 e2 e3 e4 e5 e6
     by_cases z3:x3=0
     ·subst z3
      have hx4:=Za HX3
      rw[if_neg (fun q=>q rfl)] at hx4
      have HX4:=Zb hx4
      clear hx4 HX3
      have D4:=Zb (Tr.best_is a1 a2 n1 c1 n1 c2 N1 T1 t x4 w3 (Za HD3).now.n (Za HD3).now.b (Za HD3).sn (Za HD3).sb (Za H4))
      have e1:=Zd (Za HD3).box 1 _ rfl
      have e2:=Zd (Za HD3).box 2 _ rfl
      have el:=lt_of_block (Za HD3).box
      go_wp2_with fail
      refine (Za D4).mono ?_
      rintro e w4 ⟨rfl,hb4⟩
      clear D4 e1 e2 el
      have HD4:=Zb ((Za HD3).later hb4)
      have G4:=Zb ((Za G3).trans (Gr.of hb4))
      clear HD3 G3 hb4
      have e4:=Zd (Za HD4).box 4 _ rfl
      have f4:=Zg (Za HD4).box 4
      have el:=lt_of_block (Za HD4).box
      obtain⟨V,hV⟩:∃ V,V=w4.setCell ⟨d,4,none⟩ (.int .i64 t):=⟨_,rfl⟩
      have HDV:Hid (DeskAt Z V d bm (m+1) k1 k1n k1c K1 a1 n1 c1 N1 a2 n1 c2 T1 pa pn pc P t f3 (Xq β nm C3)):=by rw[hV];exact (Za HD4).tipped t
      have GV:Hid (Gr w V (fun q=>q=d∨q=bm)):=by rw[hV];exact (Za G4).one d 4 (.inl (.inl rfl)) _
      clear HD4 G4
      by_cases z4:x4=0
      ·subst z4
       have hx5:=Za HX4
       rw[if_neg (fun q=>q rfl)] at hx5
       have HX5:=Zb hx5
       clear hx5 HX4
       have HBW:=Zb (Jx (Za H4))
       have hz1:=(Za HBW).2.1
       have hz2:=(Za HBW).2.2
       rw[Za HZ] at hz1 hz2
       have hw1:IntKind.i64.wrap (z+1)=z+1:=by rw[IntKind.wrap_i64];omega
       clear hz1 hz2
       have D5:=Zb (Qr (Za HDV) z (Za HZ))
       have CS:=Zb (fun V2 (hv:Below V.heap.size V V2)=>Zaw ((Za HDV).later hv) ((Za HE).later ((Za OLD) _ ((Za GV).trans (Gr.of hv)))) (Za HBW).1 (z+1) K2 P2 x5 (Za H5))
       clear HDV HBW H4 H5 HZ HE OLD
       go_wp2_with fail
       rw[←hV]
       clear hV e4 f4 el
       (try go_wp2_with fail)
       refine (Za D5).mono ?_
       rintro e w6 ⟨rfl,hb6⟩
       have D6:=Zb ((Za CS) w6 hb6)
       have G6:=Zb ((Za GV).trans (Gr.of hb6))
       clear hb6 D5 CS GV
       go_wp2_with fail
       refine (Za D6).mono ?_
       rintro e w7 ⟨rfl,k7,k7n,k7c,p7,p7n,p7c,hD7,g7⟩
       have HD7:=Zb hD7
       have G7:=Zb ((Za G6).trans (g7.mono (fun q _ e=>(.inl e:q=d∨q=bm))))
       clear hD7 g7 D6 G6 hw1
       by_cases z5:x5=0
       ·subst z5
        have hx6:=Za HX5
        rw[if_neg (fun q=>q rfl)] at hx6
        simp only[Prod.mk.injEq] at hx6
        obtain⟨rfl,rfl,rfl⟩:=hx6
        clear HX5
        go_wp2
        go_ret2
        exact⟨rfl,Za G7,fun _=>⟨_,_,_,_,_,_,_,_,_,_,_,_,_,Za HD7⟩⟩
       ·have hxb:=Za HX5
        rw[if_pos z5] at hxb
        simp only[Prod.mk.injEq] at hxb
        obtain⟨rfl,rfl,rfl⟩:=hxb
        clear HX5
        have gx:(x5 == 0)=false:=by simp[z5]
        have gy:(x5 != 0)=true:=by simp[z5]
        go_wp2
        go_ret2
        exact⟨rfl,(Za G7),fun e=>absurd e z5⟩
      ·have hxb:=Za HX4
       rw[if_pos z4] at hxb
       simp only[Prod.mk.injEq] at hxb
       obtain⟨rfl,rfl,rfl⟩:=hxb
       clear HX4
       clear HDV
       have gx:(x4 == 0)=false:=by simp[z4]
       have gy:(x4 != 0)=true:=by simp[z4]
       go_wp2_with fail
       rw[←hV]
       clear hV
       (try go_wp2)
       go_ret2
       exact⟨rfl,(Za GV),fun e=>absurd e z4⟩
     ·have hxb:=Za HX3
      rw[if_pos z3] at hxb
      simp only[Prod.mk.injEq] at hxb
      obtain⟨rfl,rfl,rfl⟩:=hxb
      clear HX3
      have gx:(x3 == 0)=false:=by simp[z3]
      have gy:(x3 != 0)=true:=by simp[z3]
      go_wp2
      go_ret2
      exact⟨rfl,(Za G3),fun e=>absurd e z3⟩
    ·have hxb:=Za HX2
     rw[if_pos z2] at hxb
     simp only[Prod.mk.injEq] at hxb
     obtain⟨rfl,rfl,rfl⟩:=hxb
     clear HX2
     have gx:(x2 == 0)=false:=by simp[z2]
     have gy:(x2 != 0)=true:=by simp[z2]
     go_wp2
     go_ret2
     exact⟨rfl,((Gr.of (Za HBX)).trans (Za G2)),fun e=>absurd e z2⟩
  ·have hxb:=Za HX
   rw[if_pos z1] at hxb
   simp only[Prod.mk.injEq] at hxb
   obtain⟨rfl,rfl,rfl⟩:=hxb
   clear HX
   have gx:(x1 == 0)=false:=by simp[z1]
   have gy:(x1 != 0)=true:=by simp[z1]
   go_wp2
   go_ret2
   exact⟨rfl,((Gr.of (Za HBX)).trans (Za G1)),fun e=>absurd e z1⟩
end
end Go.Proofs.YtmomfkikogbdeaaGreatDoor
