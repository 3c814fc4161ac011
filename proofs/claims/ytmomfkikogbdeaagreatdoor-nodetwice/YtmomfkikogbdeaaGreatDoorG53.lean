import Derived.Test.YtmomfkikogbdeaaGreatDoorG41
set_option maxHeartbeats 12800000
set_option maxRecDepth 10000
namespace Go.Proofs.YtmomfkikogbdeaaGreatDoor
open Go.RowKit
theorem Zff{D:Dsk}{b:Zk}(h:(tkR D b).1≠0):(tkR D b).2.1=0:=by
 unfold tkR at h ⊢
 split
 ·rfl
 rename_i h1
 rw[if_neg h1] at h
 split
 ·rfl
 rename_i h2
 rw[if_neg h2] at h
 split
 ·rfl
 rename_i h3
 rw[if_neg h3] at h
 split
 ·rfl
 rename_i h4
 rw[if_neg h4] at h
 simp only at h ⊢
 split
 ·rfl
 rename_i h5
 rw[if_neg h5] at h
 exact absurd rfl h
def Zew(bb:Nat)(nm:Int)(_B:Nat)(V:World):Prop:=V.heap[bb]? = some (.cells [.int .i64 nm].toArray 3 (0,0))
theorem Zfg(w:World)(b1 bb:Nat)(p hh k o:Int)(a:Option Addr)(n c:Nat)(L:List TxD)(K:List ByteArray)(N:List Int)(T:List Zk)(P:List TxD)(tip:Int)(β : Int->List Zh)(x nm:Int)(D':Dsk)(hE:Env w)(hL:TxsAt w a n L)(sL:SlOk a n c)
  (hb1:w.heap[b1]? = some (.cells [.int .i64 p,.int .i64 hh,.int .i64 k,.int .i64 o,.slice a n c].toArray 39 (0,0))) (hbb:w.heap[bb]? = some (.cells [.int .i64 0].toArray 3 (0,0))) (hx:tkR ⟨K,N,T,P,tip,β⟩ (p,hh,k,o,L)=(x,nm,D')) :
  DoC 99 #[.pointer (some ⟨b1,0,none⟩),.pointer (some ⟨bb,0,none⟩)] w (fun q=>q=bb) ⟨K,N,T,P,tip,β⟩ x D' (Zew bb nm) where
 enters:=enters_of (fn:=Tryz.f99) (by kernel_rfl) (by kernel_rfl) rfl
 old q e:=by have e:q=bb:=e;exact e ▸ lt_of_block hbb
 on B V V':=by
  intro h1 g
  have lb:=lt_of_block hbb
  exact g.heap h1 (fun e=>by have:=e.1;omega)
 call B V d bm m hB hV hD hd hbm hm:=by
  obtain⟨k1,k1n,k1c,n1,n1n,n1c,t1,t1n,t1c,p1,p1n,p1c,f,hq⟩:=hD
  have lb:=lt_of_block hbb
  have C1:=Zb (Fb hq w hV hE (by omega) (by omega) (by omega) p hh k o a n c L (fun W g=>by
   have gW:Gr w W (fun _=>False):=((Gr.of hV:Gr w V (fun _=>False))).far g (fun q e=>.inl (by rcases e with e|e <;> omega))
   exact hL.later (gW.below (Below.refl _ _) (Nat.le_refl _) (fun _ q=>q.elim))) sL x nm D' hx)
  have hbv:=(hV.block _ lb).trans hbb
  have hb1v:=(hV.block _ (lt_of_block hb1)).trans hb1
  have q0:=Zd hb1v 0 _ rfl
  have q1:=Zd hb1v 1 _ rfl
  have q2:=Zd hb1v 2 _ rfl
  have q3:=Zd hb1v 3 _ rfl
  have q4:=Zd hb1v 4 _ rfl
  have ql:=lt_of_block hb1v
  have HBV:=Zb hbv
  have HVS:=Zb hV.size
  have HDL:=Zb (lt_of_block hq.box)
  clear hq hE hL sL hx hbv hbb hb1 hb1v
  show Calls Tryz.prog 99 #[.pointer (some ⟨d,0,none⟩),.pointer (some ⟨b1,0,none⟩),.pointer (some ⟨bb,0,none⟩)] V _
  go_enter Tryz.func99,Tryz.ntmps99
  go_wp2_with fail
  refine (Za C1).mono ?_
  rintro e w1 ⟨rfl,g1,hk⟩
  have hb1:=g1.heap (Za HBV) (by rintro (e|e) <;> omega)
  have r0:=Zd hb1 0 _ rfl
  have f0:=Zg hb1 0
  have rl:=lt_of_block hb1
  have FIN:Hid (∀ W,W=w1.setCell ⟨bb,0,none⟩ (.int .i64 nm)->Gr V W (fun q=>q=d∨q=bm∨q=bb)/\(x=0->KeptOn (fun q=>q<B) W d bm D')/\Zew bb nm B W):=fun W hW=>by
   have g2:Gr w1 W (fun q=>q=bb):=by rw[hW];exact (Gr.refl w1 (fun q=>q=bb)).one bb 0 (.inl rfl) _
   refine⟨(g1.mono (fun q _ e=>?_)).trans (g2.mono (fun q _ e=>.inr (.inr e))),fun e=>(hk e).kept.on g2 (fun q e=>?_) (fun e=>?_),?_⟩
   ·rcases e with e|e
    ·exact .inl e
    ·exact .inr (.inl e)
   ·have e:q=bb:=e;show q<B;omega
   ·have e:d=bb:=e;omega
   ·rw[hW];exact Tr.set_cells hb1 0 _
  clear g1 hk hb1 C1 HBV q0 q1 q2 q3 q4 ql
  go_wp2
  go_ret
  exact⟨rfl,(Za FIN) _ rfl⟩
def ntR(K:List ByteArray)(N:List Int)(T:List Zk)(P:List TxD)(tip:Int)(b:Zk):Int×Int×Dsk:=
 if opE K N T P tip≠0 then (opE K N T P tip,0,Dsk.none) else
 if (tkR ⟨K,N,T,P,tip,(Zq K N T noB).2⟩ b).1≠0 then ((tkR ⟨K,N,T,P,tip,(Zq K N T noB).2⟩ b).1,0,Dsk.none) else
 (0,(tkR ⟨K,N,T,P,tip,(Zq K N T noB).2⟩ b).2.1,(tkR ⟨K,N,T,P,tip,(Zq K N T noB).2⟩ b).2.2)
def NtkR(w w':World)(x nm:Int)(D:Dsk)(e:Ending):Prop:=
 ∃ ka kn kc na nn nc ba bn bc pa pn pc,e = .returned (.tuple #[.agg #[.slice ka kn kc],.agg #[.slice na nn nc,.slice ba bn bc,.slice pa pn pc,.int .i64 D.tip],.int .i64 nm,.int .i64 x]) /\
  Fresh w.heap.size w' (fun w2=>Ty w2 ka kn D.k na nn D.n ba bn D.t pa pn D.p)/\SlOk ka kn kc/\SlOk na nn nc/\SlOk ba bn bc/\SlOk pa pn pc/\Below w.heap.size w w'
theorem U8(ka:Option Addr)(kn kc:Nat)(K:List ByteArray)(na ba pa:Option Addr)(nn nc bn bc pn pc:Nat)(N:List Int)(T:List Zk)(P:List TxD)(tip:Int)(w:World)(hE:Env w)(hK:Bk.TextsAt w ka kn K)(hN:Tr.IntsAt w na nn N)(hT:Tr.BlksAt w ba bn T)(hP:TxsAt w pa pn P)(sN:SlOk na nn nc)(sT:SlOk ba bn bc)(sP:SlOk pa pn pc)(hp:pn<=2513169434916)(hq:∀ t∈P,Tr.TxSmall t)
  (p hh k o:Int) (a:Option Addr) (n c:Nat) (L:List TxD) (hL:TxsAt w a n L) (sL:SlOk a n c) (x nm:Int) (D:Dsk) (hx:ntR K N T P tip (p,hh,k,o,L)=(x,nm,D)) :
  Calls Tryz.prog 32 #[.agg #[.slice ka kn kc],.agg #[.slice na nn nc,.slice ba bn bc,.slice pa pn pc,.int .i64 tip],.agg #[.int .i64 p,.int .i64 hh,.int .i64 k,.int .i64 o,.slice a n c]] w fun e w'=>NtkR w w' x nm D e:=by
 obtain⟨X,hX⟩:∃ X,X=Z9 w [.cells #[.slice ka kn kc] 24,.cells #[.slice na nn nc,.slice ba bn bc,.slice pa pn pc,.int .i64 tip] 67,.cells #[.int .i64 p,.int .i64 hh,.int .i64 k,.int .i64 o,.slice a n c] 39,.cells #[.slice none 0 0] 24,.cells #[.slice none 0 0,.slice none 0 0,.slice none 0 0,.int .i64 0] 67,.cells #[.int .i64 0] 3]:=⟨_,rfl⟩
 have hX':X=(((((w.alloc (.cells #[.slice ka kn kc] 24)).alloc (.cells #[.slice na nn nc,.slice ba bn bc,.slice pa pn pc,.int .i64 tip] 67)).alloc (.cells #[.int .i64 p,.int .i64 hh,.int .i64 k,.int .i64 o,.slice a n c] 39)).alloc (.cells #[.slice none 0 0] 24)).alloc (.cells #[.slice none 0 0,.slice none 0 0,.slice none 0 0,.int .i64 0] 67)).alloc (.cells #[.int .i64 0] 3):=hX
 have hbX:Below w.heap.size w X:=by rw[hX];exact Zp _ _
 have hXs:X.heap.size=w.heap.size+6:=by rw[hX];exact Yq _ _
 have x0a:X.heap[w.heap.size]? = some (.cells [.slice ka kn kc].toArray 24 (0,0)):=by rw[hX];exact Zm _ w 0 _ rfl
 have x1a:X.heap[w.heap.size+1]? = some (.cells [.slice na nn nc,.slice ba bn bc,.slice pa pn pc,.int .i64 tip].toArray 67 (0,0)):=by rw[hX];exact Zm _ w 1 _ rfl
 have x2a:X.heap[w.heap.size+2]? = some (.cells [.int .i64 p,.int .i64 hh,.int .i64 k,.int .i64 o,.slice a n c].toArray 39 (0,0)):=by rw[hX];exact Zm _ w 2 _ rfl
 have x3a:X.heap[w.heap.size+3]? = some (.cells [.slice none 0 0].toArray 24 (0,0)):=by rw[hX];exact Zm _ w 3 _ rfl
 have x4a:X.heap[w.heap.size+4]? = some (.cells [.slice none 0 0,.slice none 0 0,.slice none 0 0,.int .i64 0].toArray 67 (0,0)):=by rw[hX];exact Zm _ w 4 _ rfl
 have x5a:X.heap[w.heap.size+5]? = some (.cells [.int .i64 0].toArray 3 (0,0)):=by rw[hX];exact Zm _ w 5 _ rfl
 obtain⟨x0,hx0⟩:∃ x0,opE K N T P tip=x0:=⟨_,rfl⟩
 obtain⟨⟨x1,m1,D1⟩,hx1⟩:∃ r,tkR ⟨K,N,T,P,tip,(Zq K N T noB).2⟩ (p,hh,k,o,L)=r:=⟨_,rfl⟩
 have hbad:x1≠0->m1=0:=fun e=>by
  have:=Zff (D:=⟨K,N,T,P,tip,(Zq K N T noB).2⟩) (b:=(p,hh,k,o,L)) (by rw[hx1];exact e)
  rw[hx1] at this
  exact this
 unfold ntR at hx
 simp only[hx0,hx1] at hx
 have C1:=Zb (Rk ka kn kc K na ba pa nn nc bn bc pn pc N T P tip x0 X (hE.later hbX) (hK.later hbX) (hN.later hbX) (hT.later hbX) (hP.later hbX) sN sT sP hp hq hx0 99 #[.pointer (some ⟨w.heap.size+2,0,none⟩),.pointer (some ⟨w.heap.size+5,0,none⟩)] (fun q=>q=w.heap.size+5) x1 D1 (Zew (w.heap.size+5) m1) (fun _=>
  Zfg X (w.heap.size+2) (w.heap.size+5) p hh k o a n c L K N T P tip _ x1 m1 D1 (hE.later hbX) (hL.later hbX) sL x2a x5a hx1))
 have HX:=Zb hx
 have HBAD:=Zb hbad
 have HBX:=Zb hbX
 have HXs:=Zb hXs
 have HX3:=Zb x3a
 have HX4:=Zb x4a
 have HX5:=Zb x5a
 have t0:=Zd x0a 0 _ rfl
 have t1:=Zd x1a 0 _ rfl
 have t2:=Zd x1a 1 _ rfl
 have t3:=Zd x1a 2 _ rfl
 have t4:=Zd x1a 3 _ rfl
 have tl:=lt_of_block x0a
 have tl1:=lt_of_block x1a
 clear hE hK hN hT hP sN sT sP hp hq hx hL sL hx0 hx1 hbad hbX hXs x0a x1a x2a x3a x4a x5a hX
 go_enter Tryz.func32,Tryz.ntmps32
 go_wp2_with fail
 rw[←hX']
 clear hX'
 (try go_wp2_with fail)
 refine (Za C1).mono ?_
 intro e w1 hr
 obtain⟨k5,k5n,k5c,n5,n5n,n5c,b5,b5n,b5c,p5,p5n,p5c,rfl,hF,s1,s2,s3,s4,hb5,g1⟩:∃ k5 k5n k5c n5 n5n n5c b5 b5n b5c p5 p5n p5c,e = .returned (.tuple #[.agg #[.slice k5 k5n k5c],.agg #[.slice n5 n5n n5c,.slice b5 b5n b5c,.slice p5 p5n p5c,.int .i64 D.tip],.int .i64 x]) /\
   Fresh X.heap.size w1 (fun w2=>Ty w2 k5 k5n D.k n5 n5n D.n b5 b5n D.t p5 p5n D.p)/\SlOk k5 k5n k5c/\SlOk n5 n5n n5c/\SlOk b5 b5n b5c/\SlOk p5 p5n p5c /\
   w1.heap[w.heap.size+5]? = some (.cells [.int .i64 nm].toArray 3 (0,0))/\Gr X w1 (fun q=>q=w.heap.size+5):=by
  have hxx:=Za HX
  rcases hr with ⟨h0,⟨k5,k5n,k5c,n5,n5n,n5c,b5,b5n,b5c,p5,p5n,p5c,he,hF,s1,s2,s3,s4⟩,hb⟩|⟨h0,g,hbx,hr⟩
  ·rw[if_pos h0] at hxx
   simp only[Prod.mk.injEq] at hxx
   obtain⟨rfl,rfl,rfl⟩:=hxx
   exact⟨k5,k5n,k5c,n5,n5n,n5c,b5,b5n,b5c,p5,p5n,p5c,he,hF,s1,s2,s3,s4,(hb.block _ (lt_of_block (Za HX5))).trans (Za HX5),Gr.of hb⟩
  ·rw[if_neg (fun q=>q h0)] at hxx
   rcases hr with ⟨h1,k5,k5n,k5c,n5,n5n,n5c,b5,b5n,b5c,p5,p5n,p5c,he,hF,s1,s2,s3,s4⟩|⟨h1,k5,k5n,k5c,n5,n5n,n5c,b5,b5n,b5c,p5,p5n,p5c,he,hF,s1,s2,s3,s4⟩
   ·rw[if_pos h1] at hxx
    simp only[Prod.mk.injEq] at hxx
    obtain⟨rfl,rfl,rfl⟩:=hxx
    have hbz:=(Za HBAD) h1
    subst hbz
    exact⟨k5,k5n,k5c,n5,n5n,n5c,b5,b5n,b5c,p5,p5n,p5c,he,hF,s1,s2,s3,s4,hbx,g⟩
   ·rw[if_neg (fun q=>q h1)] at hxx
    simp only[Prod.mk.injEq] at hxx
    obtain⟨rfl,rfl,rfl⟩:=hxx
    exact⟨k5,k5n,k5c,n5,n5n,n5c,b5,b5n,b5c,p5,p5n,p5c,he,hF,s1,s2,s3,s4,hbx,g⟩
 have h3:=g1.heap (Za HX3) (fun e=>by have e:w.heap.size+3=w.heap.size+5:=e;omega)
 have h4:=g1.heap (Za HX4) (fun e=>by have e:w.heap.size+4=w.heap.size+5:=e;omega)
 have o0:=Zd h3 0 _ rfl
 have of:=Zg h3 0
 have ol:=lt_of_block h3
 have p0:=Zd h4 0 _ rfl
 have p1:=Zd h4 1 _ rfl
 have p2:=Zd h4 2 _ rfl
 have p3:=Zd h4 3 _ rfl
 have pf0:=Zg h4 0
 have pf1:=Zg h4 1
 have pf2:=Zg h4 2
 have pf3:=Zg h4 3
 have pl:=lt_of_block h4
 obtain⟨V,hV⟩:∃ V,V=((((w1.setCell ⟨w.heap.size+1+1+1,0,none⟩ (.slice k5 k5n k5c)).setCell ⟨w.heap.size+1+1+1+1,0,none⟩ (.slice n5 n5n n5c)).setCell ⟨w.heap.size+1+1+1+1,1,none⟩ (.slice b5 b5n b5c)).setCell ⟨w.heap.size+1+1+1+1,2,none⟩ (.slice p5 p5n p5c)).setCell ⟨w.heap.size+1+1+1+1,3,none⟩ (.int .i64 D.tip):=⟨_,rfl⟩
 have gV:Gr w1 V (fun q=>q=w.heap.size+3∨q=w.heap.size+4∨q=w.heap.size+5):=by
  rw[hV]
  exact ((Gr.refl w1 (fun q=>q=w.heap.size+3∨q=w.heap.size+4∨q=w.heap.size+5)).one (w.heap.size+3) 0 (.inl (.inl rfl)) _).four (w.heap.size+4) (.inl (.inr (.inl rfl))) _ _ _ _
 have v5:V.heap[w.heap.size+5]? = some (.cells [.int .i64 nm].toArray 3 (0,0)):=by
  rw[hV]
  have g:Gr w1 (((((w1.setCell ⟨w.heap.size+1+1+1,0,none⟩ (.slice k5 k5n k5c)).setCell ⟨w.heap.size+1+1+1+1,0,none⟩ (.slice n5 n5n n5c)).setCell ⟨w.heap.size+1+1+1+1,1,none⟩ (.slice b5 b5n b5c)).setCell ⟨w.heap.size+1+1+1+1,2,none⟩ (.slice p5 p5n p5c)).setCell ⟨w.heap.size+1+1+1+1,3,none⟩ (.int .i64 D.tip)) (fun q=>q=w.heap.size+3∨q=w.heap.size+4):=
   ((Gr.refl w1 (fun q=>q=w.heap.size+3∨q=w.heap.size+4)).one (w.heap.size+3) 0 (.inl (.inl rfl)) _).four (w.heap.size+4) (.inl (.inr rfl)) _ _ _ _
  exact g.heap hb5 (fun e=>by omega)
 have v4:V.heap[w.heap.size+4]? = some (.cells [.slice n5 n5n n5c,.slice b5 b5n b5c,.slice p5 p5n p5c,.int .i64 D.tip].toArray 67 (0,0)):=by
  rw[hV]
  have g:Gr w1 (w1.setCell ⟨w.heap.size+1+1+1,0,none⟩ (.slice k5 k5n k5c)) (fun q=>q=w.heap.size+3):=(Gr.refl w1 (fun q=>q=w.heap.size+3)).one (w.heap.size+3) 0 (.inl rfl) _
  exact Tr.set_cells (Tr.set_cells (Tr.set_cells (Tr.set_cells (g.heap h4 (fun e=>by have e:w.heap.size+4=w.heap.size+3:=e;omega)) 0 _) 1 _) 2 _) 3 _
 have v3:V.heap[w.heap.size+3]? = some (.cells [.slice k5 k5n k5c].toArray 24 (0,0)):=by
  rw[hV]
  have g:Gr (w1.setCell ⟨w.heap.size+1+1+1,0,none⟩ (.slice k5 k5n k5c)) (((((w1.setCell ⟨w.heap.size+1+1+1,0,none⟩ (.slice k5 k5n k5c)).setCell ⟨w.heap.size+1+1+1+1,0,none⟩ (.slice n5 n5n n5c)).setCell ⟨w.heap.size+1+1+1+1,1,none⟩ (.slice b5 b5n b5c)).setCell ⟨w.heap.size+1+1+1+1,2,none⟩ (.slice p5 p5n p5c)).setCell ⟨w.heap.size+1+1+1+1,3,none⟩ (.int .i64 D.tip)) (fun q=>q=w.heap.size+4):=(Gr.refl (w1.setCell ⟨w.heap.size+1+1+1,0,none⟩ (.slice k5 k5n k5c)) (fun q=>q=w.heap.size+4)).four (w.heap.size+4) (.inl rfl) _ _ _ _
  exact g.heap (Tr.set_cells h3 0 _) (fun e=>by have e:w.heap.size+3=w.heap.size+4:=e;omega)
 have HV3:=Zb v3
 have HV4:=Zb v4
 have HV5:=Zb v5
 have GV:=Zb gV
 have FIN:Hid (∀ W,Gr w1 W (fun q=>q=w.heap.size+3∨q=w.heap.size+4∨q=w.heap.size+5)->NtkR w W x nm D (.returned (.tuple #[.agg #[.slice k5 k5n k5c],.agg #[.slice n5 n5n n5c,.slice b5 b5n b5c,.slice p5 p5n p5c,.int .i64 D.tip],.int .i64 nm,.int .i64 x]))):=fun W g=>by
  have hxs:=Za HXs
  refine⟨k5,k5n,k5c,n5,n5n,n5c,b5,b5n,b5c,p5,p5n,p5c,rfl,fun W2 g2=>hF W2 ((g.mono (fun q _ e=>?_)).trans (g2.mono (fun q _ e=>?_))),s1,s2,s3,s4,?_⟩
  ·show q<X.heap.size;omega
  ·have e:q<w.heap.size:=e;show q<X.heap.size;omega
  ·have gX:Gr w X (fun q=>False):=Gr.of (Za HBX)
   have gW:Gr w W (fun _=>False):=(gX.far g1 (fun q e=>.inl (by have e:q=w.heap.size+5:=e;omega))).far g (fun q e=>.inl (by omega))
   exact gW.below (Below.refl _ _) (Nat.le_refl _) (fun _ q=>q.elim)
 clear hr hF s1 s2 s3 s4 hb5 g1 h3 h4 v3 v4 v5 gV HX HBAD HX3 HX4 HX5 C1 t0 t1 t2 t3 t4 tl tl1 HXs HBX
 go_upto_region 2 with fail
 rw[←hV]
 clear hV o0 of ol p0 p1 p2 p3 pf0 pf1 pf2 pf3 pl
 have v3:=Za HV3
 have v4:=Za HV4
 have v5:=Za HV5
 have o0:=Zd v3 0 _ rfl
 have of:=Zg v3 0
 have ol:=lt_of_block v3
 have p0:=Zd v4 0 _ rfl
 have p1:=Zd v4 1 _ rfl
 have p2:=Zd v4 2 _ rfl
 have p3:=Zd v4 3 _ rfl
 have pf0:=Zg v4 0
 have pf1:=Zg v4 1
 have pf2:=Zg v4 2
 have pf3:=Zg v4 3
 have pl:=lt_of_block v4
 have q0:=Zd v5 0 _ rfl
 have qf0:=Zg v5 0
 have ql:=lt_of_block v5
 clear v3 v4 v5 HV3 HV4 HV5
 go_region
 all_goals
  go_wp2
  (try simp only[Exit.inBlock,Exit.then])
  refine bodyPost_ret (v:=.tuple #[.agg #[.slice k5 k5n k5c],.agg #[.slice n5 n5n n5c,.slice b5 b5n b5c,.slice p5 p5n p5c,.int .i64 D.tip],.int .i64 nm,.int .i64 x]) ?_ rfl ?_
  ·rw[R8 rfl]
   go_simp
  ·exact (Za FIN) _ ((((((Za GV).one (w.heap.size+3) 0 (.inl (.inl rfl)) _).four (w.heap.size+4) (.inl (.inr (.inl rfl))) _ _ _ _).one (w.heap.size+5) 0 (.inl (.inr (.inr rfl))) _).trans (Gr.of (Zj _))))
open Bk (Right nm nmGo nameR place)
def Chn(K:List ByteArray)(h:Int):List Zh->List TxD->List Zh->Prop
 | C,[],D=>C=D
 | C,t::l,D=>∃ C' s n,Zx t=0/\t.2.1.length≠0/\nm K (Z5 t)=(K,n,0)/\apD C t n h=(0,C',s)/\Chn K h C' l D
theorem Zdk{K:List ByteArray}(hK:Right K)(s:ByteArray):nameR K s=nm K s:=by unfold Bk.nameR;rw[if_pos ((Bk.right_iff K).2 hK)]
theorem Ur{t:TxD}(h:Zx t=0):txT t=Z5 t:=by unfold txT;rw[if_pos h]
theorem P7{h:Int}{K:List ByteArray}(hK:Right K):∀ (S:List TxD) (C C1:List Zh),Zs h S (K,C)=(S,K,C1)->Chn K h C S C1
 | [],C,C1,e=>by
  rw[Zs] at e
  exact (Prod.mk.inj (Prod.mk.inj e).2).2
 | t :: l,C,C1,e=>by
  rw[Zs] at e
  by_cases q:(doD h (K,C) t).1=0
  ·rw[if_pos q] at e
   injection e with e1 e2
   injection e1 with _ e1
   have e3:Zs h l (doD h (K,C) t).2=(l,K,C1):=Prod.ext e1 e2
   obtain⟨⟨x,K',C'⟩,hd⟩:∃ r,doD h (K,C) t=r:=⟨_,rfl⟩
   rw[hd] at q e3
   simp only at q e3
   subst q
   obtain⟨d1,⟨M,rfl⟩,_⟩:=Tn hK hd
   obtain⟨_,M2,s2⟩:=Wh (h:=h) l (K++M) C' d1
   rw[e3] at s2
   have hM:M=[]:=by
    have s3:K=K++M++M2:=s2
    have:=congrArg List.length s3
    rw[List.length_append,List.length_append] at this
    exact List.length_eq_zero_iff.1 (by omega)
   subst hM
   rw[List.append_nil] at hd e3
   obtain⟨p1,p2,n,s,p3,p4⟩:=Tm hd
   rw[Zdk hK,Ur p1] at p3
   exact ⟨C',s,n,p1,p2,p3,p4,P7 hK l C' C1 e3⟩
  ·rw[if_neg q] at e
   have h1:=congrArg (fun r=>r.1.length) e
   have h2:=Jn h l (K,C)
   have h3:=congrArg List.length (Ud h l (K,C))
   rw[List.length_map] at h3
   simp only[List.length_cons] at h1
   omega
theorem Lw{h:Int}{K:List ByteArray}{C C1:List Zh}{S:List TxD}(hc:Chn K h C S C1):∀ t∈S,(nm K (Z5 t)).1=K/\(nm K (Z5 t)).2.2=0:=by
 induction S generalizing C with
 |nil=>intro t q;cases q
 |cons t l ih=>
  obtain⟨_,_,_,_,_,h3,_,h5⟩:=hc;intro x hx
  rcases List.mem_cons.1 hx with rfl|hx
  ·rw[h3];exact⟨rfl,rfl⟩
  ·exact ih h5 x hx
theorem Dl{K:List ByteArray}:∀ (l:List ByteArray) (acc:List Int),(∀ s∈l,s.size<=4000/\0<Bk.place s K)->Bk.nmGo K acc l=(K,acc++l.map (fun s=>(Bk.place s K:Int)),0)
 | [],acc,_=>by rw[Bk.nmGo];simp
 | s :: r,acc,h=>by
  have hs:=h s (by simp)
  have e:=Bk.nm_there hs.1 hs.2
  rw[Bk.nmGo,e]
  simp only[if_true]
  rw[Dl r _ (fun x hx=>h x (by simp[hx]))]
  simp
theorem Wb{K:List ByteArray}{s:Int}{b:Zk}(h:kbD K s b=true):Yt b=0/\(Bk.place (Pr b) K:Int)=s/\∀ t∈b.2.2.2.2,Zx t=0/\Bk.place (txT t) K≠0:=by
 unfold kbD at h
 simp only[Bool.and_eq_true,decide_eq_true_eq,List.all_eq_true] at h
 refine⟨h.1,h.2.1,fun t ht=>?_⟩
 have:=h.2.2 t ht
 unfold knT at this
 simpa using this
theorem Dp{K:List ByteArray}{s:Int}{b:Zk}(h1:Yt b=0)(h2:(Bk.place (Pr b) K:Int)=s)(h3:∀ t∈b.2.2.2.2,Zx t=0/\Bk.place (txT t) K≠0):kbD K s b=true:=by
 unfold kbD
 simp only[Bool.and_eq_true,decide_eq_true_eq,List.all_eq_true]
 refine⟨h1,h2,fun t ht=>?_⟩
 unfold knT
 simpa using h3 t ht
theorem Ui{K M:List ByteArray}{s:Int}{b:Zk}(h0:s≠0)(h:kbD K s b=true):kbD (K++M) s b=true:=by
 obtain⟨h1,h2,h3⟩:=Wb h
 refine Dp h1 ?_ (fun t ht=>⟨(h3 t ht).1,?_⟩)
 ·rw[Bk.place_stays M (by omega)];exact h2
 ·have:=(h3 t ht).2
  rw[Bk.place_stays M (by omega)];exact this
theorem Sr{b:Zk}(h:Yt b=0):Pr b=Xt b:=by unfold Pr;rw[if_pos h]
theorem F9{K:List ByteArray}(hK:Bk.Right K){s:ByteArray}(h:0<Bk.place s K):s.size<=4000:=by
 have hm:s∈K:=Classical.byContradiction fun q=>by have:=Bk.place_zero.2 q;omega
 exact hK.2.2 s hm
theorem U7{K:List ByteArray}(hK:Bk.Right K){s:Int}{b:Zk}(h0:s≠0)(h:kbD K s b=true):Xf K b=(K,s,b.2.2.2.2.map (fun t=>(Bk.place (Z5 t) K:Int)),0):=by
 obtain⟨h1,h2,h3⟩:=Wb h
 have hall:Bk.allR K (Yc b)=(K,(Yc b).map (fun s=>(Bk.place s K:Int)),0):=by
  unfold Bk.allR
  rw[if_pos ((Bk.right_iff K).2 hK)]
  have:=Dl (K:=K) (Yc b) [] (fun x hx=>by
   have hp:0<Bk.place x K:=by
    unfold Yc at hx
    rcases List.mem_append.1 hx with q|q
    ·obtain⟨t,ht,rfl⟩:=List.mem_map.1 q
     have:=h3 t ht
     rw[Ur this.1] at this
     omega
    ·have e:x=Xt b:=by simpa using q
     rw[e,←Sr h1]
     omega
   exact⟨F9 hK hp,hp⟩)
  simpa using this
 unfold Xf
 rw[if_neg (by rw[h1];decide),hall]
 simp only[ne_eq,not_true_eq_false,if_false]
 rw[Sr h1] at h2
 refine Prod.ext rfl (Prod.ext ?_ (Prod.ext ?_ rfl))
 ·simp only[Yc,List.map_append,List.map_map,List.map_cons,List.map_nil]
  rw[List.getD_eq_getElem?_getD,List.getElem?_append_right (by simp)]
  simp[h2]
 ·simp only[Yc,List.map_append,List.map_map,List.map_cons,List.map_nil]
  rw[List.take_append_of_le_length (by simp)]
  simp[List.take_of_length_le,Function.comp_def]
theorem Lu{K M:List ByteArray}(hK:Bk.Right K)(hM:Bk.Right (K++M)){s:Int}{b:Zk}(h0:s≠0)(h:kbD K s b=true)(C:List Zh):Wf (K++M) C b=Wf K C b:=by
 have e1:=U7 hK h0 h
 have e2:=U7 hM h0 (Ui h0 h)
 obtain⟨_,_,h3⟩:=Wb h
 have e3:b.2.2.2.2.map (fun t=>(Bk.place (Z5 t) (K++M):Int))=b.2.2.2.2.map (fun t=>(Bk.place (Z5 t) K:Int)):=List.map_congr_left (fun t ht=>by
  have:=h3 t ht
  rw[Ur this.1] at this
  rw[Bk.place_stays M (by omega)])
 have en:nfD (K++M) C b=nfD K C b:=by
  unfold nfD
  rw[e1,e2,e3]
 unfold Wf
 rw[en]
theorem Jk{K M:List ByteArray}(hK:Bk.Right K)(hM:Bk.Right (K++M)):∀ (N:List Int) (T:List Zk) (β : Int->List Zh),(∀ x∈N,x≠0)->(Zq K N T β).1=0->Zq (K++M) N T β = Zq K N T β
 | [],_,β,_,_=>rfl
 | _ :: _,[],β,_,_=>rfl
 | s :: N,b :: T,β,hn,h=>by
  have h0:=hn s (by simp)
  rw[Zq] at h ⊢
  rw[Zq]
  split at h
  ·cases h
  rename_i q1
  have q1:kbD K s b=true:=by simpa using q1
  split at h
  ·rename_i q;exact absurd h q
  rename_i q2
  rw[Ui h0 q1,Lu hK hM h0 q1,q1]
  simp only[Bool.true_eq_false,if_false,if_neg q2]
  exact Jk hK hM N T _ (fun x hx=>hn x (by simp[hx])) h
theorem Gw:∀ (l L:List ByteArray) (N:List Int) (M:List ByteArray) (N':List Int),Bk.nmGo L N l=(M,N',0)->N'=N++l.map (fun s=>(Bk.place s M:Int))/\∀ s∈l,0<Bk.place s M
 | [],L,N,M,N',h=>by
  rw[Bk.nmGo] at h
  simp only[Prod.mk.injEq,and_true] at h
  obtain⟨_,rfl⟩:=h
  simp
 | s :: r,L,N,M,N',h=>by
  rw[Bk.nmGo] at h
  split at h
  ·rename_i q
   obtain⟨p1,p2,_⟩:=Bk.nm_place q
   obtain⟨e1,e2⟩:=Gw r _ _ M N' h
   have hg:=Bk.nmGo_grows r (Bk.nm L s).1 (N++[(Bk.nm L s).2.1]) (by rw[h])
   obtain⟨M2,hM2⟩:=hg
   rw[h] at hM2
   have hM2:M=(Bk.nm L s).1++M2:=hM2
   have hs:Bk.place s M=Bk.place s (Bk.nm L s).1:=by rw[hM2];exact Bk.place_stays M2 p2
   refine⟨?_,fun x hx=>?_⟩
   ·rw[e1,p1,←hs];simp
   ·rcases List.mem_cons.1 hx with rfl|hx
    ·rw[hs];exact p2
    ·exact e2 x hx
  ·rename_i q
   simp only[Prod.mk.injEq] at h
   exact absurd h.2.2 q
theorem Zal{b:Zk}(h:Yt b=0):∀ t∈b.2.2.2.2,Zx t=0:=by
 obtain⟨p,hh,k,n,L⟩:=b
 exact (Vr h).2.2.2.2
theorem Zab{K K1:List ByteArray}{b:Zk}{s:Int}{Ns:List Int}(hK:Bk.Right K)(h:Xf K b=(K1,s,Ns,0)):Bk.Right K1/\(∃ M,K1=K++M)/\kbD K1 s b=true/\s≠0:=by
 unfold Xf at h
 split at h
 ·rename_i q
  simp only[Prod.mk.injEq] at h
  exact absurd h.2.2.2 q
 rename_i hc
 have hc:=Decidable.not_not.1 hc
 split at h
 ·rename_i q
  simp only[Prod.mk.injEq] at h
  exact absurd h.2.2.2 q
 rename_i ha
 have ha:=Decidable.not_not.1 ha
 simp only[Prod.mk.injEq] at h
 obtain⟨h1,h2,_,_⟩:=h
 obtain⟨⟨A,B,z⟩,hr⟩:∃ r,Bk.allR K (Yc b)=r:=⟨_,rfl⟩
 rw[hr] at h1 h2 ha
 have ha:z=0:=ha
 subst ha
 have h1:A=K1:=h1
 subst h1
 have hr2:Bk.nmGo K [] (Yc b)=(A,B,0):=by
  unfold Bk.allR at hr
  rw[if_pos ((Bk.right_iff K).2 hK)] at hr
  exact hr
 have hg:=Bk.nmGo_grows (Yc b) K [] (by rw[hr2])
 have hR:=Bk.nmGo_right (Yc b) K [] hK (by rw[hr2])
 rw[hr2] at hg hR
 obtain⟨e1,e2⟩:=Gw _ _ _ _ _ hr2
 have hb:0<Bk.place (Xt b) A:=e2 _ (by unfold Yc;simp)
 have hs:s=(Bk.place (Xt b) A:Int):=by
  rw[←h2,e1]
  simp only[Yc,List.map_append,List.map_map,List.map_cons,List.map_nil,List.nil_append]
  rw[List.getD_eq_getElem?_getD,List.getElem?_append_right (by simp)]
  simp
 refine⟨hR,hg,Dp hc (by rw[Sr hc];exact hs.symm) (fun t ht=>?_),by omega⟩
 have htx:=(Zal hc t ht)
 refine⟨htx,?_⟩
 rw[Ur htx]
 have:=e2 (Z5 t) (by unfold Yc;simp only[List.mem_append,List.mem_map];exact .inl ⟨t,ht,rfl⟩)
 omega
theorem Cz{K:List ByteArray}{s:Int}{b:Zk}:∀ (N:List Int) (T:List Zk) (β γ : Int->List Zh),N.length=T.length->Zq K N T β = (0,γ)->kbD K s b=true->(Wf K (γ b.1) b).1=0->Zq K (N++[s]) (T++[b]) β = (0,Xq γ s (Wf K (γ b.1) b).2.1)
 | [],[],β,γ,_,h,h1,h2=>by
  rw[Zq] at h
  simp only[Prod.mk.injEq,true_and] at h
  subst h
  show Zq K [s] [b] β = _
  rw[Zq,h1,Zq]
  simp[h2]
 | [],_ :: _,β,γ,hl,_,_,_=>by simp at hl
 | _ :: _,[],β,γ,hl,_,_,_=>by simp at hl
 | x :: N,c :: T,β,γ,hl,h,h1,h2=>by
  rw[Zq] at h
  show Zq K (x :: (N++[s])) (c :: (T++[b])) β = _
  rw[Zq]
  split at h
  ·cases h
  rename_i q1
  rw[if_neg q1]
  split at h
  ·rename_i q;exact absurd (congrArg Prod.fst h) q
  rename_i q2
  rw[if_neg q2]
  exact Cz N T _ γ (by simpa using hl) h h1 h2
theorem Zdr{N:List Int}{T:List Zk}(hc:Tr.chkTr N T=0):∀ (n k:Nat) (_:k<N.length) (h':k<T.length),k<=n->T[k].2.1<=(k:Int)+1
 | n,k,h,h',hn=>by
  have ok:=Tr.TrOk.of hc
  obtain⟨a1,a2⟩:=Tr.ahead hc k h h'
  have p:=ok.hgt N[k] (List.getElem_mem h)
  rw[a1] at p
  rcases a2 with e|e
  ·rw[e,Tr.fnd_out ok.len ok.zero] at p
   have:T[k].2.1=0+1:=p
   omega
  ·obtain⟨j,hj,ej⟩:=List.getElem_of_mem e
   have hj':j<k:=by rw[List.length_take] at hj;omega
   rw[List.getElem_take] at ej
   have hjT:j<T.length:=by omega
   have b1:=(Tr.ahead hc j (by omega) hjT).1
   match n,hn with
   | 0,hn=>omega
   | n+1,hn=>
    have ih:=Zdr hc n j (by omega) hjT (by omega)
    rw[←ej,b1] at p
    omega
theorem Ca{N:List Int}{T:List Zk}{t:Int}(h:Tr.bstD N T=(t,0)):0<=Ya N T t/\Ya N T t<=24:=by
 obtain⟨hc,ht⟩:=Yh h
 have ok:=Tr.TrOk.of hc
 have hb:=(Jx h).2.1
 have h24:=(Wp hc).2.1
 refine⟨hb,?_⟩
 unfold Ya Tr.blockE
 rw[if_neg (fun q=>q hc)]
 split
 ·rename_i q
  have q:t∈N:=by simpa using q
  obtain⟨k,hk,rfl⟩:=List.getElem_of_mem q
  have hkT:k<T.length:=by rw[←ok.len];exact hk
  have:=Zdr hc k k hk hkT (Nat.le_refl _)
  simp only
  rw[(Tr.ahead hc k hk hkT).1]
  omega
 ·show (0:Int)<=24
  decide
theorem Af{K:List ByteArray}{C:List Zh}{P:List TxD}{h:Int}(e:swE K C P h=0){N:List Int}{T:List Zk}{t:Int}{β : Int->List Zh}(hC : β t=C)(hh:Ya N T t+1=h):poE (Zs h P (K,C)).2.1 N T (Zs h P (K,C)).1 t β = 0:=by
 obtain⟨o,hl⟩:=Uw e
 obtain⟨hK,hRC,h1,h2⟩:=Vx o
 obtain⟨r1,_⟩:=Wh P K C hK (h:=h)
 have ag:=R4 P K C [] hK (h:=h) (by rw[List.append_nil];exact r1)
 rw[List.append_nil] at ag
 obtain⟨⟨P2,K2,C2⟩,hr⟩:∃ r,Zs h P (K,C)=r:=⟨_,rfl⟩
 have hlen:P2.length<=P.length:=by
  have:=Jn h P (K,C)
  have e2:=congrArg List.length (Ud h P (K,C))
  rw[List.length_map,hr] at e2
  have e2:(swT h P (K,C)).length=P2.length:=e2
  omega
 have hall:=(Q0 P K C hK hRC (h:=h)).2.2
 rw[hr] at ag r1 hall ⊢
 simp only at ag r1 hall ⊢
 have ck:=Lw (P7 r1 P2 C C2 ag)
 unfold poE
 split
 ·rfl
 have hkn:P2.all (knT K2)=true:=List.all_eq_true.2 (fun x hx=>by
  have c1:=(hall x hx).1
  have c2:=ck x hx
  have c3:=Bk.nm_place c2.2
  rw[c2.1] at c3
  unfold knT
  rw[Ur c1]
  have:=c3.2.1
  simp[c1]
  omega)
 rw[if_neg (by rw[hkn];decide),hC,hh,ag]
 have hsw:swE K2 C P2 h=0:=by
  unfold swE
  rw[Tf r1 hRC h1 h2]
  simp
  omega
 rw[if_neg (by rw[hsw];decide)]
 simp
theorem Uv{K:List ByteArray}{N:List Int}{T:List Zk}{P:List TxD}{tip:Int}{b:Zk}{nm:Int}{D:Dsk}(h:opE K N T P tip=0)(e:tkR ⟨K,N,T,P,tip,(Zq K N T noB).2⟩ b=(0,nm,D)) :
  opE D.k D.n D.t D.p D.tip=0/\(Zq D.k D.n D.t noB).2=D.β/\D.n=N++[nm]/\D.t=T++[b]/\kbD D.k nm b=true/\(∃ M,D.k=K++M)/\Tr.addE N T nm b=(D.n,D.t,0):=by
 obtain⟨o1,o2,o3,_⟩:=Yf h
 have hK:=(Bk.right_iff K).1 o1
 obtain⟨⟨K1,s,Ns,x1⟩,h1⟩:∃ r,Xf K b=r:=⟨_,rfl⟩
 obtain⟨⟨N1,T1,x2⟩,h2⟩:∃ r,Tr.addE N T s b=r:=⟨_,rfl⟩
 obtain⟨⟨x3,C3,U3⟩,h3⟩:∃ r,Wf K1 ((Zq K N T noB).2 b.1) b=r:=⟨_,rfl⟩
 obtain⟨⟨t,x4⟩,h4⟩:∃ r,Tr.bstD N1 T1=r:=⟨_,rfl⟩
 obtain⟨z,hz⟩:∃ z,Ya N1 T1 t=z:=⟨_,rfl⟩
 unfold tkR at e
 simp only[h1,h2,h3,h4,hz] at e
 split at e
 ·rename_i q;exact absurd (congrArg Prod.fst e) q
 rename_i q1;have q1:=Decidable.not_not.1 q1;subst q1
 split at e
 ·rename_i q;exact absurd (congrArg Prod.fst e) q
 rename_i q2;have q2:=Decidable.not_not.1 q2;subst q2
 split at e
 ·rename_i q;exact absurd (congrArg Prod.fst e) q
 rename_i q3;have q3:=Decidable.not_not.1 q3;subst q3
 split at e
 ·rename_i q;exact absurd (congrArg Prod.fst e) q
 rename_i q4;have q4:=Decidable.not_not.1 q4;subst q4
 split at e
 ·rename_i q;exact absurd (congrArg Prod.fst e) q
 rename_i q5;have q5:=Decidable.not_not.1 q5
 obtain⟨k1,⟨M1,hM1⟩,k3,k4⟩:=Zab hK h1
 obtain⟨hc,_,_,a1,a2⟩:=Tr.addE_ok h2
 have ok:=Tr.TrOk.of hc
 have hn0:∀ x∈N,x≠0:=fun x hx=>by have:=(ok.nm x hx).1;omega
 have cb0:Zq K1 N T noB=(0,(Zq K N T noB).2):=by
  rw[hM1,Jk hK (hM1 ▸ k1) N T noB hn0 o3]
  exact Prod.ext o3 rfl
 have cb1:=Cz N T noB _ ok.len cb0 k3 (by rw[h3])
 rw[h3,←a1,←a2] at cb1
 have hz24:=Ca h4
 rw[hz] at hz24
 have hsm:¬1000<z+1:=by omega
 obtain⟨γ,hγ⟩:∃ γ,Xq (Zq K N T noB).2 s C3 = γ:=⟨_,rfl⟩
 simp only[hγ] at e q5 cb1
 unfold Pj at e q5
 rw[if_neg hsm] at e q5
 simp only at e q5
 have hF:swF K1 (γ t) P (z+1) (swE K1 (γ t) P (z+1))=((Zs (z+1) P (K1,γ t)).2.1,(Zs (z+1) P (K1,γ t)).1,(Zs (z+1) P (K1,γ t)).2.2,Zo (γ t) - Zo (Zs (z+1) P (K1,γ t)).2.2):=by
  unfold swF
  rw[if_pos q5]
 rw[hF] at e
 simp only[Prod.mk.injEq,true_and] at e
 obtain⟨rfl,rfl⟩:=e
 simp only
 obtain⟨r1,M2,hM2⟩:=Wh P K1 (γ t) k1 (h:=z+1)
 have hn1:∀ x∈N1,x≠0:=fun x hx=>by have:=((Tr.TrOk.of (Yh h4).1).nm x hx).1;omega
 have cb2:Zq (Zs (z+1) P (K1,γ t)).2.1 N1 T1 noB=(0,γ):=by
  rw[hM2,Jk k1 (hM2 ▸ r1) N1 T1 noB hn1 (by rw[cb1])]
  exact cb1
 have po:=Af q5 (N:=N1) (T:=T1) (t:=t) (β:=γ) rfl (by rw[hz])
 refine⟨?_,by rw[cb2],a1,a2,by rw[hM2];exact Ui k4 k3,⟨M1++M2,by rw[hM2,hM1,List.append_assoc]⟩,h2⟩
 unfold opE
 rw[if_neg (by rw[(Bk.right_iff _).2 r1];decide),h4]
 simp only[ne_eq,not_true_eq_false,if_false,cb2]
 exact po
end Go.Proofs.YtmomfkikogbdeaaGreatDoor
