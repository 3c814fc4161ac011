import Derived.Test.YtmomfkikogbdeaaGreatDoorG41
import Derived.Deep.SlicePairs
import Derived.HandedShaped
import Derived.LaidMore
import Derived.Stop.Joined
namespace Go.Proofs.YtmomfkikogbdeaaGreatDoor
open Go.RowKit
def kn1:Int×Zk×Dsk:=nmR [] [] [] [] 0 2 0 []
def kn2:Int×Zk×Dsk:=nmR kn1.2.2.k kn1.2.2.n kn1.2.2.t kn1.2.2.p kn1.2.2.tip 3 0 []
def knC:List Zh:=(Zq kn2.2.2.k kn2.2.2.n kn2.2.2.t noB).2 kn2.2.2.tip
theorem kn1_x:kn1.1=0:=by kernel_rfl
theorem kn1_h:kn1.2.1.2.1=1:=by kernel_rfl
theorem kn1_p:kn1.2.2.p=[]:=by kernel_rfl
theorem kn2_x:kn2.1=0:=by kernel_rfl
theorem kn2_q:kn2.2.1.1≠0:=by
 have h:kn2.2.1.1=2:=by kernel_rfl
 rw[h];decide
theorem kn2_h:kn2.2.1.2.1=2:=by kernel_rfl
theorem kn2_p:kn2.2.2.p=[]:=by kernel_rfl
theorem kn2_o:opE kn2.2.2.k kn2.2.2.n kn2.2.2.t kn2.2.2.p kn2.2.2.tip=0:=by kernel_rfl
theorem Zgd:knC.length=2:=by kernel_rfl
theorem Zin:Zy knC=0:=by kernel_rfl
theorem Zgc:Zo (knC.filter (ofK []))=128:=by kernel_rfl
set_option maxRecDepth 10000 in
set_option maxHeartbeats 12800000 in
theorem W9(w:World)(hE:Env w):Calls Tryz.prog 33 #[] w fun e w'=>e = .returned (.bool true)∧Below w.heap.size w w':=by
 obtain⟨⟨x1,⟨q1,h1,r1,o1,L1⟩,D⟩,hk1⟩:∃ r,kn1=r:=⟨_,rfl⟩
 obtain⟨⟨x2,⟨q2,h2,r2,o2,L2⟩,E⟩,hk2⟩:∃ r,kn2=r:=⟨_,rfl⟩
 obtain⟨C,hC⟩:∃ C,knC=C:=⟨_,rfl⟩
 obtain rfl:0=x1:=by rw[←kn1_x,hk1]
 obtain rfl:1=h1:=by rw[←kn1_h,hk1]
 have hDp:D.p=[]:=by have:=kn1_p;rw[hk1] at this;exact this
 obtain rfl:0=x2:=by rw[←kn2_x,hk2]
 obtain rfl:2=h2:=by rw[←kn2_h,hk2]
 have hEp:E.p=[]:=by have:=kn2_p;rw[hk2] at this;exact this
 have hq2:q2≠0:=by have:=kn2_q;rw[hk2] at this;exact this
 have hEo:opE E.k E.n E.t E.p E.tip=0:=by have:=kn2_o;rw[hk2] at this;exact this
 have hn2:nmR D.k D.n D.t D.p D.tip 3 0 []=(0,(q2,2,r2,o2,L2),E):=by
  have:=hk2
  unfold kn2 at this
  rw[hk1] at this
  exact this
 have hCE:(Zq E.k E.n E.t noB).2 E.tip=C:=by
  have:=hC
  unfold knC at this
  rw[hk2] at this
  exact this
 have hCl:C.length=2:=hC ▸ Zgd
 have hCk:Zy C=0:=hC ▸ Zin
 have hCs:Zo (C.filter (ofK []))=128:=hC ▸ Zgc
 have C1:=Zb (G0 none 0 0 [] none none none 0 0 0 0 0 0 [] [] [] 0 w hE (Bk.TextsAt.nil _ _) ⟨rfl,fun h=>absurd h (by decide)⟩ (RowsAt.nil _ _) (RowsAt.nil _ _) Zw Zw Zw (by decide) (fun t h=>by cases h) 2 0 none 0 0 [] ⟨rfl,fun h=>absurd h (by decide)⟩ Zw (by decide) 0 (q1,1,r1,o1,L1) D hk1)
 have HE:=Zb hE
 have HDp:=Zb hDp
 have HEp:=Zb hEp
 have HEo:=Zb hEo
 have HN2:=Zb hn2
 have HCE:=Zb hCE
 have HCl:=Zb hCl
 have HCk:=Zb hCk
 have HCs:=Zb hCs
 have gq2:(q2 != 0)=true:=by simp[hq2]
 clear hE hk1 hk2 hC hDp hEp hq2 hEo hn2 hCE hCl hCk hCs
 go_enter Tryz.func33,Tryz.ntmps33
 go_wp2_with fail
 refine (Za C1).mono ?_
 rintro e w1 ⟨k1,k1n,k1c,n1,n1n,n1c,t1,t1n,t1c,p1,p1n,p1c,a1,l1,c1,rfl,hF1,s11,s12,s13,s14,s15,hb1⟩
 dsimp only[Qy]
 obtain⟨X,hX⟩:∃ X,X=Z9 w1 [.cells #[.slice k1 k1n k1c] 24,.cells #[.slice n1 n1n n1c,.slice t1 t1n t1c,.slice p1 p1n p1c,.int .i64 D.tip] 67,.cells #[.int .i64 q1,.int .i64 1,.int .i64 r1,.int .i64 o1,.slice a1 l1 c1] 39]:=⟨_,rfl⟩
 have hX':X=((w1.alloc (.cells #[.slice k1 k1n k1c] 24)).alloc (.cells #[.slice n1 n1n n1c,.slice t1 t1n t1c,.slice p1 p1n p1c,.int .i64 D.tip] 67)).alloc (.cells #[.int .i64 q1,.int .i64 1,.int .i64 r1,.int .i64 o1,.slice a1 l1 c1] 39):=hX
 have hbX:Below w1.heap.size w1 X:=by rw[hX];exact Zp _ _
 have hXs:X.heap.size=w1.heap.size+3:=by rw[hX];exact Yq _ _
 have x0:X.heap[w1.heap.size]? = some (.cells [.slice k1 k1n k1c].toArray 24 (0,0)):=by rw[hX];exact Zm _ w1 0 _ rfl
 have x1:X.heap[w1.heap.size+1]? = some (.cells [.slice n1 n1n n1c,.slice t1 t1n t1c,.slice p1 p1n p1c,.int .i64 D.tip].toArray 67 (0,0)):=by rw[hX];exact Zm _ w1 1 _ rfl
 have x2:X.heap[w1.heap.size+2]? = some (.cells [.int .i64 q1,.int .i64 1,.int .i64 r1,.int .i64 o1,.slice a1 l1 c1].toArray 39 (0,0)):=by rw[hX];exact Zm _ w1 2 _ rfl
 have D1:=(hF1 X (Gr.of hbX)).1
 have hp1:p1n=0:=by have:=D1.p.1;rw[Za HDp] at this;exact this.symm
 have hbw:=Zf hb1 hbX
 have C2:=Zb (G0 k1 k1n k1c D.k n1 t1 p1 n1n n1c t1n t1c p1n p1c D.n D.t D.p D.tip X ((Za HE).later hbw) D1.k D1.n D1.b D1.p s12 s13 s14 (by omega) (fun t h=>by rw[Za HDp] at h;cases h) 3 0 none 0 0 [] ⟨rfl,fun h=>absurd h (by decide)⟩ Zw (by decide) 0 (q2,2,r2,o2,L2) E (Za HN2))
 have HBW:=Zb hbw
 have HX0:=Zb x0
 have HX1:=Zb x1
 have HX2:=Zb x2
 have HXs:=Zb hXs
 have HW1:=Zb hb1.size
 have t0:=Zd x0 0 _ rfl
 have t10:=Zd x1 0 _ rfl
 have t11:=Zd x1 1 _ rfl
 have t12:=Zd x1 2 _ rfl
 have t13:=Zd x1 3 _ rfl
 have tl0:=lt_of_block x0
 have tl1:=lt_of_block x1
 clear hX hF1 s11 s12 s13 s14 s15 D1 hp1 hbw hbX hXs x0 x1 x2 C1 hb1
 go_upto_region 2 with fail
 rw[←hX']
 clear hX'
 go_wp2_with fail
 refine (Za C2).mono ?_
 rintro e w2 ⟨k2,k2n,k2c,n2,n2n,n2c,t2,t2n,t2c,p2,p2n,p2c,a2,l2,c2,rfl,hF2,s21,s22,s23,s24,s25,hb2⟩
 dsimp only[Qy]
 have y0:=(hb2.block _ (lt_of_block (Za HX0))).trans (Za HX0)
 have y1:=(hb2.block _ (lt_of_block (Za HX1))).trans (Za HX1)
 have y2:=(hb2.block _ (lt_of_block (Za HX2))).trans (Za HX2)
 clear t0 t10 t11 t12 t13 tl0 tl1 C2
 have t0:=Zd y0 0 _ rfl
 have t10:=Zd y1 0 _ rfl
 have t11:=Zd y1 1 _ rfl
 have t12:=Zd y1 2 _ rfl
 have t13:=Zd y1 3 _ rfl
 have tf0:=Zg y0 0
 have tf10:=Zg y1 0
 have tf11:=Zg y1 1
 have tf12:=Zg y1 2
 have tf13:=Zg y1 3
 have tl0:=lt_of_block y0
 have tl1:=lt_of_block y1
 obtain⟨U,hU⟩:∃ U,U=((((w2.setCell ⟨w1.heap.size,0,none⟩ (.slice k2 k2n k2c)).setCell ⟨w1.heap.size+1,0,none⟩ (.slice n2 n2n n2c)).setCell ⟨w1.heap.size+1,1,none⟩ (.slice t2 t2n t2c)).setCell ⟨w1.heap.size+1,2,none⟩ (.slice p2 p2n p2c)).setCell ⟨w1.heap.size+1,3,none⟩ (.int .i64 E.tip):=⟨_,rfl⟩
 have gU:Gr w2 U (fun q=>q=w1.heap.size∨q=w1.heap.size+1):=by
  rw[hU]
  exact ((Gr.refl w2 (fun q=>q=w1.heap.size∨q=w1.heap.size+1)).one w1.heap.size 0 (.inl (.inl rfl)) _).four (w1.heap.size+1) (.inl (.inr rfl)) _ _ _ _
 have hUs:U.heap.size=w2.heap.size:=by rw[hU];simp[World.setCell]
 have u1:U.heap[w1.heap.size+1]? = some (.cells [.slice n2 n2n n2c,.slice t2 t2n t2c,.slice p2 p2n p2c,.int .i64 E.tip].toArray 67 (0,0)):=by
  rw[hU]
  have g:Gr w2 (w2.setCell ⟨w1.heap.size,0,none⟩ (.slice k2 k2n k2c)) (fun q=>q=w1.heap.size):=(Gr.refl w2 (fun q=>q=w1.heap.size)).one w1.heap.size 0 (.inl rfl) _
  exact Tr.set_cells (Tr.set_cells (Tr.set_cells (Tr.set_cells (g.heap y1 (fun e=>by have e:w1.heap.size+1=w1.heap.size:=e;omega)) 0 _) 1 _) 2 _) 3 _
 have u0:U.heap[w1.heap.size]? = some (.cells [.slice k2 k2n k2c].toArray 24 (0,0)):=by
  rw[hU]
  have g:Gr (w2.setCell ⟨w1.heap.size,0,none⟩ (.slice k2 k2n k2c)) (((((w2.setCell ⟨w1.heap.size,0,none⟩ (.slice k2 k2n k2c)).setCell ⟨w1.heap.size+1,0,none⟩ (.slice n2 n2n n2c)).setCell ⟨w1.heap.size+1,1,none⟩ (.slice t2 t2n t2c)).setCell ⟨w1.heap.size+1,2,none⟩ (.slice p2 p2n p2c)).setCell ⟨w1.heap.size+1,3,none⟩ (.int .i64 E.tip)) (fun q=>q=w1.heap.size+1):=(Gr.refl (w2.setCell ⟨w1.heap.size,0,none⟩ (.slice k2 k2n k2c)) (fun q=>q=w1.heap.size+1)).four (w1.heap.size+1) (.inl rfl) _ _ _ _
  exact g.heap (Tr.set_cells y0 0 _) (fun e=>by have e:w1.heap.size=w1.heap.size+1:=e;omega)
 have u2:=gU.heap y2 (fun e=>by rcases e with e|e <;> omega)
 obtain⟨V,hV⟩:∃ V,V=U.alloc (.cells #[.int .i64 q2,.int .i64 2,.int .i64 r2,.int .i64 o2,.slice a2 l2 c2] 39):=⟨_,rfl⟩
 have hbV:Below U.heap.size U V:=by rw[hV];exact Zi _ _
 have v3:V.heap[w2.heap.size]? = some (.cells [.int .i64 q2,.int .i64 2,.int .i64 r2,.int .i64 o2,.slice a2 l2 c2].toArray 39 (0,0)):=by rw[hV,←hUs];exact Zv _ _ _ _ _ _ _
 have v0:=(hbV.block _ (lt_of_block u0)).trans u0
 have v1:=(hbV.block _ (lt_of_block u1)).trans u1
 have v2:=(hbV.block _ (lt_of_block u2)).trans u2
 have gV:Gr w2 V (fun q=>q=w1.heap.size∨q=w1.heap.size+1):=gU.trans (Gr.of hbV)
 have hxs:=Za HXs
 have DD:=(hF2 V (gV.mono (fun q _ e=>by rcases e with e|e <;> (show q<X.heap.size;omega)))).1
 have hp2:p2n=0:=by have:=DD.p.1;rw[Za HEp] at this;exact this.symm
 have bV:Below w.heap.size w V:=gV.below (Zf (Za HBW) hb2) (Zf (Za HBW) hb2).size (fun q e=>by have:=Za HW1;rcases e with e|e <;> omega)
 have hEV:=(Za HE).later bV
 have C3:=Zb (U9 k2 k2n k2c E.k n2 t2 p2 n2n n2c t2n t2c p2n p2c E.n E.t E.p E.tip 0 V hEV DD.k DD.n DD.b DD.p s22 s23 s24 (by omega) (fun t h=>by rw[Za HEp] at h;cases h) (Za HEo) C ((if_pos rfl).trans (Za HCE)))
 have C4:=Zb (fun W (hw:Below V.heap.size V W)=>Do k2 k2n k2c E.k n2 t2 p2 n2n n2c t2n t2c p2n p2c E.n E.t E.p E.tip 0 W (hEV.later hw) (DD.k.later hw) (DD.n.later hw) (DD.b.later hw) (DD.p.later hw) s22 s23 s24 (by omega) (fun t h=>by rw[Za HEp] at h;cases h) (Za HEo) none 0 0 [] ⟨rfl,fun h=>absurd h (by decide)⟩ C ((if_pos rfl).trans (Za HCE)) 0 128 ((if_pos rfl).trans (Za HCk)) ((if_pos rfl).trans (Za HCs)))
 have C5:=Zb (fun W (hw:Below V.heap.size V W)=>Jt k2 k2n k2c E.k n2 t2 p2 n2n n2c t2n t2c p2n p2c E.n E.t E.p E.tip 0 W (hEV.later hw) (DD.k.later hw) (DD.n.later hw) (DD.b.later hw) (DD.p.later hw) s22 s23 s24 (by omega) (fun t h=>by rw[Za HEp] at h;cases h) (Za HEo))
 have KV:Hid (∀ W,Below V.heap.size V W→(W.cell? ⟨w1.heap.size,0,none⟩=some (.slice k2 k2n k2c)∧W.cell? ⟨w1.heap.size+1,0,none⟩=some (.slice n2 n2n n2c)∧W.cell? ⟨w1.heap.size+1,1,none⟩=some (.slice t2 t2n t2c)∧W.cell? ⟨w1.heap.size+1,2,none⟩=some (.slice p2 p2n p2c)∧W.cell? ⟨w1.heap.size+1,3,none⟩=some (.int .i64 E.tip)∧W.cell? ⟨w1.heap.size+2,1,none⟩=some (.int .i64 1)∧W.cell? ⟨w2.heap.size,0,none⟩=some (.int .i64 q2)∧W.cell? ⟨w2.heap.size,1,none⟩=some (.int .i64 2))∧w1.heap.size<W.heap.size∧w1.heap.size+1<W.heap.size∧w1.heap.size+2<W.heap.size∧w2.heap.size<W.heap.size):=fun W hw=>
  ⟨⟨Ze hw (Zd v0 0 _ rfl),Ze hw (Zd v1 0 _ rfl),Ze hw (Zd v1 1 _ rfl),Ze hw (Zd v1 2 _ rfl),Ze hw (Zd v1 3 _ rfl),Ze hw (Zd v2 1 _ rfl),Ze hw (Zd v3 0 _ rfl),Ze hw (Zd v3 1 _ rfl)⟩,Nat.lt_of_lt_of_le (lt_of_block v0) hw.size,Nat.lt_of_lt_of_le (lt_of_block v1) hw.size,Nat.lt_of_lt_of_le (lt_of_block v2) hw.size,Nat.lt_of_lt_of_le (lt_of_block v3) hw.size⟩
 have HBV:=Zb bV
 clear hF2 s21 s22 s23 s24 s25 hb2 y0 y1 y2 gU u0 u1 u2 hbV v0 v1 v2 v3 gV hxs DD hp2 bV hEV hUs
 go_upto_region 3 with fail
 rw[←hU,←hV]
 clear hU hV t0 t10 t11 t12 t13 tf0 tf10 tf11 tf12 tf13 tl0 tl1
 obtain⟨⟨m0,m1,m2,m3,m4,m5,m6,m7⟩,m8,m9,m10,m11⟩:=(Za KV) V (Below.refl _ _)
 go_wp2_with fail
 refine (Za C3).mono ?_
 rintro e w3 ⟨ca,cn,cc,rfl,hcc,-,hb3⟩
 have hcn:cn=2:=hcc.1.symm.trans (Za HCl)
 subst hcn
 have HB3:=Zb hb3
 have D4:=Zb ((Za C4) w3 hb3)
 clear m0 m1 m2 m3 m4 m5 m6 m7 m8 m9 m10 m11 hcc C3 C4
 obtain⟨⟨m0,m1,m2,m3,m4,m5,m6,m7⟩,m8,m9,m10,m11⟩:=(Za KV) w3 hb3
 clear hb3
 go_wp2_with fail
 refine (Za D4).mono ?_
 rintro e w4 ⟨rfl,hb4⟩
 have hb4':=Zf (Za HB3) hb4
 have HB4:=Zb hb4'
 have D5:=Zb ((Za C5) w4 hb4')
 clear m0 m1 m2 m3 m4 m5 m6 m7 m8 m9 m10 m11 D4 C5 hb4
 obtain⟨⟨m0,m1,m2,m3,m4,m5,m6,m7⟩,m8,m9,m10,m11⟩:=(Za KV) w4 hb4'
 clear hb4' KV
 go_wp2_with fail
 refine (Za D5).mono ?_
 rintro e w5 ⟨rfl,hb5⟩
 have HB5:=Zb (Zf (Za HBV) (Zf (Za HB4) hb5))
 clear hb5 D5
 go_wp2
 go_ret
 exact⟨rfl,Za HB5⟩
open Go.ChangeShapes Go.WideShapes Go.ChangeAt Go.RowKit
theorem own:ownKnob Tryz.prog.godebug=none:=by kernel_rfl
theorem Yy:laidOutB Tryz.prog=true:=by kernel_rfl
theorem Tryz.cellsOp:Tryz.prog.cellsOf 164=2:=by kernel_rfl
theorem Tryz.cells3:Tryz.prog.cellsOf 3=1:=by kernel_rfl
theorem Te{H:Type}{enc:TypeId×Value→H}{W:World}{sp:Nat→Bool}{held:Bool}{fuel:Nat}{a:Option Addr}{len cap:Nat}{x:DataW H×List MemPlace}
  (h:DataW.trod enc Tryz.prog W 0 sp held fuel 48 [.slice a len cap]=some x):(∃ l,OpsAt W a len l)∧(a=none→len=0∧cap=0):=by
 rcases Deep.open_slice_pairs Tryz.underlying48 Tryz.underlying164 Tryz.cellsOp rfl rfl Tryz.cells3 Tryz.cells3 h with ⟨hcs,_⟩|⟨b,l,c,m,n,V0,V1,D0,D1,P0,P1,hcs,_,hl,_,hm,_,hel⟩
 ·simp at hcs
  obtain⟨rfl,rfl,rfl⟩:=hcs
  exact⟨⟨[],rfl,fun h=>absurd h (by omega)⟩,fun _=>⟨rfl,rfl⟩⟩
 ·simp at hcs
  obtain⟨rfl,rfl,rfl⟩:=hcs
  refine⟨?_,fun h=>by cases h⟩
  have hlm:len≤m:=by rw[hm];split <;> omega
  have each:∀ i,i<len→∃ q:Int×Int,W.cell? (b.add (i*2))=some (.int .i64 q.1)∧W.cell? (b.add (i*2+1))=some (.int .i64 q.2):=fun i hi=>by
   obtain⟨h1,h2,t1,t2⟩:=hel i (by omega)
   obtain⟨z1,e1,_,_⟩:=DataW.trod_int Tryz.underlying3 t1
   obtain⟨z2,e2,_,_⟩:=DataW.trod_int Tryz.underlying3 t2
   simp only[List.cons.injEq,and_true] at e1 e2
   exact⟨(z1,z2),by rw[h1,e1],by rw[h2,e2]⟩
  obtain⟨f,hf⟩:=Deep.choose_lt each
  refine⟨(List.range len).map f,by simp,fun hpos=>?_⟩
  obtain⟨bb,off,spot⟩:=b
  have hspot:spot=none:=by simpa[Addr.add] using World.cell?_spot (hf 0 hpos).1
  subst hspot
  refine⟨bb,off,rfl,fun i hi=>?_⟩
  have hadd:∀ j,(⟨bb,off,none⟩:Addr).add j=⟨bb,off+j,none⟩:=fun j=>by unfold Addr.add;split <;> simp_all
  have h1:=hf i hi
  rw[hadd,hadd] at h1
  rw[←Nat.add_assoc] at h1
  simpa[hi] using h1
theorem Tryz.cellsTx:Tryz.prog.cellsOf 59=3:=by kernel_rfl
theorem Tryz.cellsIn:Tryz.prog.cellsOf 119=3:=by kernel_rfl
theorem Tryz.cellsOut:Tryz.prog.cellsOf 122=2:=by kernel_rfl
theorem Tryz.cellsPoint:Tryz.prog.cellsOf 117=2:=by kernel_rfl
theorem Tryz.cellsOps:Tryz.prog.cellsOf 48=1:=by kernel_rfl
theorem Tryz.cellsIns:Tryz.prog.cellsOf 56=1:=by kernel_rfl
theorem Tryz.cellsOuts:Tryz.prog.cellsOf 57=1:=by kernel_rfl
theorem list_two{cs:List Value}(h:cs.length=2):∃ a b,cs=[a,b]:=by
 match cs,h with
 | [a,b],_=>exact⟨a,b,rfl⟩
theorem list_three{cs:List Value}(h:cs.length=3):∃ a b c,cs=[a,b,c]:=by
 match cs,h with
 | [a,b,c],_=>exact⟨a,b,c,rfl⟩
section
variable {H : Type} {enc : TypeId × Value → H} {W : World} {sp : Nat → Bool} {held : Bool} {fuel : Nat}
theorem ops_full{v:Value}{x:DataW H×List MemPlace}(h:DataW.trod enc Tryz.prog W 0 sp held fuel 48 [v]=some x):∃ a n c l,v = .slice a n c∧OpsAt W a n l∧SlOk a n c:=by
 have h':=h
 rcases Deep.open_slice Tryz.underlying48 h with ⟨hcs,_⟩|⟨b,l,c,m,n,D,Pl,hcs,_,hl,hm,_⟩
 ·simp at hcs
  subst hcs
  exact⟨none,0,0,[],rfl,⟨rfl,fun h=>absurd h (by omega)⟩,Nat.le_refl _,Nat.zero_le _,fun _=>⟨rfl,rfl⟩⟩
 ·simp at hcs
  subst hcs
  obtain⟨⟨L,hO⟩,_⟩:=Te h'
  exact⟨some b,l,c,L,rfl,hO,hl,hm,fun h=>by cases h⟩
theorem Mk{cs:List Value}{x:DataW H×List MemPlace}(h:DataW.trod enc Tryz.prog W 0 sp held fuel 119 cs=some x):∃ x1 x2 a n c l,cs=[.int .i64 x1,.int .i64 x2,.slice a n c]∧OpsAt W a n l∧SlOk a n c:=by
 obtain⟨y0,y1,k,_,hl,h0,h1⟩:=trod_struct2 Tryz.underlying119 h
 rw[Tryz.cellsIn] at hl
 obtain⟨c0,c1,c2,rfl⟩:=list_three hl
 simp[Tryz.cellsPoint,Tryz.cellsOps] at h0 h1
 obtain⟨z0,z1,k2,_,_,g0,g1⟩:=trod_struct2 Tryz.underlying117 h0
 simp[Tryz.cells3] at g0 g1
 obtain⟨x1,e1,_,_⟩:=DataW.trod_int Tryz.underlying3 g0
 obtain⟨x2,e2,_,_⟩:=DataW.trod_int Tryz.underlying3 g1
 obtain⟨a,n,c,l,rfl,hO,hS⟩:=ops_full h1
 simp only[List.cons.injEq,and_true] at e1 e2
 subst e1 e2
 exact⟨x1,x2,a,n,c,l,rfl,hO,hS⟩
theorem Gt{cs:List Value}{x:DataW H×List MemPlace}(h:DataW.trod enc Tryz.prog W 0 sp held fuel 122 cs=some x):∃ x1 a n c l,cs=[.int .i64 x1,.slice a n c]∧OpsAt W a n l∧SlOk a n c:=by
 obtain⟨y0,y1,k,_,hl,h0,h1⟩:=trod_struct2 Tryz.underlying122 h
 rw[Tryz.cellsOut] at hl
 obtain⟨c0,c1,rfl⟩:=list_two hl
 simp[Tryz.cells3,Tryz.cellsOps] at h0 h1
 obtain⟨x1,e1,_,_⟩:=DataW.trod_int Tryz.underlying3 h0
 obtain⟨a,n,c,l,rfl,hO,hS⟩:=ops_full h1
 simp only[List.cons.injEq,and_true] at e1
 subst e1
 exact⟨x1,a,n,c,l,rfl,hO,hS⟩
theorem Zdp{v:Value}{x:DataW H×List MemPlace}(h:DataW.trod enc Tryz.prog W 0 sp held fuel 56 [v]=some x):∃ a n c l,v = .slice a n c∧InsAt W a n l∧SlOk a n c:=by
 rcases Deep.open_slice Tryz.underlying56 h with ⟨hcs,_⟩|⟨b,l,c,m,n,D,Pl,hcs,_,hl,hm,hmm,_,hel⟩
 ·simp at hcs
  subst hcs
  exact⟨none,0,0,[],rfl,RowsAt.nil _ _,Nat.le_refl _,Nat.zero_le _,fun _=>⟨rfl,rfl⟩⟩
 ·simp at hcs
  subst hcs
  have hlm:l≤m:=by rw[hmm];split <;> omega
  have each:∀ i,i<l→∃ q:InD,∃ a n c,W.cell? (b.add (i*3))=some (.int .i64 q.1)∧W.cell? (b.add (i*3+1))=some (.int .i64 q.2.1)∧W.cell? (b.add (i*3+2))=some (.slice a n c)∧OpsAt W a n q.2.2∧SlOk a n c:=fun i hi=>by
   obtain⟨cs',h1,h2⟩:=hel i (by omega)
   rw[Tryz.cellsIn] at h1
   obtain⟨_,_,hcell⟩:=World.cells?_some h1
   obtain⟨x1,x2,a,n,c,key,rfl,hO,hS⟩:=Mk h2
   have e0:=hcell 0 (by omega)
   have e1:=hcell 1 (by omega)
   have e2:=hcell 2 (by omega)
   rw[Deep.add_add] at e0 e1 e2
   exact⟨(x1,x2,key),a,n,c,by simpa using e0,by simpa using e1,by simpa using e2,hO,hS⟩
  obtain⟨f,hf⟩:=Deep.choose_lt each
  refine⟨some b,l,c,(List.range l).map f,rfl,⟨by simp,fun hpos=>?_⟩,hl,hm,fun h=>by cases h⟩
  obtain⟨bb,off,spot⟩:=b
  obtain⟨_,_,_,z0,_⟩:=hf 0 hpos
  have hspot:spot=none:=by simpa[Addr.add] using World.cell?_spot z0
  subst hspot
  have hadd:∀ j,(⟨bb,off,none⟩:Addr).add j=⟨bb,off+j,none⟩:=fun j=>by unfold Addr.add;split <;> simp_all
  refine⟨bb,off,rfl,by rw[hadd] at z0;exact World.block_lt_of_cell? _ _ z0,fun i hi=>?_⟩
  have hi':i<l:=by simpa using hi
  obtain⟨a,n,c,q0,q1,q2,hO,hS⟩:=hf i hi'
  rw[hadd] at q0 q1 q2
  rw[←Nat.add_assoc] at q1 q2
  rw[List.getElem_map,List.getElem_range]
  exact⟨q0,q1,a,n,c,q2,hO,hS⟩
theorem E7{v:Value}{x:DataW H×List MemPlace}(h:DataW.trod enc Tryz.prog W 0 sp held fuel 57 [v]=some x):∃ a n c l,v = .slice a n c∧OutsAt W a n l∧SlOk a n c:=by
 rcases Deep.open_slice Tryz.underlying57 h with ⟨hcs,_⟩|⟨b,l,c,m,n,D,Pl,hcs,_,hl,hm,hmm,_,hel⟩
 ·simp at hcs
  subst hcs
  exact⟨none,0,0,[],rfl,RowsAt.nil _ _,Nat.le_refl _,Nat.zero_le _,fun _=>⟨rfl,rfl⟩⟩
 ·simp at hcs
  subst hcs
  have hlm:l≤m:=by rw[hmm];split <;> omega
  have each:∀ i,i<l→∃ q:Z0,∃ a n c,W.cell? (b.add (i*2))=some (.int .i64 q.1)∧W.cell? (b.add (i*2+1))=some (.slice a n c)∧OpsAt W a n q.2∧SlOk a n c:=fun i hi=>by
   obtain⟨cs',h1,h2⟩:=hel i (by omega)
   rw[Tryz.cellsOut] at h1
   obtain⟨_,_,hcell⟩:=World.cells?_some h1
   obtain⟨x1,a,n,c,key,rfl,hO,hS⟩:=Gt h2
   have e0:=hcell 0 (by omega)
   have e1:=hcell 1 (by omega)
   rw[Deep.add_add] at e0 e1
   exact⟨(x1,key),a,n,c,by simpa using e0,by simpa using e1,hO,hS⟩
  obtain⟨f,hf⟩:=Deep.choose_lt each
  refine⟨some b,l,c,(List.range l).map f,rfl,⟨by simp,fun hpos=>?_⟩,hl,hm,fun h=>by cases h⟩
  obtain⟨bb,off,spot⟩:=b
  obtain⟨_,_,_,z0,_⟩:=hf 0 hpos
  have hspot:spot=none:=by simpa[Addr.add] using World.cell?_spot z0
  subst hspot
  have hadd:∀ j,(⟨bb,off,none⟩:Addr).add j=⟨bb,off+j,none⟩:=fun j=>by unfold Addr.add;split <;> simp_all
  refine⟨bb,off,rfl,by rw[hadd] at z0;exact World.block_lt_of_cell? _ _ z0,fun i hi=>?_⟩
  have hi':i<l:=by simpa using hi
  obtain⟨a,n,c,q0,q1,hO,hS⟩:=hf i hi'
  rw[hadd] at q0 q1
  rw[←Nat.add_assoc] at q1
  rw[List.getElem_map,List.getElem_range]
  exact⟨q0,a,n,c,q1,hO,hS⟩
theorem B9{cs:List Value}{x:DataW H×List MemPlace}(h:DataW.trod enc Tryz.prog W 0 sp held fuel 59 cs=some x):∃ h ai ni ci ao no co I O,cs=[.int .i64 h,.slice ai ni ci,.slice ao no co]∧InsAt W ai ni I∧OutsAt W ao no O∧SlOk ai ni ci∧SlOk ao no co:=by
 obtain⟨y0,y1,y2,k,_,hl,h0,h1,h2⟩:=Deep.trod_struct3 Tryz.underlying59 h
 rw[Tryz.cellsTx] at hl
 obtain⟨c0,c1,c2,rfl⟩:=list_three hl
 simp[Tryz.cells3,Tryz.cellsIns,Tryz.cellsOuts] at h0 h1 h2
 obtain⟨hh,e0,_,_⟩:=DataW.trod_int Tryz.underlying3 h0
 obtain⟨ai,ni,ci,I,rfl,hI,sI⟩:=Zdp h1
 obtain⟨ao,no,co,O,rfl,hO,sO⟩:=E7 h2
 simp only[List.cons.injEq,and_true] at e0
 subst e0
 exact⟨hh,ai,ni,ci,ao,no,co,I,O,rfl,hI,hO,sI,sO⟩
end
end Go.Proofs.YtmomfkikogbdeaaGreatDoor
namespace Go.Proofs.YtmomfkikogbdeaaGreatDoor.Bk
open Go.ChangeShapes Go.WideShapes Go.ChangeAt Go.RowKit
theorem own:ownKnob Tryz.prog.godebug=none:=by kernel_rfl
theorem Yy:laidOutB Tryz.prog=true:=by kernel_rfl
theorem Tryz.cells9:Tryz.prog.cellsOf 9=1:=by kernel_rfl
theorem Tryz.cellsStrs:Tryz.prog.cellsOf 22=1:=by kernel_rfl
theorem Tryz.cellsBook:Tryz.prog.cellsOf 24=1:=by kernel_rfl
section
variable {H : Type} {enc : TypeId × Value → H} {W : World} {sp : Nat → Bool} {held : Bool} {fuel : Nat}
theorem Em{v:Value}{x:DataW H×List MemPlace}(h:DataW.trod enc Tryz.prog W 0 sp held fuel 22 [v]=some x) :
  ∃ a n c L,v = .slice a n c∧TextsAt W a n L∧SlOk a n c∧(n=0∨∃ elems spare,x.1 = .slice elems spare∧elems.length=n):=by
 rcases Deep.open_strs Tryz.underlying22 Tryz.underlying9 Tryz.cells9 h with ⟨hcs,_⟩|⟨b,l,c,m,Sx,hcs,_,hl,hm,hmm,hx,hel⟩
 ·simp at hcs
  subst hcs
  exact⟨none,0,0,[],rfl,TextsAt.nil _ _,SlOk.nil,Or.inl rfl⟩
 ·simp at hcs
  subst hcs
  have hlm:l≤m:=by rw[hmm];split <;> omega
  refine⟨some b,l,c,(List.range l).map Sx,rfl,⟨by simp,fun hpos=>?_⟩,⟨hl,hm,fun h=>by cases h⟩,Or.inr ⟨_,_,by rw[hx],by simp⟩⟩
  obtain⟨bb,off,spot⟩:=b
  have z0:=(hel 0 (by omega)).1
  have hspot:spot=none:=by simpa[Addr.add] using World.cell?_spot z0
  subst hspot
  have hadd:∀ j,(⟨bb,off,none⟩:Addr).add j=⟨bb,off+j,none⟩:=fun j=>by unfold Addr.add;split <;> simp_all
  refine⟨bb,off,rfl,fun i hi=>?_⟩
  have hi':i<l:=by simpa using hi
  have q:=(hel i (by omega)).1
  rw[hadd] at q
  rw[List.getElem_map,List.getElem_range]
  exact q
theorem book_full{cs:List Value}{x:DataW H×List MemPlace}(h:DataW.trod enc Tryz.prog W 0 sp held fuel 24 cs=some x):∃ a n c L,cs=[.slice a n c]∧TextsAt W a n L∧SlOk a n c:=by
 obtain⟨y0,k,_,hl,h0⟩:=trod_struct1 Tryz.underlying24 h
 rw[Tryz.cellsBook] at hl
 obtain⟨c0,rfl⟩:=List.length_eq_one_iff.1 hl
 simp[Tryz.cellsStrs] at h0
 obtain⟨a,n,c,L,rfl,hT,hS,_⟩:=Em h0
 exact⟨a,n,c,L,rfl,hT,hS⟩
end
end Go.Proofs.YtmomfkikogbdeaaGreatDoor.Bk
namespace Go.Proofs.YtmomfkikogbdeaaGreatDoor
open Go.ChangeShapes Go.WideShapes Go.ChangeAt Go.RowKit
theorem Tryz.cellsBlk:Tryz.prog.cellsOf 39=5:=by kernel_rfl
theorem Tryz.cellsTxs:Tryz.prog.cellsOf 37=1:=by kernel_rfl
theorem Sj{cs:List Value}(h:cs.length=5):∃ a b c d e,cs=[a,b,c,d,e]:=by
 match cs,h with
 | [a,b,c,d,e],_=>exact⟨a,b,c,d,e,rfl⟩
section
variable {H : Type} {enc : TypeId × Value → H} {W : World} {sp : Nat → Bool} {held : Bool} {fuel : Nat}
theorem Zbt{v:Value}{x:DataW H×List MemPlace}(h:DataW.trod enc Tryz.prog W 0 sp held fuel 37 [v]=some x):∃ a n c l,v = .slice a n c∧TxsAt W a n l∧SlOk a n c:=by
 rcases Deep.open_slice Tryz.underlying37 h with ⟨hcs,_⟩|⟨b,l,c,m,n,D,Pl,hcs,_,hl,hm,hmm,_,hel⟩
 ·simp at hcs
  subst hcs
  exact⟨none,0,0,[],rfl,RowsAt.nil _ _,Nat.le_refl _,Nat.zero_le _,fun _=>⟨rfl,rfl⟩⟩
 ·simp at hcs
  subst hcs
  have hlm:l≤m:=by rw[hmm];split <;> omega
  have each:∀ i,i<l→∃ q:TxD,∃ ai ni ci ao no co,W.cell? (b.add (i*3))=some (.int .i64 q.1)∧W.cell? (b.add (i*3+1))=some (.slice ai ni ci)∧W.cell? (b.add (i*3+2))=some (.slice ao no co)∧InsAt W ai ni q.2.1∧SlOk ai ni ci∧OutsAt W ao no q.2.2∧SlOk ao no co:=fun i hi=>by
   obtain⟨cs',h1,h2⟩:=hel i (by omega)
   rw[Tryz.cellsTx] at h1
   obtain⟨_,_,hcell⟩:=World.cells?_some h1
   obtain⟨q1,ai,ni,ci,ao,no,co,I,O,rfl,hI,hO,sI,sO⟩:=B9 h2
   have e0:=hcell 0 (by omega)
   have e1:=hcell 1 (by omega)
   have e2:=hcell 2 (by omega)
   rw[Deep.add_add] at e0 e1 e2
   exact⟨(q1,I,O),ai,ni,ci,ao,no,co,by simpa using e0,by simpa using e1,by simpa using e2,hI,sI,hO,sO⟩
  obtain⟨f,hf⟩:=Deep.choose_lt each
  refine⟨some b,l,c,(List.range l).map f,rfl,⟨by simp,fun hpos=>?_⟩,hl,hm,fun h=>by cases h⟩
  obtain⟨bb,off,spot⟩:=b
  obtain⟨_,_,_,_,_,_,z0,_⟩:=hf 0 hpos
  have hspot:spot=none:=by simpa[Addr.add] using World.cell?_spot z0
  subst hspot
  have hadd:∀ j,(⟨bb,off,none⟩:Addr).add j=⟨bb,off+j,none⟩:=fun j=>by unfold Addr.add;split <;> simp_all
  refine⟨bb,off,rfl,by rw[hadd] at z0;exact World.block_lt_of_cell? _ _ z0,fun i hi=>?_⟩
  have hi':i<l:=by simpa using hi
  obtain⟨ai,ni,ci,ao,no,co,q0,q1,q2,hI,sI,hO,sO⟩:=hf i hi'
  rw[hadd] at q0 q1 q2
  rw[←Nat.add_assoc] at q1 q2
  rw[List.getElem_map,List.getElem_range]
  exact⟨q0,⟨ai,ni,ci,q1,hI,sI⟩,ao,no,co,q2,hO,sO⟩
theorem Qf{t:TypeId}{f0 f1 f2 f3 f4:Field}{cs:List Value}{x:DataW H×List MemPlace}(ht:Tryz.prog.underlying t=some (.struct #[f0,f1,f2,f3,f4]))(h:DataW.trod enc Tryz.prog W 0 sp held fuel t cs=some x) :
  ∃ y0 y1 y2 y3 y4 n,cs.length=Tryz.prog.cellsOf t∧DataW.trod enc Tryz.prog W 0 sp held n f0.type ((cs.drop f0.offset).take (Tryz.prog.cellsOf f0.type))=some y0 ∧
   DataW.trod enc Tryz.prog W 0 sp held n f1.type ((cs.drop f1.offset).take (Tryz.prog.cellsOf f1.type))=some y1∧DataW.trod enc Tryz.prog W 0 sp held n f2.type ((cs.drop f2.offset).take (Tryz.prog.cellsOf f2.type))=some y2 ∧
   DataW.trod enc Tryz.prog W 0 sp held n f3.type ((cs.drop f3.offset).take (Tryz.prog.cellsOf f3.type))=some y3∧DataW.trod enc Tryz.prog W 0 sp held n f4.type ((cs.drop f4.offset).take (Tryz.prog.cellsOf f4.type))=some y4:=by
 obtain⟨xs,n,_,rfl,hl,hlen,hf⟩:=DataW.trod_struct ht h
 match xs,hlen with
 | [y0,y1,y2,y3,y4],_=>exact⟨y0,y1,y2,y3,y4,n,hl,by simpa using hf 0 f0 rfl,by simpa using hf 1 f1 rfl,by simpa using hf 2 f2 rfl,by simpa using hf 3 f3 rfl,by simpa using hf 4 f4 rfl⟩
theorem Hy{cs:List Value}{x:DataW H×List MemPlace}(h:DataW.trod enc Tryz.prog W 0 sp held fuel 39 cs=some x):∃ p h k n a m c T,cs=[.int .i64 p,.int .i64 h,.int .i64 k,.int .i64 n,.slice a m c]∧TxsAt W a m T∧SlOk a m c:=by
 obtain⟨y0,y1,y2,y3,y4,k,hl,h0,h1,h2,h3,h4⟩:=Qf Tryz.underlying39 h
 rw[Tryz.cellsBlk] at hl
 obtain⟨c0,c1,c2,c3,c4,rfl⟩:=Sj hl
 simp[Tryz.cells3,Tryz.cellsTxs] at h0 h1 h2 h3 h4
 obtain⟨x0,e0,_,_⟩:=DataW.trod_int Tryz.underlying3 h0
 obtain⟨x1,e1,_,_⟩:=DataW.trod_int Tryz.underlying3 h1
 obtain⟨x2,e2,_,_⟩:=DataW.trod_int Tryz.underlying3 h2
 obtain⟨x3,e3,_,_⟩:=DataW.trod_int Tryz.underlying3 h3
 obtain⟨a,n,c,T,rfl,hT,sT⟩:=Zbt h4
 simp only[List.cons.injEq,and_true] at e0 e1 e2 e3
 subst e0 e1 e2 e3
 exact⟨x0,x1,x2,x3,a,n,c,T,rfl,hT,sT⟩
end
set_option maxRecDepth 100000 in
theorem Vn{H:Type}{enc:TypeId×Value→H}{os:Os}{f:FuncId}{fn:Func}{s:ChangeSpec}{X:World→Prop}(hX:∀ w w':World,w.heap=w'.heap→X w→X w')
  (started:os.Started) (noInit:Tryz.checked.prog.inits.idxOf? f=none) (hfn:Tryz.checked.prog.funcs[f]? = some fn)
  (witness:∃ (w:World) (tape:Tape) (i:Input),w.os=os∧(w.forCall tape i).Shaped Tryz.checked.prog∧i.vars=[]∧Input.okWide Tryz.checked.prog (w.forCall tape i) .any w.heap.size f i ∧
   ((s.pre enc Tryz.checked.prog fn [] false (w.forCall tape i).memory i.args∧X (w.forCall tape i).memory)∧sizedMet enc Tryz.checked.prog fn (OpenSpec.ofChange s) false (w.forCall tape i).memory i.args)∧({}:Assume).holds Tryz.checked.prog (lone (Frame.enter Tryz.checked.prog f i.args .normal) [] (w.forCall tape i)))
  (contract:∀ (W:World) (base:Nat) (args:Array Value) (ds gs:List (DataW H)) (before:List MemPlace),
   (∀ (j:Nat) t v,fn.params[j]? = some t→args[j]? = some v→Value.okWide Tryz.checked.prog W .any base t v) →
   DataW.Whole enc Tryz.checked.prog fn.params.toList s.vars false W args.toList ds gs before→X W→(DataW.weightsEach Tryz.checked.prog (fn.params.toList++s.plain.varTypes Tryz.checked.prog) (ds++gs)).all (·≤reachBytes)=true →
   Calls Tryz.checked.prog f args W fun e W'=>∃ v,e = .returned v∧s.post enc Tryz.checked.prog fn false true false false W args v W') :
  ReturnsInHanded {} Tryz.checked os f .any (fun w args=>(s.pre enc Tryz.checked.prog fn [] false w args∧X w)∧sizedMet enc Tryz.checked.prog fn (OpenSpec.ofChange s) false w args) (s.post enc Tryz.checked.prog fn false true false false):=by
 refine returnsInHanded_of_calls own started noInit witness ?_
 intro w tape i _ _ _ hok hpre _
 obtain⟨_,_,_,fn',hfn',_,_,_,_,hval⟩:=hok
 obtain rfl:fn'=fn:=Option.some.inj (hfn'.symm.trans hfn)
 obtain⟨⟨⟨ds,gs,before,hw,_⟩,hx⟩,hz⟩:=hpre
 refine (contract (w.forCall tape i) w.heap.size i.args ds gs before hval (DataW.Whole.of_heap (w':=w.forCall tape i) (by rfl) hw) (hX _ _ (by rfl) hx) (hz.weights hw)).mono fun e W' ⟨v,he,hp⟩=>?_
 subst he
 exact ChangeSpec.post_blind hp
end Go.Proofs.YtmomfkikogbdeaaGreatDoor
namespace Go.Proofs.YtmomfkikogbdeaaGreatDoor.Lf
open Go.ChangeShapes Go.WideShapes Go.ChangeAt Go.RowKit
theorem own:ownKnob Tryz.prog.godebug=none:=by kernel_rfl
theorem Yy:laidOutB Tryz.prog=true:=by kernel_rfl
theorem L8{H:Type}{enc:TypeId×Value→H}{w:World}{base:Nat}{sp:Nat→Bool}{held:Bool}{fuel:Nat}{t:TypeId}{n:Nat}{cs:List Value}{ss:List (List UInt8)}{p:List MemPlace}
  (ht:Tryz.prog.underlying t=some (.array n 9)) (hct:Tryz.prog.cellsOf t=n) (h9:Tryz.prog.cellsOf 9=1)
  (h:DataW.trod enc Tryz.prog w base sp held fuel t cs=some (.agg (ss.map fun b=>.lit (.string b)),p)):cs=ss.map fun b=>Value.string ⟨b.toArray⟩:=by
 obtain⟨xs,m,rfl,hx,hl,hn,hel⟩:=DataW.trod_array ht h
 rw[hct] at hl
 simp only[Prod.mk.injEq,DataW.agg.injEq] at hx
 have hsl:ss.length=n:=by
  have:=congrArg List.length hx.1
  simp at this
  omega
 apply List.ext_getElem?
 intro i
 by_cases hi:i<n
 ·have hi':=hel i hi
  rw[h9,Nat.mul_one] at hi'
  have hxi:i<xs.length:=by omega
  rw[List.getElem?_eq_getElem hxi] at hi'
  obtain⟨s,hc,hy,_⟩:=DataW.trod_string Tryz.underlying9 hi'
  have h1:cs[i]? = some (.string s):=by
   have:=congrArg (·[0]?) hc
   simpa[List.getElem?_take,List.getElem?_drop] using this
  have h2:(xs.map (·.1))[i]? = some (.lit (.string s.data.toList)):=by
   rw[List.getElem?_map,List.getElem?_eq_getElem hxi,hy];rfl
  rw[←hx.1] at h2
  have hsi:i<ss.length:=by omega
  simp only[List.getElem?_map,List.getElem?_eq_getElem hsi,Option.map_some,Option.some.injEq,DataW.lit.injEq,Lit.string.injEq] at h2
  rw[h1,List.getElem?_map,List.getElem?_eq_getElem hsi,h2]
  rfl
 ·rw[List.getElem?_eq_none (by omega),List.getElem?_eq_none (by simp;omega)]
def namesBytes:List (List UInt8):=namesL.map (·.data.toList)
theorem Tryz.tNam:(Tryz.prog.globals[1]?).map (·.type)=some 378:=by kernel_rfl
theorem Tryz.tTab:(Tryz.prog.globals[2]?).map (·.type)=some 381:=by kernel_rfl
theorem Tryz.cellsNam:Tryz.prog.cellsOf 378=14:=by kernel_rfl
theorem Tryz.cellsTab:Tryz.prog.cellsOf 381=20:=by kernel_rfl
theorem Tryz.cells9:Tryz.prog.cellsOf 9=1:=by kernel_rfl
theorem Tryz.cellsU64:Tryz.prog.cellsOf 284=1:=by kernel_rfl
theorem names_of_laid{H:Type}{enc:TypeId×Value→H}{w:World}{base:Nat}{sp:Nat→Bool}{held:Bool}{fuel:Nat}{cs:Array Value}{p:List MemPlace}(hv:w.var? Tryz.prog "cairn/lock.names" = some cs)
  (h:DataW.trod enc Tryz.prog w base sp held fuel 378 cs.toList=some (Rows.laid_cairn_lock_names,p)):w.var? Tryz.prog "cairn/lock.names" = some Ar:=by
 have e:=L8 (ss:=namesBytes) Tryz.underlying378 Tryz.cellsNam Tryz.cells9 h
 rw[hv]
 congr 1
 obtain⟨l⟩:=cs
 have e':l=namesBytes.map fun b=>Value.string ⟨b.toArray⟩:=e
 rw[e']
 rfl
theorem tab_of_laid{H:Type}{enc:TypeId×Value→H}{w:World}{base:Nat}{sp:Nat→Bool}{held:Bool}{fuel:Nat}{cs:Array Value}{p:List MemPlace}(hv:w.var? Tryz.prog "internal/strconv.uint64pow10" = some cs)
  (h:DataW.trod enc Tryz.prog w base sp held fuel 381 cs.toList=some (Rows.laid_internal_strconv_uint64pow10,p)):Lib.TabIs Tryz.prog w "internal/strconv.uint64pow10" .u64 Lib.pow10Tab:=by
 have e:=Lib.cells_of_tab (zs:=Lib.pow10Tab) Tryz.underlying381 Tryz.underlying284 Tryz.cellsU64 Tryz.cellsTab h
 unfold Lib.TabIs
 rw[hv]
 congr 1
 obtain⟨l⟩:=cs
 have e':l=Lib.pow10Tab.map fun z=>Value.int .u64 z:=e
 rw[e']
theorem Tryz.cellsOp:Tryz.prog.cellsOf 164=2:=by kernel_rfl
theorem Tryz.cells3:Tryz.prog.cellsOf 3=1:=by kernel_rfl
theorem Te{H:Type}{enc:TypeId×Value→H}{W:World}{sp:Nat→Bool}{held:Bool}{fuel:Nat}{a:Option Addr}{len cap:Nat}{x:DataW H×List MemPlace}
  (h:DataW.trod enc Tryz.prog W 0 sp held fuel 48 [.slice a len cap]=some x):(∃ l,OpsAt W a len l)∧(a=none→len=0∧cap=0):=by
 rcases Deep.open_slice_pairs Tryz.underlying48 Tryz.underlying164 Tryz.cellsOp rfl rfl Tryz.cells3 Tryz.cells3 h with ⟨hcs,_⟩|⟨b,l,c,m,n,V0,V1,D0,D1,P0,P1,hcs,_,hl,_,hm,_,hel⟩
 ·simp at hcs
  obtain⟨rfl,rfl,rfl⟩:=hcs
  exact⟨⟨[],rfl,fun h=>absurd h (by omega)⟩,fun _=>⟨rfl,rfl⟩⟩
 ·simp at hcs
  obtain⟨rfl,rfl,rfl⟩:=hcs
  refine⟨?_,fun h=>by cases h⟩
  have hlm:len≤m:=by rw[hm];split <;> omega
  have each:∀ i,i<len→∃ q:Int×Int,W.cell? (b.add (i*2))=some (.int .i64 q.1)∧W.cell? (b.add (i*2+1))=some (.int .i64 q.2):=fun i hi=>by
   obtain⟨h1,h2,t1,t2⟩:=hel i (by omega)
   obtain⟨z1,e1,_,_⟩:=DataW.trod_int Tryz.underlying3 t1
   obtain⟨z2,e2,_,_⟩:=DataW.trod_int Tryz.underlying3 t2
   simp only[List.cons.injEq,and_true] at e1 e2
   exact⟨(z1,z2),by rw[h1,e1],by rw[h2,e2]⟩
  obtain⟨f,hf⟩:=Deep.choose_lt each
  refine⟨(List.range len).map f,by simp,fun hpos=>?_⟩
  obtain⟨bb,off,spot⟩:=b
  have hspot:spot=none:=by simpa[Addr.add] using World.cell?_spot (hf 0 hpos).1
  subst hspot
  refine⟨bb,off,rfl,fun i hi=>?_⟩
  have hadd:∀ j,(⟨bb,off,none⟩:Addr).add j=⟨bb,off+j,none⟩:=fun j=>by unfold Addr.add;split <;> simp_all
  have h1:=hf i hi
  rw[hadd,hadd] at h1
  rw[←Nat.add_assoc] at h1
  simpa[hi] using h1
end Go.Proofs.YtmomfkikogbdeaaGreatDoor.Lf
namespace Go.Proofs.YtmomfkikogbdeaaGreatDoor.Tr
open Go.ChangeShapes Go.WideShapes Go.ChangeAt Go.RowKit
theorem own:ownKnob Tryz.prog.godebug=none:=by kernel_rfl
theorem Yy:laidOutB Tryz.prog=true:=by kernel_rfl
theorem Tryz.cellsOp:Tryz.prog.cellsOf 164=2:=by kernel_rfl
theorem Tryz.cells3:Tryz.prog.cellsOf 3=1:=by kernel_rfl
theorem Te{H:Type}{enc:TypeId×Value→H}{W:World}{sp:Nat→Bool}{held:Bool}{fuel:Nat}{a:Option Addr}{len cap:Nat}{x:DataW H×List MemPlace}
  (h:DataW.trod enc Tryz.prog W 0 sp held fuel 48 [.slice a len cap]=some x):(∃ l,OpsAt W a len l)∧(a=none→len=0∧cap=0):=by
 rcases Deep.open_slice_pairs Tryz.underlying48 Tryz.underlying164 Tryz.cellsOp rfl rfl Tryz.cells3 Tryz.cells3 h with ⟨hcs,_⟩|⟨b,l,c,m,n,V0,V1,D0,D1,P0,P1,hcs,_,hl,_,hm,_,hel⟩
 ·simp at hcs
  obtain⟨rfl,rfl,rfl⟩:=hcs
  exact⟨⟨[],rfl,fun h=>absurd h (by omega)⟩,fun _=>⟨rfl,rfl⟩⟩
 ·simp at hcs
  obtain⟨rfl,rfl,rfl⟩:=hcs
  refine⟨?_,fun h=>by cases h⟩
  have hlm:len≤m:=by rw[hm];split <;> omega
  have each:∀ i,i<len→∃ q:Int×Int,W.cell? (b.add (i*2))=some (.int .i64 q.1)∧W.cell? (b.add (i*2+1))=some (.int .i64 q.2):=fun i hi=>by
   obtain⟨h1,h2,t1,t2⟩:=hel i (by omega)
   obtain⟨z1,e1,_,_⟩:=DataW.trod_int Tryz.underlying3 t1
   obtain⟨z2,e2,_,_⟩:=DataW.trod_int Tryz.underlying3 t2
   simp only[List.cons.injEq,and_true] at e1 e2
   exact⟨(z1,z2),by rw[h1,e1],by rw[h2,e2]⟩
  obtain⟨f,hf⟩:=Deep.choose_lt each
  refine⟨(List.range len).map f,by simp,fun hpos=>?_⟩
  obtain⟨bb,off,spot⟩:=b
  have hspot:spot=none:=by simpa[Addr.add] using World.cell?_spot (hf 0 hpos).1
  subst hspot
  refine⟨bb,off,rfl,fun i hi=>?_⟩
  have hadd:∀ j,(⟨bb,off,none⟩:Addr).add j=⟨bb,off+j,none⟩:=fun j=>by unfold Addr.add;split <;> simp_all
  have h1:=hf i hi
  rw[hadd,hadd] at h1
  rw[←Nat.add_assoc] at h1
  simpa[hi] using h1
theorem Tryz.cellsTx:Tryz.prog.cellsOf 59=3:=by kernel_rfl
theorem Tryz.cellsIn:Tryz.prog.cellsOf 119=3:=by kernel_rfl
theorem Tryz.cellsOut:Tryz.prog.cellsOf 122=2:=by kernel_rfl
theorem Tryz.cellsPoint:Tryz.prog.cellsOf 117=2:=by kernel_rfl
theorem Tryz.cellsOps:Tryz.prog.cellsOf 48=1:=by kernel_rfl
theorem Tryz.cellsIns:Tryz.prog.cellsOf 56=1:=by kernel_rfl
theorem Tryz.cellsOuts:Tryz.prog.cellsOf 57=1:=by kernel_rfl
theorem list_two{cs:List Value}(h:cs.length=2):∃ a b,cs=[a,b]:=by
 match cs,h with
 | [a,b],_=>exact⟨a,b,rfl⟩
theorem list_three{cs:List Value}(h:cs.length=3):∃ a b c,cs=[a,b,c]:=by
 match cs,h with
 | [a,b,c],_=>exact⟨a,b,c,rfl⟩
theorem Tryz.cellsBlk:Tryz.prog.cellsOf 39=5:=by kernel_rfl
theorem Tryz.cellsTree:Tryz.prog.cellsOf 28=2:=by kernel_rfl
theorem Tryz.cellsTxs:Tryz.prog.cellsOf 37=1:=by kernel_rfl
theorem Tryz.cellsBlks:Tryz.prog.cellsOf 26=1:=by kernel_rfl
theorem Tryz.cellsInts:Tryz.prog.cellsOf 25=1:=by kernel_rfl
theorem Sj{cs:List Value}(h:cs.length=5):∃ a b c d e,cs=[a,b,c,d,e]:=by
 match cs,h with
 | [a,b,c,d,e],_=>exact⟨a,b,c,d,e,rfl⟩
section
variable {H : Type} {enc : TypeId × Value → H} {W : World} {sp : Nat → Bool} {held : Bool} {fuel : Nat}
theorem ops_full{v:Value}{x:DataW H×List MemPlace}(h:DataW.trod enc Tryz.prog W 0 sp held fuel 48 [v]=some x):∃ a n c l,v = .slice a n c∧OpsAt W a n l∧SlOk a n c:=by
 have h':=h
 rcases Deep.open_slice Tryz.underlying48 h with ⟨hcs,_⟩|⟨b,l,c,m,n,D,Pl,hcs,_,hl,hm,_⟩
 ·simp at hcs
  subst hcs
  exact⟨none,0,0,[],rfl,⟨rfl,fun h=>absurd h (by omega)⟩,Nat.le_refl _,Nat.zero_le _,fun _=>⟨rfl,rfl⟩⟩
 ·simp at hcs
  subst hcs
  obtain⟨⟨L,hO⟩,_⟩:=Te h'
  exact⟨some b,l,c,L,rfl,hO,hl,hm,fun h=>by cases h⟩
theorem Mk{cs:List Value}{x:DataW H×List MemPlace}(h:DataW.trod enc Tryz.prog W 0 sp held fuel 119 cs=some x):∃ x1 x2 a n c l,cs=[.int .i64 x1,.int .i64 x2,.slice a n c]∧OpsAt W a n l∧SlOk a n c:=by
 obtain⟨y0,y1,k,_,hl,h0,h1⟩:=trod_struct2 Tryz.underlying119 h
 rw[Tryz.cellsIn] at hl
 obtain⟨c0,c1,c2,rfl⟩:=list_three hl
 simp[Tryz.cellsPoint,Tryz.cellsOps] at h0 h1
 obtain⟨z0,z1,k2,_,_,g0,g1⟩:=trod_struct2 Tryz.underlying117 h0
 simp[Tryz.cells3] at g0 g1
 obtain⟨x1,e1,_,_⟩:=DataW.trod_int Tryz.underlying3 g0
 obtain⟨x2,e2,_,_⟩:=DataW.trod_int Tryz.underlying3 g1
 obtain⟨a,n,c,l,rfl,hO,hS⟩:=ops_full h1
 simp only[List.cons.injEq,and_true] at e1 e2
 subst e1 e2
 exact⟨x1,x2,a,n,c,l,rfl,hO,hS⟩
theorem Gt{cs:List Value}{x:DataW H×List MemPlace}(h:DataW.trod enc Tryz.prog W 0 sp held fuel 122 cs=some x):∃ x1 a n c l,cs=[.int .i64 x1,.slice a n c]∧OpsAt W a n l∧SlOk a n c:=by
 obtain⟨y0,y1,k,_,hl,h0,h1⟩:=trod_struct2 Tryz.underlying122 h
 rw[Tryz.cellsOut] at hl
 obtain⟨c0,c1,rfl⟩:=list_two hl
 simp[Tryz.cells3,Tryz.cellsOps] at h0 h1
 obtain⟨x1,e1,_,_⟩:=DataW.trod_int Tryz.underlying3 h0
 obtain⟨a,n,c,l,rfl,hO,hS⟩:=ops_full h1
 simp only[List.cons.injEq,and_true] at e1
 subst e1
 exact⟨x1,a,n,c,l,rfl,hO,hS⟩
theorem Jp{α : Type}[Inhabited α](Z:Rec α){ts t:TypeId}(hu:Tryz.prog.underlying ts=some (.slice t))(hc:Tryz.prog.cellsOf t=Z.sz)(hpos:0<Z.sz)
  (hel:∀ (fuel:Nat) (cs:List Value) (x:DataW H×List MemPlace),DataW.trod enc Tryz.prog W 0 sp held fuel t cs=some x→∃ y,Z.C W cs y)
  {v:Value} {x:DataW H×List MemPlace} (h:DataW.trod enc Tryz.prog W 0 sp held fuel ts [v]=some x):∃ a n c l,v = .slice a n c∧RowsAt Z.R Z.sz W a n l∧SlOk a n c:=by
 rcases Deep.open_slice hu h with ⟨hcs,_⟩|⟨b,l,c,m,n,D,Pl,hcs,_,hl,hm,hmm,_,hee⟩
 ·simp at hcs
  subst hcs
  exact⟨none,0,0,[],rfl,RowsAt.nil _ _,Nat.le_refl _,Nat.zero_le _,fun _=>⟨rfl,rfl⟩⟩
 ·simp at hcs
  subst hcs
  have hlm:l≤m:=by rw[hmm];split <;> omega
  have each:∀ i,i<l→∃ q : α,∃ cs,(∀ j,j<Z.sz→W.cell? (b.add (i*Z.sz+j))=cs[j]?)∧Z.C W cs q:=fun i hi=>by
   obtain⟨cs',h1,h2⟩:=hee i (by omega)
   rw[hc] at h1
   obtain⟨_,_,hcell⟩:=World.cells?_some h1
   obtain⟨y,hy⟩:=hel _ _ _ h2
   exact⟨y,cs',fun j hj=>by rw[←hcell j hj,Deep.add_add],hy⟩
  obtain⟨f,hf⟩:=Deep.choose_lt each
  refine⟨some b,l,c,(List.range l).map f,rfl,⟨by simp,fun hpos2=>?_⟩,hl,hm,fun h=>by cases h⟩
  obtain⟨bb,off,spot⟩:=b
  have hadd:∀ j,(⟨bb,off,none⟩:Addr).add j=⟨bb,off+j,none⟩:=fun j=>by unfold Addr.add;split <;> simp_all
  obtain⟨cs0,hc0,hC0⟩:=hf 0 hpos2
  have hw0:=Z.wide _ _ _ hC0
  have z0:=hc0 0 hpos
  have e0:cs0[0]? = some (cs0[0]'(by omega)):=by simp[hw0,hpos]
  rw[e0] at z0
  have hspot:spot=none:=by simpa[Addr.add] using World.cell?_spot z0
  subst hspot
  refine⟨bb,off,rfl,by rw[hadd] at z0;exact World.block_lt_of_cell? _ _ z0,fun i hi=>?_⟩
  have hi':i<l:=by simpa using hi
  obtain⟨cs,hcs,hC⟩:=hf i hi'
  rw[List.getElem_map,List.getElem_range]
  refine Z.cr _ _ _ cs _ (fun j u hj=>?_) hC
  have hjl:j<Z.sz:=by rw[←Z.wide _ _ _ hC];exact (List.getElem?_eq_some_iff.1 hj).1
  have:=hcs j hjl
  rw[hadd,←Nat.add_assoc,hj] at this
  exact this
theorem Zfc{cs:List Value}{x:DataW H×List MemPlace}(h:DataW.trod enc Tryz.prog W 0 sp held fuel 59 cs=some x):∃ y,txR.C W cs y:=by
 obtain⟨y0,y1,y2,k,_,hl,h0,h1,h2⟩:=Deep.trod_struct3 Tryz.underlying59 h
 rw[Tryz.cellsTx] at hl
 obtain⟨c0,c1,c2,rfl⟩:=list_three hl
 simp[Tryz.cells3,Tryz.cellsIns,Tryz.cellsOuts] at h0 h1 h2
 obtain⟨hh,e0,_,_⟩:=DataW.trod_int Tryz.underlying3 h0
 obtain⟨ai,ni,ci,I,rfl,hI,sI⟩:=Jp inR Tryz.underlying56 Tryz.cellsIn (by decide) (fun _ _ _ q=>by
  obtain⟨x1,x2,a,n,c,l,rfl,hO,hS⟩:=Mk q
  exact⟨(x1,x2,l),a,n,c,rfl,hO,hS⟩) h1
 obtain⟨ao,no,co,O,rfl,hO,sO⟩:=Jp outR Tryz.underlying57 Tryz.cellsOut (by decide) (fun _ _ _ q=>by
  obtain⟨x1,a,n,c,l,rfl,hO,hS⟩:=Gt q
  exact⟨(x1,l),a,n,c,rfl,hO,hS⟩) h2
 simp only[List.cons.injEq,and_true] at e0
 subst e0
 exact⟨(hh,I,O),ai,ni,ci,ao,no,co,rfl,hI,sI,hO,sO⟩
theorem Qf{t:TypeId}{f0 f1 f2 f3 f4:Field}{cs:List Value}{x:DataW H×List MemPlace}(ht:Tryz.prog.underlying t=some (.struct #[f0,f1,f2,f3,f4]))(h:DataW.trod enc Tryz.prog W 0 sp held fuel t cs=some x) :
  ∃ y0 y1 y2 y3 y4 n,cs.length=Tryz.prog.cellsOf t∧DataW.trod enc Tryz.prog W 0 sp held n f0.type ((cs.drop f0.offset).take (Tryz.prog.cellsOf f0.type))=some y0 ∧
   DataW.trod enc Tryz.prog W 0 sp held n f1.type ((cs.drop f1.offset).take (Tryz.prog.cellsOf f1.type))=some y1∧DataW.trod enc Tryz.prog W 0 sp held n f2.type ((cs.drop f2.offset).take (Tryz.prog.cellsOf f2.type))=some y2 ∧
   DataW.trod enc Tryz.prog W 0 sp held n f3.type ((cs.drop f3.offset).take (Tryz.prog.cellsOf f3.type))=some y3∧DataW.trod enc Tryz.prog W 0 sp held n f4.type ((cs.drop f4.offset).take (Tryz.prog.cellsOf f4.type))=some y4:=by
 obtain⟨xs,n,_,rfl,hl,hlen,hf⟩:=DataW.trod_struct ht h
 match xs,hlen with
 | [y0,y1,y2,y3,y4],_=>exact⟨y0,y1,y2,y3,y4,n,hl,by simpa using hf 0 f0 rfl,by simpa using hf 1 f1 rfl,by simpa using hf 2 f2 rfl,by simpa using hf 3 f3 rfl,by simpa using hf 4 f4 rfl⟩
theorem Zen{cs:List Value}{x:DataW H×List MemPlace}(h:DataW.trod enc Tryz.prog W 0 sp held fuel 39 cs=some x):∃ y,blkR.C W cs y:=by
 obtain⟨y0,y1,y2,y3,y4,k,hl,h0,h1,h2,h3,h4⟩:=Qf Tryz.underlying39 h
 rw[Tryz.cellsBlk] at hl
 obtain⟨c0,c1,c2,c3,c4,rfl⟩:=Sj hl
 simp[Tryz.cells3,Tryz.cellsTxs] at h0 h1 h2 h3 h4
 obtain⟨x0,e0,_,_⟩:=DataW.trod_int Tryz.underlying3 h0
 obtain⟨x1,e1,_,_⟩:=DataW.trod_int Tryz.underlying3 h1
 obtain⟨x2,e2,_,_⟩:=DataW.trod_int Tryz.underlying3 h2
 obtain⟨x3,e3,_,_⟩:=DataW.trod_int Tryz.underlying3 h3
 obtain⟨a,n,c,T,rfl,hT,sT⟩:=Jp txR Tryz.underlying37 Tryz.cellsTx (by decide) (fun _ _ _ q=>Zfc q) h4
 simp only[List.cons.injEq,and_true] at e0 e1 e2 e3
 subst e0 e1 e2 e3
 exact⟨(x0,x1,x2,x3,T),a,n,c,rfl,hT,sT⟩
theorem Zam{v:Value}{x:DataW H×List MemPlace}(h:DataW.trod enc Tryz.prog W 0 sp held fuel 25 [v]=some x):∃ a n c l,v = .slice a n c∧IntsAt W a n l∧SlOk a n c:=by
 rcases open_ints Tryz.underlying25 Tryz.underlying3 (by kernel_rfl) h with ⟨hcs,_⟩|⟨b,l,c,zs,hcs,_,hl,hm,hz,_,hcell,_⟩
 ·simp at hcs
  subst hcs
  exact⟨none,0,0,[],rfl,IntsAt.nil _ _,Nat.le_refl _,Nat.zero_le _,fun _=>⟨rfl,rfl⟩⟩
 ·simp at hcs
  subst hcs
  have hlz:l≤zs.length:=by rw[hz];split <;> omega
  refine⟨some b,l,c,zs.take l,rfl,⟨by rw[List.length_take];omega,fun hpos=>?_⟩,hl,hm,fun h=>by cases h⟩
  obtain⟨bb,off,spot⟩:=b
  have z0:=hcell 0 (by omega)
  have hspot:spot=none:=by simpa[Addr.add] using World.cell?_spot z0
  subst hspot
  have hadd:∀ j,(⟨bb,off,none⟩:Addr).add j=⟨bb,off+j,none⟩:=fun j=>by unfold Addr.add;split <;> simp_all
  refine⟨bb,off,rfl,by rw[hadd] at z0;exact World.block_lt_of_cell? _ _ z0,fun i hi=>?_⟩
  rw[List.length_take] at hi
  have:=hcell i (by omega)
  rw[hadd] at this
  rw[this,List.getElem_take]
  simp[List.getD,(by omega:i<zs.length)]
theorem tree_full{cs:List Value}{x:DataW H×List MemPlace}(h:DataW.trod enc Tryz.prog W 0 sp held fuel 28 cs=some x):∃ a n c b m d N T,cs=[.slice a n c,.slice b m d]∧IntsAt W a n N∧SlOk a n c∧BlksAt W b m T∧SlOk b m d:=by
 obtain⟨y0,y1,k,_,hl,h0,h1⟩:=trod_struct2 Tryz.underlying28 h
 rw[Tryz.cellsTree] at hl
 obtain⟨c0,c1,rfl⟩:=list_two hl
 simp[Tryz.cellsInts,Tryz.cellsBlks] at h0 h1
 obtain⟨a,n,c,N,rfl,hN,sN⟩:=Zam h0
 obtain⟨b,m,d,T,rfl,hT,sT⟩:=Jp blkR Tryz.underlying26 Tryz.cellsBlk (by decide) (fun _ _ _ q=>Zen q) h1
 exact⟨a,n,c,b,m,d,N,T,rfl,hN,sN,hT,sT⟩
end
end Go.Proofs.YtmomfkikogbdeaaGreatDoor.Tr
namespace Go.Proofs.YtmomfkikogbdeaaGreatDoor
open Go.ChangeShapes Go.WideShapes Go.ChangeAt Go.RowKit
theorem Tryz.bytesOp:Tryz.prog.bytesOf 164=16:=by kernel_rfl
theorem Lj{H:Type}{enc:TypeId×Value→H}{W:World}{sp:Nat→Bool}{held:Bool}{fuel:Nat}{v:Value}{x:DataW H×List MemPlace}(h:DataW.trod enc Tryz.prog W 0 sp held fuel 48 [v]=some x) :
  ∃ a n c l,v = .slice a n c∧OpsAt W a n l∧SlOk a n c∧(n=0∨∃ elems spare,x.1 = .slice elems spare∧elems.length=n):=by
 obtain⟨a,n,c,l,hv,hO,hs⟩:=Tr.ops_full h
 refine⟨a,n,c,l,hv,hO,hs,?_⟩
 rcases Deep.open_slice Tryz.underlying48 h with ⟨hcs,_⟩|⟨b,l,c,m,k,D,Pl,hcs,_,hl,hm,_,hx,_⟩
 ·simp at hcs
  rw[hv] at hcs
  injection hcs with _ e _
  exact .inl e
 ·simp at hcs
  rw[hv] at hcs
  injection hcs with _ e _
  subst e
  exact .inr ⟨_,_,by rw[hx],by simp⟩
end Go.Proofs.YtmomfkikogbdeaaGreatDoor
