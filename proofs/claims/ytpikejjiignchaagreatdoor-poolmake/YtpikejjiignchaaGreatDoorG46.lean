import Derived.Test.YtpikejjiignchaaGreatDoorG45
set_option maxHeartbeats 12800000
set_option maxRecDepth 10000
namespace Go.Proofs.YtpikejjiignchaaGreatDoor
open Go.RowKit
def AcI(b lo hi N0:Nat)(p:Nat)(D:Nat→Prop)(w:World)(X:List (TxD×List Zg)):Prop:=
 ∃ va vc K,PSt b p w (.slice va (X.map (·.1)).length vc) K (X.map (·.1))∧N0≤p∧D=DV lo hi (.slice va (X.map (·.1)).length vc)
theorem Zho(b lo hi:Nat)(w0:World)(C0:List Zg)(hb:w0.heap[b]? = some (.cells #[.slice none 0 0] 48 (0,0)))(h1:lo≤b∧b<hi)(hhi:hi≤w0.heap.size) :
  Zia 51 #[.pointer (some ⟨b,0,none⟩)] w0 C0 (D0 lo hi) (AcI b lo hi w0.heap.size) where
 enters:=enters_of (fn:=Tryz.f51) (by kernel_rfl) (by kernel_rfl) rfl
 start p w hw hp pl:=⟨none,0,[],PSt.start ((hw.block b (by omega)).trans hb) (by omega) pl,hp,rfl⟩
 dirty p D w X:=by
  rintro ⟨va,vc,K,h,hp,rfl⟩ q hq
  exact DV.dirty h hhi hp q hq
 on p D w w' X:=by
  rintro ⟨va,vc,K,h,hp,hD⟩ g
  exact⟨va,vc,K,h.on g (fun q e=>by subst e;exact⟨Nat.le_refl _,by omega⟩),hp,hD⟩
 call p D wA w X t C' u0 u1 u2:=by
  rintro ⟨va,vc,K,h,hp,rfl⟩ hbw hF r1 r2 r3 hl
  refine (Bp b p va vc K (X.map (·.1)) _ u0 u1 u2 t wA w h hbw hF (by rw[List.length_map];exact hl)).mono ?_
  rintro e w' ⟨rfl,⟨v',K',hS⟩,hg⟩
  obtain⟨a,c,rfl,_,_⟩:=hS.txs
  have e1:(X++[(t,C')]).map (·.1)=X.map (·.1)++[t]:=by simp
  refine⟨rfl,hg.mono (fun q _ e=>?_),DV lo hi (.slice a ((X++[(t,C')]).map (·.1)).length c),a,c,K',?_,hp,rfl⟩
  ·rcases e with e|e
   ·subst e;exact .inl h1
   ·exact .inr e
  ·rw[e1];exact hS
def AccR(w w':World)(x:Int)(K:List ByteArray)(L:List TxD)(e:Ending):Prop:=
 ∃ ka kn kc sa sn sc,e = .returned (.tuple #[.agg #[.slice ka kn kc],.slice sa sn sc,.int .i64 x])∧Fresh w.heap.size w' (fun w2=>Bk.TextsAt w2 ka kn K∧TxsAt w2 sa sn L)∧SlOk ka kn kc∧SlOk sa sn sc∧Below w.heap.size w w'
theorem AccR.err{w w':World}{x y:Int}{K:List ByteArray}{L:List TxD}{b:Nat}{v:Value}(h:(x,K,L)=(y,[],[]))(hb:Below w.heap.size w w')(hB:w.heap.size≤b):AccR w (w'.setCell ⟨b,0,none⟩ v) x K L (.returned (.tuple #[.agg #[.slice none 0 0],.slice none 0 0,.int .i64 y])):=by
 simp only[Prod.mk.injEq] at h
 obtain⟨rfl,rfl,rfl⟩:=h
 exact⟨_,_,_,_,_,_,rfl,fun _ _=>⟨Bk.TextsAt.nil _ _,RowsAt.nil _ _⟩,Xm,Xm,hb.setCell (p:=⟨b,0,none⟩) hB _⟩
theorem Gr.unset(w:World)(b i:Nat)(u:Value):Gr (w.setCell ⟨b,i,none⟩ u) w (fun q=>q=b):=
 ⟨rfl,rfl,rfl,by simp[World.setCell],fun k _ hn=>(Below.heap_setCell w ⟨b,i,none⟩ u k (fun e=>hn e)).symm⟩
theorem Gz(ka:Option Addr)(kn kc:Nat)(K:List ByteArray)(la:Option Addr)(ln lc:Nat)(C:List Zg)(a:Option Addr)(m c:Nat)(L:List TxD)(th:Int)(ai ao:Option Addr)(ni ci no co:Nat)(I:List InD)(O:List Zw)(h x:Int)(K':List ByteArray)(L':List TxD)(w:World)
  (hE:Env w) (hK:Bk.TextsAt w ka kn K) (hC:CoinsAt w la ln C) (sC:SlOk la ln lc) (hL:TxsAt w a m L) (hI:InsAt w ai ni I) (hO:OutsAt w ao no O) (sI:SlOk ai ni ci) (sO:SlOk ao no co) (hx:acE K C L (th,I,O) h=(x,K',L')) :
  Calls Tryz.prog 20 #[.agg #[.slice ka kn kc],.slice la ln lc,.slice a m c,.agg #[.int .i64 th,.slice ai ni ci,.slice ao no co],.int .i64 h] w fun e w'=>AccR w w' x K' L' e:=by
 obtain⟨i0,hi,hz0,hz1,hz2⟩:=info_parts Tryz.infoTx9
 obtain⟨X,hX⟩:∃ X,X=Ui w [.cells #[.slice ka kn kc] 24,.cells #[.int .i64 th,.slice ai ni ci,.slice ao no co] 52,.cells #[.slice none 0 0] 24,.cells #[.slice none 0 0] 48]:=⟨_,rfl⟩
 have hbX:Below w.heap.size w X:=by rw[hX];exact Wa _ _
 have hXs:X.heap.size=w.heap.size+4:=by rw[hX];exact Jm _ _
 have x0:X.heap[w.heap.size]? = some (.cells #[.slice ka kn kc] 24 (0,0)):=by rw[hX];exact Yg _ w 0 _ rfl
 have x1:X.heap[w.heap.size+1]? = some (.cells [.int .i64 th,.slice ai ni ci,.slice ao no co].toArray 52 (0,0)):=by rw[hX];exact Yg _ w 1 _ rfl
 have x2:X.heap[w.heap.size+2]? = some (.cells #[.slice none 0 0] 24 (0,0)):=by rw[hX];exact Yg _ w 2 _ rfl
 have x3:X.heap[w.heap.size+3]? = some (.cells #[.slice none 0 0] 48 (0,0)):=by rw[hX];exact Yg _ w 3 _ rfl
 have hX':X=(((w.alloc (.cells #[.slice ka kn kc] 24)).alloc (.cells #[.int .i64 th,.slice ai ni ci,.slice ao no co] 52)).alloc (.cells #[.slice none 0 0] 24)).alloc (.cells #[.slice none 0 0] 48):=hX
 have hKp:=Zho (w.heap.size+3) (w.heap.size+3) (w.heap.size+4) X C x3 (by omega) (by omega)
 have hin:∀ V,Gr X V (D0 (w.heap.size+3) (w.heap.size+4))→Below w.heap.size w V:=fun V g=>g.below hbX hbX.size (fun q e=>by have:=e.ge;omega)
 obtain⟨x1e,hx1⟩:∃ x1e,swE K C L h=x1e:=⟨_,rfl⟩
 have C1:=Zb (Lc _ _ _ _ ka kn kc K la ln lc C a m c L h x1e X hKp w hin hE hK hC sC hL hx1)
 obtain⟨⟨S1,K1,Cc⟩,hsw⟩:∃ r,Yb h L (K,C)=r:=⟨_,rfl⟩
 have e1:(swT h L (K,C)).map (·.1)=S1:=by rw[Rv,hsw]
 obtain⟨⟨y,K2,C2⟩,hdo⟩:∃ r,doD h (K1,Cc) (th,I,O)=r:=⟨_,rfl⟩
 obtain⟨o,ho⟩:∃ o,(S1.any fun z=>Vm z (th,I,O))=o:=⟨_,rfl⟩
 obtain⟨n,hn⟩:∃ n,S1.length=n:=⟨_,rfl⟩
 unfold acE at hx
 simp only[hx1,hsw,hdo,ho,hn] at hx
 have HX:=Zb hx
 have HBX:=Zb hbX
 have HXs:=Zb hXs
 have HIN:=Zb hin
 have HX1:=Zb x1
 have HX2:=Zb x2
 have HX1E:=Zb hx1
 have HSW:=Zb hsw
 have HE1:=Zb e1
 have HDO:=Zb hdo
 have HO:=Zb ho
 have HN:=Zb hn
 have HE:=Zb hE
 have HI:=Zb hI
 have HOO:=Zb hO
 have HSI:=Zb sI
 have HSO:=Zb sO
 have t0:=Zd (X:=[.slice ka kn kc]) x0 0 _ rfl
 have tl:=lt_of_block x0
 clear hE hK hC sC hL hx hx1 hbX hXs x0 x1 x2 x3 hX hKp hin hsw e1 hdo ho hn hI hO sI sO
 go_enter Tryz.func20,Tryz.ntmps20
 go_wp2_with fail
 rw[←hX']
 clear hX'
 (try go_wp2_with fail)
 refine (Za C1).mono ?_
 rintro e w1 hres
 rcases hres with ⟨h0,rfl,hb1⟩|⟨h0,p,D,rfl,hp,hg1,hd,hI⟩
 ·have y2:=(hb1.block _ (lt_of_block (Za HX2))).trans (Za HX2)
  have y20:=Zd (X:=[.slice none 0 0]) y2 0 _ rfl
  have y2f:=Zh y2 0
  have y2l:=lt_of_block y2
  have gx:(x1e == 0)=false:=by simp[h0]
  have gx2:¬x1e=0:=h0
  have gx3:(x1e != 0)=true:=by simp[h0]
  have HXE:Hid ((x,K',L')=(x1e,[],[])):=by have:=Za HX;rw[if_pos h0] at this;exact this.symm
  have HB:=Zb (Ze (Za HBX) hb1)
  clear hb1 y2 C1 HX
  go_wp2
  (try simp only[Exit.inBlock,Exit.then])
  refine bodyPost_ret (v:=.tuple #[.agg #[.slice none 0 0],.slice none 0 0,.int .i64 x1e]) ?_ rfl ?_
  ·rw[Bk.results_cell_tmp2 rfl]
   go_simp
  ·exact AccR.err (b:=w.heap.size+2) (Za HXE) (Za HB) (by omega)
 ·subst h0
  obtain⟨va,vc,Kl,hS,_,_⟩:=hI
  rw[Za HE1,Za HN] at hS
  have hsw:=Za HSW
  rw[hsw] at hd
  simp only at hd
  have hb1:=(Za HIN) w1 hg1
  have HB1:=Zb hb1
  have z1:=(hg1.block _ (lt_of_block (Za HX1)) (fun e=>by have:=e.ge;omega)).trans (Za HX1)
  have z2:=(hg1.block _ (lt_of_block (Za HX2)) (fun e=>by have:=e.ge;omega)).trans (Za HX2)
  have hop:=Qe (Rw (Za HX1E)).1
  have hsc:=Ru (h:=h) L K C hop.1 hop.2.1
  have hsr:=(Gh (h:=h) L K C hop.1).1
  rw[hsw] at hsc hsr
  simp only at hsc hsr
  have hn8:n≤8:=by have q1:=P5 h L (K,C);have q2:=(Rw (Za HX1E)).2;have q3:=congrArg List.length (Za HE1);rw[List.length_map] at q3;have q4:=Za HN;omega
  have hS':PSt (w.heap.size+3) p w1 (.slice va S1.length vc) Kl S1:=by rw[Za HN];exact hS
  obtain⟨htx,hsk⟩:=hS'.reads (Gr.refl w1 (fun _=>False)) (fun _ q=>q.elim)
  rw[Za HN] at htx hsk
  have TT:=M8 (w.heap.size+1) th ai ao ni ci no co I O w1 z1 ((Za HI).later hb1) ((Za HOO).later hb1)
  have C2c:=Zb (Kj _ _ _ va n vc S1 o w1 TT htx hsk.len (Za HO))
  have HS:=Zb hS
  have HD:=Zb hd
  have HRC:=Zb hsc.1
  have HRK:=Zb hsr
  have HZ1:=Zb z1
  have HZ2:=Zb z2
  have HP:=Zb hp
  have b0:=Zd (X:=[_]) hS.box 0 _ rfl
  have bl:=lt_of_block hS.box
  have a1:=Zd z1 0 _ rfl
  have al:=lt_of_block z1
  clear hS hS' hd hb1 z1 z2 hop hsc hsr htx hsk TT hsw C1
  go_wp2_with fail
  refine (Za C2c).mono ?_
  rintro e w2 ⟨rfl,hb2⟩
  have HB2:=Zb (Ze (Za HB1) hb2)
  have H12:=Zb hb2
  clear hb2 C2c b0 bl a1 al
  cases o
  ·have z12:=((Za H12).block _ (lt_of_block (Za HZ1))).trans (Za HZ1)
   have z22:=((Za H12).block _ (lt_of_block (Za HZ2))).trans (Za HZ2)
   have CD:=Zb (Zco p K1 Cc h th ai ao ni ci no co I O y K2 C2 w2 ((Za HE).later (Za HB2)) ((Za HD).later (Za H12)).till (Za HRC) ((Za HI).later (Za HB2)) ((Za HOO).later (Za HB2)) (Za HSI) (Za HDO))
   have a0:=Zd z12 0 _ rfl
   have a1:=Zd z12 1 _ rfl
   have a2:=Zd z12 2 _ rfl
   have al:=lt_of_block z12
   have HZ12:=Zb z12
   have HZ22:=Zb z22
   clear z12 z22
   go_wp2_with fail
   refine (Za CD).mono ?_
   rintro e w3 hdo
   clear a0 a1 a2 al CD
   rcases hdo with ⟨n0,rfl,hb3⟩|⟨n0,rfl,hg3,hd3⟩
   ·have y2:=(hb3.block _ (lt_of_block (Za HZ22))).trans (Za HZ22)
    have y20:=Zd (X:=[.slice none 0 0]) y2 0 _ rfl
    have y2f:=Zh y2 0
    have y2l:=lt_of_block y2
    have gx:(y == 0)=false:=by simp[n0]
    have gx2:¬y=0:=n0
    have gx3:(y != 0)=true:=by simp[n0]
    have HXE:Hid ((x,K',L')=(y,[],[])):=by have:=Za HX;rw[if_neg (fun q=>q rfl),if_neg (by decide),if_pos n0] at this;exact this.symm
    have HB:=Zb (Ze (Za HB2) hb3)
    clear hb3 y2 HX
    go_wp2
    (try simp only[Exit.inBlock,Exit.then])
    refine bodyPost_ret (v:=.tuple #[.agg #[.slice none 0 0],.slice none 0 0,.int .i64 y]) ?_ rfl ?_
    ·rw[Bk.results_cell_tmp2 rfl]
     go_simp
    ·exact AccR.err (b:=w.heap.size+2) (Za HXE) (Za HB) (by omega)
   ·subst n0
    have hpn:w.heap.size+4≤p:=by have:=Za HXs;have:=Za HP;omega
    have hS3:=((Za HS).on (Gr.of (S:=fun _=>False) (Za H12)) (fun _ q=>q.elim)).on hg3 (fun q e=>by subst e;exact⟨Nat.le_refl _,by omega⟩)
    have z13:=(hg3.block _ (lt_of_block (Za HZ12)) (fun e=>by have e:w.heap.size+1=p:=e;omega)).trans (Za HZ12)
    have z23:=(hg3.block _ (lt_of_block (Za HZ22)) (fun e=>by have e:w.heap.size+2=p:=e;omega)).trans (Za HZ22)
    have hb3:Below w.heap.size w w3:=hg3.below (Za HB2) (Za HB2).size (fun q e=>by have e:q=p:=e;omega)
    have HB3:=Zb hb3
    have HZ13:=Zb z13
    have b0:=Zd (X:=[_]) hS3.box 0 _ rfl
    have bl:=lt_of_block hS3.box
    have y2:=z23
    have y20:=Zd (X:=[.slice none 0 0]) y2 0 _ rfl
    have y2f:=Zh y2 0
    have y2l:=lt_of_block y2
    by_cases e8:n=8
    ·subst e8
     have HXE:Hid ((x,K',L')=(12,[],[])):=by have:=Za HX;rw[if_neg (fun q=>q rfl),if_neg (by decide),if_neg (fun q=>q rfl),if_pos rfl] at this;exact this.symm
     clear HX hS3 z13 z23 y2 hb3 hg3 hd3
     go_wp2
     (try simp only[Exit.inBlock,Exit.then])
     refine bodyPost_ret (v:=.tuple #[.agg #[.slice none 0 0],.slice none 0 0,.int .i64 12]) ?_ rfl ?_
     ·rw[Bk.results_cell_tmp2 rfl]
      go_simp
     ·exact AccR.err (b:=w.heap.size+2) (Za HXE) (Za HB3) (by omega)
    ·have g8:((n:Int) == 8)=false:=by simp;omega
     have g82:¬((n:Int)=8):=by omega
     have HXE:Hid ((x,K',L')=(0,K2,S1++[(th,I,O)])):=by have:=Za HX;rw[if_neg (fun q=>q rfl),if_neg (by decide),if_neg (fun q=>q rfl),if_neg e8] at this;exact this.symm
     obtain⟨ka2,kn2,kc2,la2,ln2,lc2,hp3,hF3,sk3,sl3⟩:=hd3
     have sm:=Tr.tx_small (Hk (Za HDO)).1
     have CT:=Zb (fun V (hv:Below w3.heap.size w3 V)=>Tr.clTx_is th ai ao ni ci no co I O V ((Za HI).later (Ze hb3 hv)) ((Za HOO).later (Ze hb3 hv)) (Za HSI) (Za HSO) (by rw[←(Za HI).1];exact sm.1) (by rw[←(Za HOO).1];exact sm.2.1) sm.2.2.1 sm.2.2.2)
     have p0:=Zd hp3 0 _ rfl
     have pl:=lt_of_block hp3
     have a0:=Zd z13 0 _ rfl
     have a1:=Zd z13 1 _ rfl
     have a2:=Zd z13 2 _ rfl
     have al:=lt_of_block z13
     have KS:Hid (∀ U:World,Gr w3 U (fun q=>p<q∨q=w.heap.size+2)→((U.cell? ⟨p,0,none⟩=some (.slice ka2 kn2 kc2)∧p<U.heap.size)∧(U.cell? ⟨w.heap.size+1,0,none⟩=some (.int .i64 th)∧U.cell? ⟨w.heap.size+1,1,none⟩=some (.slice ai ni ci)∧U.cell? ⟨w.heap.size+1,2,none⟩=some (.slice ao no co)∧w.heap.size+1<U.heap.size)∧U.cell? ⟨w.heap.size+3,0,none⟩=some (.slice va n vc)∧w.heap.size+3<U.heap.size)):=fun U hu=>⟨⟨hu.cell p0 (by simp;omega),Nat.lt_of_lt_of_le pl hu.size⟩,⟨hu.cell a0 (by simp;omega),hu.cell a1 (by simp;omega),hu.cell a2 (by simp;omega),Nat.lt_of_lt_of_le al hu.size⟩,hu.cell b0 (by simp;omega),Nat.lt_of_lt_of_le bl hu.size⟩
     have HS3:=Zb hS3
     have HF3:=Zb hF3
     have HSK3:=Zb sk3
     have HZ23:=Zb z23
     have HN3:=Zb (show ∀ q,(Value.slice va n vc).ownBlock=some q→p<q∧q<w2.heap.size from fun q hq=>⟨by have:=(hS3.own.lt q hq).1;omega,Nat.lt_of_lt_of_le ((Za HS).own.lt q hq).2 (Za H12).size⟩)
     clear HX hS3 z13 z23 y2 hb3 hg3 hp3 hF3 sk3 sl3 sm a0 a1 a2 al p0 pl y20 y2f y2l
     go_upto_region 11 with fail
     clear b0 bl
     refine wp_region_held_drew (S:=fun U=>(U.cell? ⟨p,0,none⟩=some (.slice ka2 kn2 kc2)∧p<U.heap.size)∧(U.cell? ⟨w.heap.size+1,0,none⟩=some (.int .i64 th)∧U.cell? ⟨w.heap.size+1,1,none⟩=some (.slice ai ni ci)∧U.cell? ⟨w.heap.size+1,2,none⟩=some (.slice ao no co)∧w.heap.size+1<U.heap.size)∧U.cell? ⟨w.heap.size+3,0,none⟩=some (.slice va n vc)∧w.heap.size+3<U.heap.size) (by kernel_rfl) ((Za KS) _ (Gr.of (Zi _))) (fun Zic=>?_)
     refine tk 0 ⟨some 51,.move (.tmp 14),111, "pool.go:42",#[],none⟩ ?_ rfl ?_ Zic ?_
     rotate_left
     ·(intro U hSw;obtain⟨⟨s1,s2⟩,⟨s3,s4,s5,s6⟩,s7,s8⟩:=hSw;go_simp;first|done|with_reducible rfl)
     (try simp only[Act.put,ZA,ZB,ZC])
     refine tk 1 ⟨some 52,.nilCheck (.tmp 51),0, "pool.go:42",#[⟨0,.data⟩],none⟩ ?_ rfl ?_ Zic ?_
     rotate_left
     ·(intro U hSw;obtain⟨⟨s1,s2⟩,⟨s3,s4,s5,s6⟩,s7,s8⟩:=hSw;go_simp;first|done|with_reducible rfl)
     (try simp only[Act.put,ZA,ZB,ZC])
     refine tk 2 ⟨some 53,.fieldAddr 116 (.tmp 52) 0,0, "pool.go:42",#[⟨1,.data⟩],none⟩ ?_ rfl ?_ Zic ?_
     rotate_left
     ·(intro U hSw;obtain⟨⟨s1,s2⟩,⟨s3,s4,s5,s6⟩,s7,s8⟩:=hSw;go_simp;first|done|with_reducible rfl)
     (try simp only[Act.put,ZA,ZB,ZC])
     refine tk 3 ⟨some 54,.load 24 (.tmp 53),24, "pool.go:42",#[⟨2,.data⟩],none⟩ ?_ rfl ?_ Zic ?_
     rotate_left
     ·(intro U hSw;obtain⟨⟨s1,s2⟩,⟨s3,s4,s5,s6⟩,s7,s8⟩:=hSw;go_simp;first|done|with_reducible rfl)
     (try simp only[Act.put,ZA,ZB,ZC])
     refine tk 4 ⟨some 55,.load 48 (.tmp 13),48, "pool.go:42",#[],none⟩ ?_ rfl ?_ Zic ?_
     rotate_left
     ·(intro U hSw;obtain⟨⟨s1,s2⟩,⟨s3,s4,s5,s6⟩,s7,s8⟩:=hSw;go_simp;first|done|with_reducible rfl)
     (try simp only[Act.put,ZA,ZB,ZC])
     refine tk 5 ⟨some 56,.load 52 (.tmp 8),52, "pool.go:42",#[],none⟩ ?_ rfl ?_ Zic ?_
     rotate_left
     ·(intro U hSw;obtain⟨⟨s1,s2⟩,⟨s3,s4,s5,s6⟩,s7,s8⟩:=hSw;go_simp;first|done|with_reducible rfl)
     (try simp only[Act.put,ZA,ZB,ZC])
     refine wpAnyH_ready (rs:=[6]) (by kernel_rfl) (by simp) ?_
     refine AllReadyH.cons (o:=⟨some 57,.call { callee:=Callee.value (.func 56),args:=#[.tmp 56],argTypes:=#[52] },52, "pool.go:42",#[⟨5,.data⟩],none⟩) rfl (fun KQ hK=>?_) AllReadyH.nil
     refine Yf (by kernel_rfl) 56 #[.agg #[.int .i64 th,.slice ai ni ci,.slice ao no co]] (by kernel_rfl) ((Za CT) w3.drew (Zi _)) ?_
     rintro e w4 ⟨a1,c1,a2,c2,rfl,hF4,hb4⟩
     refine⟨_,rfl,?_⟩
     have hb34:Below w3.heap.size w3 w4:=Ze (Zi w3) hb4
     refine hK.out _ _ ((Za KS) _ (Gr.of hb34)) (fun Zid=>?_)
     clear hK KQ Zic
     have Zic:=Zid
     clear Zid
     (try simp only[Act.put,ZA,ZB,ZC])
     refine wpAnyH_ready (rs:=[7]) (by kernel_rfl) (by simp) ?_
     refine AllReadyH.cons (o:=⟨some 58,.buildSlice 48 1 #[(0,.tmp 57)],48, "pool.go:42",#[⟨6,.data⟩],none⟩) rfl (fun KQ hK=>?_) AllReadyH.nil
     go_simp
     obtain⟨w5,hw5⟩:∃ w5,w5=w4.alloc (.cells #[.int .i64 th,.slice a1 ni c1,.slice a2 no c2] 52):=⟨_,rfl⟩
     rw[←hw5]
     have hb45:Below w4.heap.size w4 w5:=by rw[hw5];exact Zf _ _
     have h5:w5.heap[w4.heap.size]? = some (.cells #[.int .i64 th,.slice a1 ni c1,.slice a2 no c2] 52 (0,0)):=by rw[hw5];exact Zl _ _ _ _ _
     have hb35:=Ze hb34 hb45
     have own5:w5.ownsRow (p+1) 52 3 (.slice va n vc) n Kl.flatten:=by have:=(Gr.of (S:=fun _=>False) hb35).own (Za HS3).own (fun _ _ q=>q);rw[Za HN] at this;exact this
     have hp5:p+1≤w5.heap.size:=by have:=(Za HS3).pl;have:=hb35.size;omega
     refine hK.out _ _ ((Za KS) _ (Gr.of hb35)) (fun Zid=>?_)
     clear hK KQ Zic
     have Zic:=Zid
     clear Zid
     (try simp only[Act.put,ZA,ZB,ZC])
     refine wpAnyH_ready (rs:=[8]) (by kernel_rfl) (by simp) ?_
     refine AllReadyH.cons (o:=⟨some 59,.call { callee:=Callee.builtin Builtin.append,args:=#[.tmp 55,.tmp 58],argTypes:=#[48,48] },48, "pool.go:42",#[⟨4,.data⟩,⟨7,.data⟩,⟨6,.chain⟩],none⟩) rfl (fun KQ hK=>?_) AllReadyH.nil
     refine step_append_lies _ rfl _ _ 48 rfl (p+1) 52 i0 (.agg #[.int .i64 0,.slice none 0 0,.slice none 0 0]) 3 56 Tryz.underlying48 hi hz0 hz1 hz2 rfl (by decide) (.slice va n vc) n Kl.flatten rfl own5 ⟨w4.heap.size,0,none⟩ 1 1 [.int .i64 th,.slice a1 ni c1,.slice a2 no c2] rfl rfl (World.news_of_block h5) (fun u hu=>by simp at hu;rcases hu with rfl|rfl|rfl <;> rfl) (by decide) (by unfold maxLen;omega) (by omega) hp5 _ rfl ?_
     intro g6 cap6 w6 hown6 hgrow6 hor6 _
     have hg36:Gr w3 w6 (fun q=>p<q∧q<w2.heap.size):=(Gr.of hb35).grown hgrow6 (fun q e=>.inl ((Za HN3) q e))
     have z26:=(hg36.block _ (lt_of_block (Za HZ23)) (fun e=>by omega)).trans (Za HZ23)
     have y20:=Zd (X:=[.slice none 0 0]) z26 0 _ rfl
     have y2f:=Zh z26 0
     have y2l:=lt_of_block z26
     refine hK.out _ _ ((Za KS) _ (hg36.mono (fun q _ e=>.inl e.1))) (fun Zid=>?_)
     clear hK KQ Zic
     have Zic:=Zid
     clear Zid
     (try simp only[Act.put,ZA,ZB,ZC])
     refine wpAnyH_ready (rs:=[9]) (by kernel_rfl) (by simp) ?_
     refine AllReadyH.cons (o:=⟨none,.store 24 (.tmp 10) (.tmp 54),0, "pool.go:42",#[⟨3,.data⟩,⟨8,.chain⟩,⟨0,.phase⟩,⟨1,.phase⟩,⟨2,.phase⟩,⟨3,.phase⟩,⟨4,.textOnly .lateStores⟩,⟨5,.textOnly .lateStores⟩,⟨6,.textOnly .lateStoresUnsure⟩,⟨7,.textOnly .lateStores⟩,⟨8,.textOnly .lateStoresUnsure⟩],none⟩) rfl (fun KQ hK=>?_) AllReadyH.nil
     go_simp
     refine hK.out _ _ ((Za KS) _ ((hg36.mono (fun q _ e=>.inl e.1)).one (w.heap.size+2) 0 (.inl (.inr rfl)) _)) (fun Zid=>?_)
     clear hK KQ Zic
     have Zic:=Zid
     clear Zid
     (try simp only[Act.put])
     refine tk 10 ⟨some 11,.assign (.tmp 59),48, "pool.go:42",#[⟨8,.data⟩,⟨9,.chain⟩,⟨0,.phase⟩,⟨1,.phase⟩,⟨2,.phase⟩,⟨3,.phase⟩,⟨4,.phase⟩,⟨5,.phase⟩,⟨6,.phase⟩,⟨7,.phase⟩,⟨8,.phase⟩,⟨9,.phase⟩],none⟩ ?_ rfl ?_ Zic ?_
     rotate_left
     ·(intro U hSw;(try dsimp only at hSw);go_simp;first|done|with_reducible rfl)
     (try simp only[Act.put,ZA,ZB,ZC])
     refine tk 11 ⟨some 12,.assign (.const (Value.int IntKind.i64 0)),30, "pool.go:42",#[⟨10,.chain⟩,⟨0,.phase⟩,⟨1,.phase⟩,⟨2,.phase⟩,⟨3,.phase⟩,⟨4,.phase⟩,⟨5,.phase⟩,⟨6,.phase⟩,⟨7,.phase⟩,⟨8,.phase⟩,⟨9,.phase⟩,⟨10,.phase⟩],none⟩ ?_ rfl ?_ Zic ?_
     rotate_left
     ·(intro U hSw;(try dsimp only at hSw);go_simp;first|done|with_reducible rfl)
     (try simp only[Act.put,ZA,ZB,ZC])
     refine wpAnyH_done (by kernel_rfl) ?_ _
     clear Zic
     have hS4:=(Za HS3).on (Gr.of (S:=fun _=>False) (Zi w3)) (fun _ q=>q.elim)
     have PU:=(PSt.push (v':=.slice (some ⟨g6,0,none⟩) (n+1) cap6) (t:=(th,I,O)) hS4 hb4 hF4 hb45 hgrow6 (by rw[Za HN];exact hown6) (by
      rcases hor6 with q|q
      ·exact .inl q
      ·exact .inr ⟨g6,rfl,by omega⟩)).1
     have FIN:Hid (AccR w (w6.setCell ⟨w.heap.size+2,0,none⟩ (.slice ka2 kn2 kc2)) x K' L' (.returned (.tuple #[.agg #[.slice ka2 kn2 kc2],.slice (some ⟨g6,0,none⟩) (n+1) cap6,.int .i64 0]))):=by
      have hxe:=Za HXE
      simp only[Prod.mk.injEq] at hxe
      obtain⟨rfl,rfl,rfl⟩:=hxe
      have el:(S1++[(th,I,O)]).length=n+1:=by rw[List.length_append,Za HN];rfl
      rw[←el] at PU ⊢
      have s12:=(Za H12).size
      have sB2:=(Za HB2).size
      have z2l:=lt_of_block (Za HZ22)
      refine⟨ka2,kn2,kc2,_,_,cap6,rfl,fun W2 g2=>⟨((Za HF3) W2 ?_).1,(PU.reads (S:=fun q=>q≤p) ?_ (fun _ q=>q)).1⟩,Za HSK3,(PU.reads (Gr.refl _ (fun _=>False)) (fun _ q=>q.elim)).2,?_⟩
      ·exact ((hg36.mono (T:=fun q=>q<w2.heap.size) (fun q _ e=>e.2)).one (w.heap.size+2) 0 (.inl z2l) _).trans (g2.mono (fun q _ e=>by omega))
      ·exact (((Gr.unset w6 (w.heap.size+3) 0 _).mono (fun q _ e=>by have e:q=w.heap.size+3:=e;omega)).one (w.heap.size+2) 0 (.inl (by omega)) _).trans (g2.mono (fun q _ e=>by omega))
      ·exact ((hg36.mono (T:=fun q=>p<q∨q=w.heap.size+2) (fun q _ e=>.inl e.1)).one (w.heap.size+2) 0 (.inl (.inr rfl)) _).below (Za HB3) (Za HB3).size (fun q e=>by omega)
     clear PU hS4 hg36 hown6 hgrow6 hor6 own5 h5 hb35 hb45 hb34 hb4 hF4
     go_wp2_with fail
     (try simp only[Exit.inBlock,Exit.then])
     refine bodyPost_ret (v:=.tuple #[.agg #[.slice ka2 kn2 kc2],.slice (some ⟨g6,0,none⟩) (n+1) cap6,.int .i64 0]) ?_ rfl ?_
     ·rw[Bk.results_cell_tmp2 rfl]
      go_simp
     ·exact Za FIN
  ·have y2:=((Za H12).block _ (lt_of_block (Za HZ2))).trans (Za HZ2)
   have y20:=Zd (X:=[.slice none 0 0]) y2 0 _ rfl
   have y2f:=Zh y2 0
   have y2l:=lt_of_block y2
   have HXE:Hid ((x,K',L')=(6,[],[])):=by have:=Za HX;rw[if_neg (fun q=>q rfl),if_pos rfl] at this;exact this.symm
   clear HX y2
   go_wp2
   (try simp only[Exit.inBlock,Exit.then])
   refine bodyPost_ret (v:=.tuple #[.agg #[.slice none 0 0],.slice none 0 0,.int .i64 6]) ?_ rfl ?_
   ·rw[Bk.results_cell_tmp2 rfl]
    go_simp
   ·exact AccR.err (b:=w.heap.size+2) (Za HXE) (Za HB2) (by omega)
theorem Kr(ad:Addr)(n c:Nat)(l:List (Int×Int))(w:World)(hn:n≤8796093022208)(hz:l.length=n)(hc:∀ j u,(Xo l)[j]? = some u→w.cell? (ad.add j)=some u) :
  Calls Tryz.prog 102 #[.slice (some ad) n c] w fun e w'=>∃ v,e = .returned v∧w'.ownsRow w.heap.size 122 2 v n (Xo l)∧Below w.heap.size w w':=by
 obtain⟨i0,hi,hz0,hz1,hz2⟩:=info_parts Tryz.infoOpC
 have hb:=Zf w (.cells #[] 122)
 have HC:Hid (∀ j u,(Xo l)[j]? = some u→(w.alloc (.cells #[] 122)).cell? (ad.add j)=some u):=fun j u hj=>Zc hb (hc j u hj)
 have HB:=Zb hb
 have HZ:=Zb hz
 have HO:=Zb (V3 w 122 2)
 have he:=fun w=>Lib.run_eql_slice_nil (P:=Tryz.prog) w 66 122 (some ad) n c 0 0 Tryz.underlying66
 clear hc hb hz
 go_enter Tryz.func102,Tryz.ntmps102
 go_wp2_with (at_builtin;refine wpList_append_own _ rfl _ _ 66 rfl w.heap.size 122 i0 (.agg #[.int .i64 0,.int .i64 0]) 2 16 Tryz.underlying66 hi hz0 hz1 hz2 rfl (by decide) _ _ _ rfl (Za HO) ad n c (Xo l) rfl (by rw[Xp,Za HZ]) (Za HC) (Jw l) (by unfold maxLen;omega) (by omega) (Za HB).size ?_;intro v2 w3 hown3 hgrow3 _)
 have HW:Hid (w3.ownsRow w.heap.size 122 2 v2 n (Xo l)):=by show World.ownsRow _ _ _ _ _ _ _;simpa using hown3
 have HB3:=Zb ((Za HB).grown hgrow3 (Za HB).size (Yk (Za HO)))
 clear hown3 hgrow3
 go_wp2
 go_ret
 exact⟨v2,rfl,Za HW,Za HB3⟩
theorem Mt(a:Option Addr)(n c:Nat)(l:List (Int×Int))(w:World)(hn:n≤8796093022208)(h:OpsAt w a n l)(hs:SlOk a n c) :
  Calls Tryz.prog 102 #[.slice a n c] w fun e w'=>∃ a' c',e = .returned (.slice a' n c')∧Fresh w.heap.size w' (fun w2=>OpsAt w2 a' n l)∧SlOk a' n c'∧Below w.heap.size w w':=by
 obtain⟨hl,hc⟩:=h
 cases a with
 | none=>
  obtain⟨rfl,rfl⟩:=hs.2.2 rfl
  exact (Ji w).mono fun e w' ⟨x,y⟩=>⟨none,0,x,fun _ _=>⟨hl,fun h=>absurd h (by omega)⟩,hs,y ▸ Below.refl _ _⟩
 | some ad=>
  have hc2:∀ j u,(Xo l)[j]? = some u→w.cell? (ad.add j)=some u:=fun j u hj=>by
   have hjl:j<l.length*2:=by rw[←Xp];exact (List.getElem?_eq_some_iff.1 hj).1
   obtain⟨b,off,e,hcell⟩:=hc (by omega)
   cases e
   rw[Addr.add_lit]
   exact Jg hl hcell j u hj
  refine (Kr ad n c l w hn hl hc2).mono ?_
  rintro e w' ⟨v,rfl,x,y⟩
  obtain⟨a',c',rfl,h1,h2,h3⟩:=Js x
  refine⟨a',c',rfl,fun w2 g2=>?_,h2,y⟩
  obtain⟨a2,c2,e2,h4,_,_⟩:=Js (g2.own x (fun k hk e=>by have:=(x.lt k hk).1;omega))
  injection e2 with e2 _ _
  subst e2
  exact h4
theorem Zfg(h v:Int)(a:Option Addr)(n c:Nat)(l:List (Int×Int))(w:World)(hn:n≤8796093022208)(hl:OpsAt w a n l)(hs:SlOk a n c) :
  Calls Tryz.prog 67 #[.int .i64 h,.int .i64 v,.slice a n c] w fun e w'=>∃ ao,e = .returned (.agg #[.int .i64 h,.slice none 0 0,.slice ao 1 1])∧Fresh w.heap.size w' (fun w2=>Tr.txR.C w2 [.int .i64 h,.slice none 0 0,.slice ao 1 1] (Uj h v l))∧Below w.heap.size w w':=by
 obtain⟨X,hX⟩:∃ X,X=w.alloc (.cells #[.int .i64 0,.slice none 0 0,.slice none 0 0] 52):=⟨_,rfl⟩
 have hbX:Below w.heap.size w X:=by rw[hX];exact Zf _ _
 have hX0:X.heap[w.heap.size]? = some (.cells [.int .i64 0,.slice none 0 0,.slice none 0 0].toArray 52 (0,0)):=by rw[hX];exact Zl _ _ _ _ _
 have hXs:X.heap.size=w.heap.size+1:=by rw[hX];simp
 have C1:=Zb (Mt a n c l X hn (hl.later hbX) hs)
 have HBX:=Zb hbX
 have HX0:=Zb hX0
 have HXS:=Zb hXs
 clear hl hs hbX hX0 hn hXs
 go_enter Tryz.func67,Tryz.ntmps67
 go_wp2_with fail
 rw[←hX]
 clear hX
 (try go_wp2_with fail)
 refine (Za C1).mono ?_
 rintro e w1 ⟨a1,c1,rfl,hF,hs1,hb1⟩
 have h1:=(hb1.block _ (lt_of_block (Za HX0))).trans (Za HX0)
 have t0:=Zd h1 0 _ rfl
 have t1:=Zd h1 1 _ rfl
 have t2:=Zd h1 2 _ rfl
 have f0:=Zh h1 0
 have f1:=Zh h1 1
 have f2:=Zh h1 2
 have tl:=lt_of_block h1
 have HB1:=Zb (Ze (Za HBX) hb1)
 have FIN:Hid (∀ W,Gr w1 W (fun q=>q=w.heap.size)→W.heap[w1.heap.size]? = some (.cells [.int .i64 v,.slice a1 n c1].toArray 101 (0,0))→Fresh w.heap.size W (fun w2=>Tr.txR.C w2 [.int .i64 h,.slice none 0 0,.slice (some ⟨w1.heap.size,0,none⟩) 1 1] (Uj h v l))∧Below w.heap.size w W):=fun W g h2=>by
  refine⟨fun w2 g2=>?_,g.below (Za HB1) (Za HB1).size (fun q e=>by rw[e];exact Nat.le_refl _)⟩
  have gg:Gr w1 w2 (fun q=>q<X.heap.size):=(g.mono (fun q _ e=>by have:=Za HXS;rw[e];omega)).trans (g2.mono (fun q _ e=>by have:=Za HXS;omega))
  have h3:=g2.heap h2 (by have:=(Za HB1).size;omega)
  refine⟨none,0,0,some ⟨w1.heap.size,0,none⟩,1,1,rfl,RowsAt.nil _ _,Xm,⟨rfl,fun _=>⟨w1.heap.size,0,rfl,lt_of_block h3,fun i hi=>?_⟩⟩,⟨Nat.le_refl _,by decide,fun e=>by cases e⟩⟩
  have ei:i=0:=by simp[Uj] at hi;omega
  subst ei
  exact⟨Zd h3 0 _ rfl,a1,n,c1,Zd h3 1 _ rfl,hF w2 gg,hs1⟩
 clear hF hs1 hb1 h1 C1
 go_wp2
 (try simp only[Exit.inBlock,Exit.then])
 refine bodyPost_ret (v:=.agg #[.int .i64 h,.slice none 0 0,.slice (some ⟨w1.heap.size,0,none⟩) 1 1]) ?_ rfl ?_
 ·rw[Yn rfl]
  go_simp
 ·refine⟨_,rfl,(Za FIN) _ ?_ ?_⟩
  ·exact ((((Gr.refl w1 (fun q=>q=w.heap.size)).one w.heap.size 0 (.inl rfl) _).one w.heap.size 1 (.inl rfl) _).one w.heap.size 2 (.inl rfl) _).new _
  ·have:=heap_alloc_new (((w1.setCell ⟨w.heap.size,0,none⟩ (.int .i64 h)).setCell ⟨w.heap.size,1,none⟩ (.slice none 0 0)).setCell ⟨w.heap.size,2,none⟩ (.slice (some ⟨w1.heap.size,0,none⟩) 1 1)) (.cells #[.int .i64 v,.slice a1 n c1] 101)
   simpa[World.setCell] using this
end Go.Proofs.YtpikejjiignchaaGreatDoor
