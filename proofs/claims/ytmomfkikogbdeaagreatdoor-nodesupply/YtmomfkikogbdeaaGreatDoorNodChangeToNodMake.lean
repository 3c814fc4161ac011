/- The contract of change. -/
import Derived.Test.YtmomfkikogbdeaaGreatDoorNodMine
import Derived.Test.YtmomfkikogbdeaaGreatDoorChnKitToPolWorth
import Derived.Test.YtmomfkikogbdeaaGreatDoorCoinCheckBToCoinInsert
import Derived.Test.YtmomfkikogbdeaaGreatDoorPolSweepToNodKnow
set_option maxHeartbeats 12800000
set_option maxRecDepth 10000
namespace Go.Proofs.YtmomfkikogbdeaaGreatDoor
open Go.RowKit
theorem V7{fn:Func}{p q u:Tmp}{ty tz:TypeId}(h:fn.results=#[.cell p ty,.cell q tz,.tmp u])(tmps:Array Value)(P:Program)(w:World) :
  (results fn tmps).run P w =
   ((asAddr (tmps.getD p undef)).run P w).andThen fun a w₁=>((loadVar ty a).run P w₁).andThen fun x w₂=>((asAddr (tmps.getD q undef)).run P w₂).andThen fun b w₃=>((loadVar tz b).run P w₃).andThen fun y w₄=>.ok (.tuple #[x,y,tmps.getD u undef]) w₄:=by
 simp only[results,h]
 simp[Sem.run_bind,Result.andThen]
structure DoC(f:Nat)(caps:Array Value)(w:World)(Zc:Nat→Prop)(D:Dsk)(x:Int)(D':Dsk)(R:Nat→World→Prop):Prop where
 enters:∀ args w,(callFunc f args).run Tryz.prog w = .ok (.enter f args) w
 old:∀ q,Zc q→q<w.heap.size
 on:∀ B V V',R B V→Gr V V' (fun q=>w.heap.size≤q∧q<B)→R B V'
 call:∀ B V d bm m,w.heap.size≤B→Below w.heap.size w V→DeskOn (fun q=>q<B) V d bm m D→B≤d→B≤bm→m≤24 →
  Calls Tryz.prog f (#[.pointer (some ⟨d,0,none⟩)]++caps) V fun e w'=>e = .returned (.int .i64 x)∧Gr V w' (fun q=>q=d∨q=bm∨Zc q)∧(x=0→KeptOn (fun q=>q<B) w' d bm D')∧R B w'
def Dsk.none:Dsk:=⟨[],[],[],[],0,noB⟩
def Zax(w w':World)(x:Int)(D:Dsk)(e:Ending):Prop:=
 ∃ ka kn kc na nn nc ba bn bc pa pn pc,e = .returned (.tuple #[.agg #[.slice ka kn kc],.agg #[.slice na nn nc,.slice ba bn bc,.slice pa pn pc,.int .i64 D.tip],.int .i64 x]) ∧
  Fresh w.heap.size w' (fun w2=>Sp w2 ka kn D.k na nn D.n ba bn D.t pa pn D.p)∧SlOk ka kn kc∧SlOk na nn nc∧SlOk ba bn bc∧SlOk pa pn pc
theorem P5{w w':World}{x:Int}:Zax w w' x Dsk.none (.returned (.tuple #[.agg #[.slice .none 0 0],.agg #[.slice .none 0 0,.slice .none 0 0,.slice .none 0 0,.int .i64 0],.int .i64 x])):=
 ⟨.none,0,0,.none,0,0,.none,0,0,.none,0,0,rfl,fun _ _=>⟨Bk.TextsAt.nil _ _,⟨rfl,fun h=>absurd h (by decide)⟩,RowsAt.nil _ _,RowsAt.nil _ _⟩,Zo,Zo,Zo,Zo⟩
def Zaw(w w':World)(x0 x:Int)(D:Dsk)(Zc:Nat→Prop)(R:Nat→World→Prop)(e:Ending):Prop:=
 (x0≠0∧Zax w w' x0 Dsk.none e∧Below w.heap.size w w') ∨
 (x0=0∧Gr w w' Zc∧R (w.heap.size+4) w'∧((x≠0∧Zax w w' x Dsk.none e)∨(x=0∧Zax w w' 0 D e)))
theorem Mj(ka:Option Addr)(kn kc:Nat)(K:List ByteArray)(na ba pa:Option Addr)(nn nc bn bc pn pc:Nat)(N:List Int)(T:List Zg)(P:List TxD)(tip x0:Int)(w:World)(hE:Env w)(hK:Bk.TextsAt w ka kn K)(hN:Tr.IntsAt w na nn N)(hT:Tr.BlksAt w ba bn T)(hP:TxsAt w pa pn P)(sN:SlOk na nn nc)(sT:SlOk ba bn bc)(sP:SlOk pa pn pc)(hp:pn≤2513169434916)(hq:∀ t∈P,Tr.TxSmall t)(hx:opE K N T P tip=x0)
  (f:Nat) (caps:Array Value) (Zc:Nat→Prop) (x:Int) (D':Dsk) (R:Nat→World→Prop) (hdo:x0=0→DoC f caps w Zc ⟨K,N,T,P,tip,(Xf K N T noB).2⟩ x D' R) :
  Calls Tryz.prog 98 #[.agg #[.slice ka kn kc],.agg #[.slice na nn nc,.slice ba bn bc,.slice pa pn pc,.int .i64 tip],.func (.func f) #[] caps] w fun e w'=>Zaw w w' x0 x D' Zc R e:=by
 obtain⟨X,hX⟩:∃ X,X=Y5 w [.cells #[.slice ka kn kc] 24,.cells #[.slice na nn nc,.slice ba bn bc,.slice pa pn pc,.int .i64 tip] 67,.cells #[.slice none 0 0] 24,.cells #[.slice none 0 0,.slice none 0 0,.slice none 0 0,.int .i64 0] 67]:=⟨_,rfl⟩
 have hX':X=(((w.alloc (.cells #[.slice ka kn kc] 24)).alloc (.cells #[.slice na nn nc,.slice ba bn bc,.slice pa pn pc,.int .i64 tip] 67)).alloc (.cells #[.slice none 0 0] 24)).alloc (.cells #[.slice none 0 0,.slice none 0 0,.slice none 0 0,.int .i64 0] 67):=hX
 have hbX:Below w.heap.size w X:=by rw[hX];exact Z7 _ _
 have hXs:X.heap.size=w.heap.size+4:=by rw[hX];exact Yn _ _
 have x0a:X.heap[w.heap.size]? = some (.cells [.slice ka kn kc].toArray 24 (0,0)):=by rw[hX];exact Zj _ w 0 _ rfl
 have x1a:X.heap[w.heap.size+1]? = some (.cells [.slice na nn nc,.slice ba bn bc,.slice pa pn pc,.int .i64 tip].toArray 67 (0,0)):=by rw[hX];exact Zj _ w 1 _ rfl
 have x2a:X.heap[w.heap.size+2]? = some (.cells [.slice none 0 0].toArray 24 (0,0)):=by rw[hX];exact Zj _ w 2 _ rfl
 have x3a:X.heap[w.heap.size+3]? = some (.cells [.slice none 0 0,.slice none 0 0,.slice none 0 0,.int .i64 0].toArray 67 (0,0)):=by rw[hX];exact Zj _ w 3 _ rfl
 have C1:=hide (Tm ka kn kc K na ba pa nn nc bn bc pn pc N T P tip x0 X (hE.later hbX) (hK.later hbX) (hN.later hbX) (hT.later hbX) (hP.later hbX) sN sT sP hp hq hx)
 have HBX:=hide hbX
 have HXs:=hide hXs
 have HX2:=hide x2a
 have HX3:=hide x3a
 have HDO:=hide hdo
 have t0:=Za x0a 0 _ rfl
 have t1:=Za x1a 0 _ rfl
 have t2:=Za x1a 1 _ rfl
 have t3:=Za x1a 2 _ rfl
 have t4:=Za x1a 3 _ rfl
 have tl:=lt_of_block x0a
 have tl1:=lt_of_block x1a
 clear hE hK hN hT hP sN sT sP hp hq hx hdo hbX hXs x0a x1a x2a x3a hX
 go_enter Tryz.func98,Tryz.ntmps98
 go_wp2_with fail
 rw[←hX']
 clear hX'
 (try go_wp2_with fail)
 refine (unhide C1).mono ?_
 rintro e w1 ⟨hb1,hr⟩
 have HB1:=hide hb1
 have HBW:=hide (bel_on (unhide HBX) hb1)
 have h2:=(hb1.block _ (lt_of_block (unhide HX2))).trans (unhide HX2)
 have h3:=(hb1.block _ (lt_of_block (unhide HX3))).trans (unhide HX3)
 have H2:=hide h2
 have H3:=hide h3
 clear hb1 C1 t0 t1 t2 t3 t4 tl tl1
 rcases hr with ⟨h0,rfl⟩|⟨h0,d,bm,m,rfl,hD,hd,hbm,hm⟩
 ·have gx:(x0 == 0)=false:=by simp[h0]
  have gy:(x0 != 0)=true:=by simp[h0]
  have r20:=Za h2 0 _ rfl
  have r2f:=Zb h2 0
  have r2l:=lt_of_block h2
  have r30:=Za h3 0 _ rfl
  have r31:=Za h3 1 _ rfl
  have r32:=Za h3 2 _ rfl
  have r33:=Za h3 3 _ rfl
  have f30:=Zb h3 0
  have f31:=Zb h3 1
  have f32:=Zb h3 2
  have f33:=Zb h3 3
  have r3l:=lt_of_block h3
  have FIN:Hid (∀ W,Gr w1 W (fun q=>w.heap.size≤q)→Zaw w W x0 x D' Zc R (.returned (.tuple #[.agg #[.slice none 0 0],.agg #[.slice none 0 0,.slice none 0 0,.slice none 0 0,.int .i64 0],.int .i64 x0]))):=fun W g=>
   .inl ⟨h0,P5,g.below (unhide HBW) (unhide HBW).size (fun q e=>e)⟩
  clear h2 h3
  go_wp2
  (try simp only[Exit.inBlock,Exit.then])
  refine bodyPost_ret (v:=.tuple #[.agg #[.slice none 0 0],.agg #[.slice none 0 0,.slice none 0 0,.slice none 0 0,.int .i64 0],.int .i64 x0]) ?_ rfl ?_
  ·rw[V7 rfl]
   go_simp
  ·exact (unhide FIN) _ (((Gr.refl w1 (fun q=>w.heap.size≤q)).one (w.heap.size+2) 0 (.inl (by show w.heap.size≤w.heap.size+2;omega)) _).four (w.heap.size+3) (.inl (by show w.heap.size≤w.heap.size+3;omega)) _ _ _ _)
 ·subst h0
  have DC:=(unhide HDO) rfl
  have hd':w.heap.size+4≤d:=by have:=unhide HXs;omega
  have hbm':w.heap.size+4≤bm:=by have:=unhide HXs;omega
  have D1:=hide (DC.call (w.heap.size+4) w1 d bm m (by omega) (unhide HBW) (by rw[unhide HXs] at hD;exact hD) hd' hbm' hm)
  have eg:=DC.enters
  have HDC:=hide DC
  clear DC hD h2 h3
  go_wp2_with fail
  refine (unhide D1).mono ?_
  rintro e w2 ⟨rfl,g2,hk2,hR2⟩
  have HG2:=hide g2
  have HK2:=hide hk2
  have HR2:=hide hR2
  have hold:=(unhide HDC).old
  have n2:¬(w.heap.size+2=d∨w.heap.size+2=bm∨Zc (w.heap.size+2)):=by
   rintro (e|e|e)
   ·omega
   ·omega
   ·have:=hold _ e;omega
  have n3:¬(w.heap.size+3=d∨w.heap.size+3=bm∨Zc (w.heap.size+3)):=by
   rintro (e|e|e)
   ·omega
   ·omega
   ·have:=hold _ e;omega
  have h2:=g2.heap (unhide H2) n2
  have h3:=g2.heap (unhide H3) n3
  have r20:=Za h2 0 _ rfl
  have r2f:=Zb h2 0
  have r2l:=lt_of_block h2
  have r30:=Za h3 0 _ rfl
  have r31:=Za h3 1 _ rfl
  have r32:=Za h3 2 _ rfl
  have r33:=Za h3 3 _ rfl
  have f30:=Zb h3 0
  have f31:=Zb h3 1
  have f32:=Zb h3 2
  have f33:=Zb h3 3
  have r3l:=lt_of_block h3
  have GW:Hid (∀ W,Gr w2 W (fun q=>q=w.heap.size+2∨q=w.heap.size+3)→Gr w W Zc∧R (w.heap.size+4) W):=fun W g=>by
   refine⟨?_,(unhide HDC).on _ _ _ (unhide HR2) (g.mono (fun q _ e=>by rcases e with e|e <;> (show _∧_;omega)))⟩
   refine ((Gr.of (unhide HBW)).far (unhide HG2) (fun q e=>?_)).far g (fun q e=>.inl (by rcases e with e|e <;> omega))
   rcases e with e|e|e
   ·exact .inl (by omega)
   ·exact .inl (by omega)
   ·exact .inr e
  clear h2 h3 n2 n3 hold g2 hk2 hR2 D1 eg HG2 HR2 H2 H3 HDC
  by_cases z:x=0
  ·subst z
   obtain⟨k1,k1n,k1c,n1,n1n,n1c,b1,b1n,b1c,p1,p1n,p1c,box,dat,s1,s2,s3,s4⟩:=(unhide HK2) rfl
   have d0:=Za box 0 _ rfl
   have d1:=Za box 1 _ rfl
   have d2:=Za box 2 _ rfl
   have d3:=Za box 3 _ rfl
   have d4:=Za box 4 _ rfl
   have dl:=lt_of_block box
   have FIN:Hid (∀ W,Gr w2 W (fun q=>q=w.heap.size+2∨q=w.heap.size+3)→Zaw w W 0 0 D' Zc R (.returned (.tuple #[.agg #[.slice k1 k1n k1c],.agg #[.slice n1 n1n n1c,.slice b1 b1n b1c,.slice p1 p1n p1c,.int .i64 D'.tip],.int .i64 0]))):=fun W g=>
    .inr ⟨rfl,((unhide GW) W g).1,((unhide GW) W g).2,.inr ⟨rfl,k1,k1n,k1c,n1,n1n,n1c,b1,b1n,b1c,p1,p1n,p1c,rfl,fun W2 g2=>dat W2 ((g.mono (fun q _ e=>by
     refine .inr (.inr ?_)
     show q<w.heap.size+4
     rcases e with e|e <;> omega)).trans (g2.mono (fun q _ e=>by
     refine .inr (.inr ?_)
     have e:q<w.heap.size:=e
     show q<w.heap.size+4
     omega))),s1,s2,s3,s4⟩⟩
   have nd2:d≠w.heap.size+2:=by omega
   have nd3:d≠w.heap.size+3:=by omega
   clear HK2 GW box dat s1 s2 s3 s4
   go_wp2_with fail
   go_region
   all_goals
    go_wp2
    (try simp only[Exit.inBlock,Exit.then])
    refine bodyPost_ret (v:=.tuple #[.agg #[.slice k1 k1n k1c],.agg #[.slice n1 n1n n1c,.slice b1 b1n b1c,.slice p1 p1n p1c,.int .i64 D'.tip],.int .i64 0]) ?_ rfl ?_
    ·rw[V7 rfl]
     go_simp
    ·exact (unhide FIN) _ ((((Gr.refl w2 (fun q=>q=w.heap.size+2∨q=w.heap.size+3)).one (w.heap.size+2) 0 (.inl (.inl rfl)) _).four (w.heap.size+3) (.inl (.inr rfl)) _ _ _ _).trans (Gr.of (Ze _)))
  ·have gx:(x == 0)=false:=by simp[z]
   have gy:(x != 0)=true:=by simp[z]
   have FIN:Hid (∀ W,Gr w2 W (fun q=>q=w.heap.size+2∨q=w.heap.size+3)→Zaw w W 0 x D' Zc R (.returned (.tuple #[.agg #[.slice none 0 0],.agg #[.slice none 0 0,.slice none 0 0,.slice none 0 0,.int .i64 0],.int .i64 x]))):=fun W g=>
    .inr ⟨rfl,((unhide GW) W g).1,((unhide GW) W g).2,.inl ⟨z,P5⟩⟩
   clear GW HK2
   go_wp2
   (try simp only[Exit.inBlock,Exit.then])
   refine bodyPost_ret (v:=.tuple #[.agg #[.slice none 0 0],.agg #[.slice none 0 0,.slice none 0 0,.slice none 0 0,.int .i64 0],.int .i64 x]) ?_ rfl ?_
   ·rw[V7 rfl]
    go_simp
   ·exact (unhide FIN) _ (((Gr.refl w2 (fun q=>q=w.heap.size+2∨q=w.heap.size+3)).one (w.heap.size+2) 0 (.inl (.inl rfl)) _).four (w.heap.size+3) (.inl (.inr rfl)) _ _ _ _)
def ofK(K:List (Int×Int))(c:Zd):Bool:=decide (ck c=K)
theorem Ee(L:List Zd)(f:Zd→Bool)(h:∀ z∈L,0≤cv z):0≤Zi (L.filter f)∧Zi (L.filter f)≤Zi L:=by
 induction L with
 | nil=>exact⟨Int.le_refl _,Int.le_refl _⟩
 | cons x r ih=>
  obtain⟨i1,i2⟩:=ih fun z hz=>h z (List.mem_cons_of_mem _ hz)
  have hx:=h x (List.mem_cons_self ..)
  rw[Yi]
  cases q:f x with
  | true=>rw[List.filter_cons_of_pos q,Yi];omega
  | false=>rw[List.filter_cons_of_neg (by rw[q];decide)];omega
theorem Dl(L:List Zd)(f:Zd→Bool)(k:Nat)(h:k<L.length):Zi ((L.take (k+1)).filter f)=if f L[k] then Zi ((L.take k).filter f)+cv L[k] else Zi ((L.take k).filter f):=by
 rw[List.take_succ_eq_append_getElem h,List.filter_append,Yx]
 cases q:f L[k] with
 | true=>rw[List.filter_cons_of_pos q];simp[Zi]
 | false=>rw[List.filter_cons_of_neg (by rw[q];decide)];simp[Zi]
theorem Zbx(x:Zd)(a:Option Addr)(n c:Nat)(ka:Option Addr)(kn kc:Nat)(K:List (Int×Int))(b:Nat)(o:Bool)(w:World)(hn:n≤maxLen)(hA:OpsAt w a n (ck x))(hK:OpsAt w ka kn K)(hb:w.cell? ⟨b,0,none⟩=some (.slice ka kn kc))(ho:ofK K x=o) :
  Calls Tryz.prog 212 #[cnV x a n c,.pointer (some ⟨b,0,none⟩)] w fun e w'=>e = .returned (.bool o)∧Below w.heap.size w w':=by
 unfold cnV
 obtain⟨X,hX⟩:∃ X,X=w.alloc (.cells #[.int .i64 x.1,.int .i64 x.2.1,.int .i64 (cv x),.slice a n c,.int .i64 (ch x),.bool (cr x)] 124):=⟨_,rfl⟩
 have hbX:Below w.heap.size w X:=by rw[hX];exact bel_new _ _
 have hX1:X.heap[w.heap.size]? = some (.cells [.int .i64 x.1,.int .i64 x.2.1,.int .i64 (cv x),.slice a n c,.int .i64 (ch x),.bool (cr x)].toArray 124 (0,0)):=by rw[hX];exact Xn _ _ _ _ _ _ _ _
 have C:=hide (Bs a ka n kn c kc (ck x) K o X hn (hA.later hbX) (hK.later hbX) ho)
 have m3:=Za hX1 3 _ rfl
 have l2:=World.block_lt_of_cell? _ _ hb
 have HBX:=hide hbX
 clear hA hK hX1 hbX ho hn m3
 go_enter Tryz.func212,Tryz.ntmps212
 go_wp2_with fail
 rw[←hX]
 clear hX
 go_wp2_with fail
 refine (unhide C).mono ?_
 rintro e w2 ⟨rfl,hb2⟩
 have HB2:=hide (bel_on (unhide HBX) hb2)
 clear hb2
 go_wp2
 go_ret
 exact⟨rfl,unhide HB2⟩
theorem Ak(a:Option Addr)(n c:Nat)(L:List Zd)(ka:Option Addr)(kn kc:Nat)(K:List (Int×Int))(bk:Nat)(x s:Int)(w:World)(h:CoinsAt w a n L)(hK:OpsAt w ka kn K)(hb:w.cell? ⟨bk,0,none⟩=some (.slice ka kn kc))(hx:Zn L=x)(hs:(if x=0 then Zi (L.filter (ofK K)) else 0)=s) :
  Calls Tryz.prog 80 #[.slice a n c,.func (.func 212) #[] #[.pointer (some ⟨bk,0,none⟩)]] w fun e w'=>e = .returned (.tuple #[.int .i64 s,.int .i64 x])∧Below w.heap.size w w':=by
 have C1:=hide (Xv a n c L x w h hx)
 by_cases e1:x=0
 ·subst e1
  rw[if_pos rfl] at hs
  have hR:=(Zs L).1 hx
  have hn:n≤720:=by rw[←h.1];exact hR.len
  have HSB:Hid (∀ k,0≤Zi ((L.take k).filter (ofK K))∧Zi ((L.take k).filter (ofK K))≤Zi (L.take k)):=fun k=>Ee (L.take k) (ofK K) fun z hz=>by have:=Z9 (hR.one z (List.mem_of_mem_take hz));omega
  have HSC:=hide (fun k=>Qr L k (fun z hz=>by have:=Z9 (hR.one z hz);omega))
  have HV:Hid (∀ z∈L,1≤cv z∧cv z≤1000000000):=fun z hz=>by have:=Z9 (hR.one z hz);omega
  have HL:=hide h
  have HZ:=hide h.1
  have HS:=hide hs
  have HK:=hide hK
  have HBK:=hide hb
  clear hR h hx hs hK hb
  go_enter Tryz.func80,Tryz.ntmps80
  go_wp2_with fail
  refine (unhide C1).mono ?_
  rintro e w2 ⟨rfl,hb2⟩
  have HB2:=hide hb2
  clear hb2 C1
  go_wp2
  go_loopw [7,17] (fun sv i wr=>∃ (k:Nat) (d:Int),k≤n∧sv = .int .i64 d∧i = .int .i64 k∧Hid (d=Zi ((L.take k).filter (ofK K)))∧Hid (Below w.heap.size w wr)) (fun _ i _=>n - (intOf i).toNat)
  case atStart=>exact⟨0,0,Nat.zero_le _,rfl,rfl,rfl,HB2⟩
  case round=>
   obtain⟨k,d,hk,rfl,rfl,A,HB⟩:=hrel
   by_cases hlt:k<n
   ·have hlk:k<L.length:=by rw[unhide HZ];exact hlt
    obtain⟨b,off,rfl,hbl,hcell⟩:=(unhide HL).2 (by omega)
    have hin:=CoinAt.kept _ _ _ _ _ (unhide HB) (hcell k hlk)
    have b1:=(unhide HSB) k
    have b2:=(unhide HSC) k
    have b3:=(unhide HV) L[k] (List.getElem_mem _)
    have hst:=Dl L (ofK K) k hlk
    obtain⟨y,hy⟩:∃ y,L[k]=y:=⟨_,rfl⟩
    rw[hy] at hin hst b3
    obtain⟨la,ln,lc,g0,g1,g2,g3,g4,g5,hO,sO⟩:=hin.val
    obtain⟨v,hv⟩:∃ v,cv y=v:=⟨_,rfl⟩
    obtain⟨o,ho⟩:∃ o,ofK K y=o:=⟨_,rfl⟩
    rw[ho] at hst
    rw[hv] at b3 hst
    rw[←unhide A] at b1 hst
    obtain⟨X,hX⟩:∃ X,X=wr.alloc (.cells #[.int .i64 y.1,.int .i64 y.2.1,.int .i64 v,.slice la ln lc,.int .i64 (ch y),.bool (cr y)] 124):=⟨_,rfl⟩
    have hbX:Below wr.heap.size wr X:=by rw[hX];exact bel_new _ _
    have hX1:X.heap[wr.heap.size]? = some (.cells [.int .i64 y.1,.int .i64 y.2.1,.int .i64 v,.slice la ln lc,.int .i64 (ch y),.bool (cr y)].toArray 124 (0,0)):=by rw[hX];exact Xn _ _ _ _ _ _ _ _
    have m2:=Za hX1 2 _ rfl
    have HBX:=hide (bel_on (unhide HB) hbX)
    have T1:=Zbx y la ln lc ka kn kc K bk o X sO.len (hO.later hbX) ((unhide HK).later (unhide HBX)) (cell_later (unhide HBX) (unhide HBK)) ho
    unfold cnV at T1
    rw[hv] at T1 g2
    have HT1:=hide T1
    obtain⟨sk,hsk⟩:∃ sk,Zi (L.take k)=sk:=⟨_,rfl⟩
    rw[hsk] at b1 b2
    clear hin hy HB T1 hv hX1 hbX hO sO ho hsk
    cases o with
    | true=>
     have hw1:IntKind.i64.wrap (d+v)=d+v:=by rw[IntKind.wrap_i64];omega
     have A2:Hid (d+v=Zi ((L.take (k+1)).filter (ofK K))):=by show _=_;rw[hst];rfl
     clear hst A
     go_wp2_with fail
     rw[←hX]
     clear hX
     refine (unhide HT1).mono ?_
     rintro e w3 ⟨rfl,hb3⟩
     have n2:=cell_later hb3 m2
     have hl3:=World.block_lt_of_cell? _ _ n2
     have HB3:=hide (bel_on (unhide HBX) hb3)
     clear hb3 m2
     go_wp2
     go_roundw
     case rel=>exact⟨k+1,d+v,by omega,rfl,by go_num,A2,HB3⟩
     case measure=>simp[intOf];omega
    | false=>
     have A2:Hid (d=Zi ((L.take (k+1)).filter (ofK K))):=by show _=_;rw[hst];rfl
     clear hst A
     go_wp2_with fail
     rw[←hX]
     clear hX
     refine (unhide HT1).mono ?_
     rintro e w3 ⟨rfl,hb3⟩
     have HB3:=hide (bel_on (unhide HBX) hb3)
     clear hb3 m2
     go_wp2
     go_roundw
     case rel=>exact⟨k+1,d,by omega,rfl,by go_num,A2,HB3⟩
     case measure=>simp[intOf];omega
   ·have e:k=n:=by omega
    subst e
    have R:Hid (d=s):=by
     show _=_
     rw[unhide A,List.take_of_length_le (by rw[unhide HZ];exact Nat.le_refl _)]
     exact unhide HS
    clear A
    go_wp2
    go_ret2
    exact⟨by rw[←unhide R];rfl,unhide HB⟩
 ·rw[if_neg e1] at hs
  subst hs
  have g:(x != 0)=true:=by simp[e1]
  clear h hx e1 hK hb
  go_enter Tryz.func80,Tryz.ntmps80
  go_wp2_with fail
  refine (unhide C1).mono ?_
  rintro e w2 ⟨rfl,hb2⟩
  have HB2:=hide hb2
  clear hb2 C1
  go_wp2
  go_ret2
  exact⟨rfl,unhide HB2⟩
theorem of_is(a:Option Addr)(n c:Nat)(L:List Zd)(ka:Option Addr)(kn kc:Nat)(K:List (Int×Int))(x s:Int)(w:World)(h:CoinsAt w a n L)(hK:OpsAt w ka kn K)(hx:Zn L=x)(hs:(if x=0 then Zi (L.filter (ofK K)) else 0)=s) :
  Calls Tryz.prog 166 #[.slice a n c,.slice ka kn kc] w fun e w'=>e = .returned (.tuple #[.int .i64 s,.int .i64 x])∧Below w.heap.size w w':=by
 obtain⟨X,hX⟩:∃ X,X=w.alloc (.cells #[.slice ka kn kc] 48):=⟨_,rfl⟩
 have hbX:Below w.heap.size w X:=by rw[hX];exact bel_new _ _
 have hX1:X.heap[w.heap.size]? = some (.cells [.slice ka kn kc].toArray 48 (0,0)):=by rw[hX];exact heap_alloc_new w _
 have C:=hide (Ak a n c L ka kn kc K w.heap.size x s X (h.later hbX) (hK.later hbX) (Za hX1 0 _ rfl) hx hs)
 have HBX:=hide hbX
 clear h hx hs hK hX1 hbX
 go_enter Tryz.func166,Tryz.ntmps166
 go_wp2_with fail
 rw[←hX]
 clear hX
 go_wp2_with fail
 refine (unhide C).mono ?_
 rintro e w2 ⟨rfl,hb2⟩
 have HB2:=hide (bel_on (unhide HBX) hb2)
 clear hb2
 go_wp2
 go_ret2
 exact⟨rfl,unhide HB2⟩
theorem Th{K:List ByteArray}{N:List Int}{T:List Zg}{P:List TxD}{tip:Int}(h:opE K N T P tip=0):Bk.bkChk K=0∧Tr.bstD N T=(tip,0)∧(Xf K N T noB).1=0∧poE K N T P tip (Xf K N T noB).2=0:=by
 unfold opE at h
 split at h
 ·rename_i q;exact absurd h q
 rename_i h1
 split at h
 ·rename_i q;exact absurd h q
 rename_i h2
 split at h
 ·cases h
 rename_i h3
 split at h
 ·rename_i q;exact absurd h q
 rename_i h4
 refine⟨Decidable.not_not.1 h1,?_,Decidable.not_not.1 h4,h⟩
 exact Prod.ext (Decidable.not_not.1 h3) (Decidable.not_not.1 h2)
section
variable (ka : Option Addr) (kn kc : Nat) (K : List ByteArray) (na ba pa : Option Addr) (nn nc bn bc pn pc : Nat) (N : List Int) (T : List Zg) (P : List TxD) (tip x : Int) (w : World) (hE : Env w) (hK : Bk.TextsAt w ka kn K) (hN : Tr.IntsAt w na nn N) (hT : Tr.BlksAt w ba bn T) (hP : TxsAt w pa pn P) (sN : SlOk na nn nc) (sT : SlOk ba bn bc) (sP : SlOk pa pn pc) (hp : pn ≤ 2513169434916) (hq : ∀ t ∈ P, Tr.TxSmall t) (hx : opE K N T P tip = x)
include hE hK hN hT hP sN sT sP hp hq hx
theorem Fd:Calls Tryz.prog 39 #[.agg #[.slice ka kn kc],.agg #[.slice na nn nc,.slice ba bn bc,.slice pa pn pc,.int .i64 tip]] w fun e w'=>e = .returned (.int .i64 x)∧Below w.heap.size w w':=by
 obtain⟨X,hX⟩:∃ X,X=Y5 w [.cells #[.slice ka kn kc] 24,.cells #[.slice na nn nc,.slice ba bn bc,.slice pa pn pc,.int .i64 tip] 67]:=⟨_,rfl⟩
 have hX':X=(w.alloc (.cells #[.slice ka kn kc] 24)).alloc (.cells #[.slice na nn nc,.slice ba bn bc,.slice pa pn pc,.int .i64 tip] 67):=hX
 have hbX:Below w.heap.size w X:=by rw[hX];exact Z7 _ _
 have x0:X.heap[w.heap.size]? = some (.cells [.slice ka kn kc].toArray 24 (0,0)):=by rw[hX];exact Zj _ w 0 _ rfl
 have x1:X.heap[w.heap.size+1]? = some (.cells [.slice na nn nc,.slice ba bn bc,.slice pa pn pc,.int .i64 tip].toArray 67 (0,0)):=by rw[hX];exact Zj _ w 1 _ rfl
 have C1:=hide (Tm ka kn kc K na ba pa nn nc bn bc pn pc N T P tip x X (hE.later hbX) (hK.later hbX) (hN.later hbX) (hT.later hbX) (hP.later hbX) sN sT sP hp hq hx)
 have HBX:=hide hbX
 have t0:=Za x0 0 _ rfl
 have t1:=Za x1 0 _ rfl
 have t2:=Za x1 1 _ rfl
 have t3:=Za x1 2 _ rfl
 have t4:=Za x1 3 _ rfl
 have tl:=lt_of_block x0
 have tl1:=lt_of_block x1
 clear hE hK hN hT hP sN sT sP hp hq hx hbX x0 x1 hX
 go_enter Tryz.func39,Tryz.ntmps39
 go_wp2_with fail
 rw[←hX']
 clear hX'
 (try go_wp2_with fail)
 refine (unhide C1).mono ?_
 rintro e w1 ⟨hb1,hr⟩
 have HBW:=hide (bel_on (unhide HBX) hb1)
 clear hb1 C1 t0 t1 t2 t3 t4 tl tl1
 rcases hr with ⟨h0,rfl⟩|⟨h0,d,bm,m,rfl,_,_,_,_⟩
 ·go_wp2
  go_ret
  exact⟨rfl,unhide HBW⟩
 ·subst h0
  go_wp2
  go_ret
  exact⟨rfl,unhide HBW⟩
theorem Jp(C:List Zd)(hC:(if x=0 then (Xf K N T noB).2 tip else [])=C):Calls Tryz.prog 40 #[.agg #[.slice ka kn kc],.agg #[.slice na nn nc,.slice ba bn bc,.slice pa pn pc,.int .i64 tip]] w fun e w'=>∃ a n c,e = .returned (.tuple #[.slice a n c,.int .i64 x])∧CoinsAt w' a n C∧SlOk a n c∧Below w.heap.size w w':=by
 obtain⟨X,hX⟩:∃ X,X=Y5 w [.cells #[.slice ka kn kc] 24,.cells #[.slice na nn nc,.slice ba bn bc,.slice pa pn pc,.int .i64 tip] 67]:=⟨_,rfl⟩
 have hX':X=(w.alloc (.cells #[.slice ka kn kc] 24)).alloc (.cells #[.slice na nn nc,.slice ba bn bc,.slice pa pn pc,.int .i64 tip] 67):=hX
 have hbX:Below w.heap.size w X:=by rw[hX];exact Z7 _ _
 have x0:X.heap[w.heap.size]? = some (.cells [.slice ka kn kc].toArray 24 (0,0)):=by rw[hX];exact Zj _ w 0 _ rfl
 have x1:X.heap[w.heap.size+1]? = some (.cells [.slice na nn nc,.slice ba bn bc,.slice pa pn pc,.int .i64 tip].toArray 67 (0,0)):=by rw[hX];exact Zj _ w 1 _ rfl
 have C1:=hide (Tm ka kn kc K na ba pa nn nc bn bc pn pc N T P tip x X (hE.later hbX) (hK.later hbX) (hN.later hbX) (hT.later hbX) (hP.later hbX) sN sT sP hp hq hx)
 have HWF:Hid (x=0→(Lit.int .i64 tip).wf=true):=fun e=>(Rq (Th (hx.trans e)).2.1).1
 have HBX:=hide hbX
 have HC:=hide hC
 have t0:=Za x0 0 _ rfl
 have t1:=Za x1 0 _ rfl
 have t2:=Za x1 1 _ rfl
 have t3:=Za x1 2 _ rfl
 have t4:=Za x1 3 _ rfl
 have tl:=lt_of_block x0
 have tl1:=lt_of_block x1
 clear hE hK hN hT hP sN sT sP hp hq hx hbX x0 x1 hX hC
 go_enter Tryz.func40,Tryz.ntmps40
 go_wp2_with fail
 rw[←hX']
 clear hX'
 (try go_wp2_with fail)
 refine (unhide C1).mono ?_
 rintro e w1 ⟨hb1,hr⟩
 have HBW:=hide (bel_on (unhide HBX) hb1)
 clear hb1 C1 t0 t1 t2 t3 t4 tl tl1
 rcases hr with ⟨h0,rfl⟩|⟨h0,d,bm,m,rfl,hD,_,_,_⟩
 ·have gy:(x != 0)=true:=by simp[h0]
  have hc:=unhide HC
  rw[if_neg h0] at hc
  have FIN:Hid (∃ a n c,(Ending.returned (.tuple #[.slice none 0 0,.int .i64 x])) = .returned (.tuple #[.slice a n c,.int .i64 x])∧CoinsAt w1 a n C∧SlOk a n c∧Below w.heap.size w w1):=⟨none,0,0,rfl,hc ▸ RowsAt.nil _ _,Zo,unhide HBW⟩
  clear hc HC HWF
  go_wp2
  go_ret2
  exact unhide FIN
 ·subst h0
  obtain⟨k1,k1n,k1c,n1,n1n,n1c,b1,b1n,b1c,p1,p1n,p1c,f,hq⟩:=hD
  obtain⟨ca,cn,cc,hf,hcc,sc⟩:=hq.c tip
  have hc:=unhide HC
  rw[if_pos rfl] at hc
  rw[hc] at hcc
  have D2:=hide (Uq hq ((unhide HWF) rfl))
  rw[hf] at D2
  have HCC:=hide hcc
  have HSC:=hide sc
  clear hq hcc sc hf hc HC HWF
  go_wp2_with fail
  refine (unhide D2).mono ?_
  rintro e w2 ⟨rfl,hb2⟩
  have FIN:Hid (∃ a n c,(Ending.returned (.tuple #[.slice ca cn cc,.int .i64 0])) = .returned (.tuple #[.slice a n c,.int .i64 0])∧CoinsAt w2 a n C∧SlOk a n c∧Below w.heap.size w w2):=⟨ca,cn,cc,rfl,(unhide HCC).later hb2,unhide HSC,bel_on (unhide HBW) hb2⟩
  clear hb2 HCC HSC D2
  go_wp2
  go_ret2
  exact unhide FIN
theorem Kw(la:Option Addr)(ln lc:Nat)(l:List (Int×Int))(hl:OpsAt w la ln l)(C:List Zd)(hC:(if x=0 then (Xf K N T noB).2 tip else [])=C)(y s:Int)(hy:(if x=0 then Zn C else x)=y)(hs:(if y=0 then Zi (C.filter (ofK l)) else 0)=s):Calls Tryz.prog 101 #[.agg #[.slice ka kn kc],.agg #[.slice na nn nc,.slice ba bn bc,.slice pa pn pc,.int .i64 tip],.slice la ln lc] w fun e w'=>e = .returned (.tuple #[.int .i64 s,.int .i64 y])∧Below w.heap.size w w':=by
 obtain⟨X,hX⟩:∃ X,X=Y5 w [.cells #[.slice ka kn kc] 24,.cells #[.slice na nn nc,.slice ba bn bc,.slice pa pn pc,.int .i64 tip] 67]:=⟨_,rfl⟩
 have hX':X=(w.alloc (.cells #[.slice ka kn kc] 24)).alloc (.cells #[.slice na nn nc,.slice ba bn bc,.slice pa pn pc,.int .i64 tip] 67):=hX
 have hbX:Below w.heap.size w X:=by rw[hX];exact Z7 _ _
 have x0:X.heap[w.heap.size]? = some (.cells [.slice ka kn kc].toArray 24 (0,0)):=by rw[hX];exact Zj _ w 0 _ rfl
 have x1:X.heap[w.heap.size+1]? = some (.cells [.slice na nn nc,.slice ba bn bc,.slice pa pn pc,.int .i64 tip].toArray 67 (0,0)):=by rw[hX];exact Zj _ w 1 _ rfl
 have C1:=hide (Jp ka kn kc K na ba pa nn nc bn bc pn pc N T P tip x X (hE.later hbX) (hK.later hbX) (hN.later hbX) (hT.later hbX) (hP.later hbX) sN sT sP hp hq hx C hC)
 have HL:=hide (hl.later hbX)
 have HBX:=hide hbX
 have HY:=hide hy
 have HS:=hide hs
 have t0:=Za x0 0 _ rfl
 have t1:=Za x1 0 _ rfl
 have t2:=Za x1 1 _ rfl
 have t3:=Za x1 2 _ rfl
 have t4:=Za x1 3 _ rfl
 have tl:=lt_of_block x0
 have tl1:=lt_of_block x1
 clear hE hK hN hT hP sN sT sP hp hq hx hbX x0 x1 hX hl hC hy hs
 go_enter Tryz.func101,Tryz.ntmps101
 go_wp2_with fail
 rw[←hX']
 clear hX'
 (try go_wp2_with fail)
 refine (unhide C1).mono ?_
 rintro e w1 ⟨ca,cn,cc,rfl,hc,_,hb1⟩
 have HBW:=hide (bel_on (unhide HBX) hb1)
 have HCC:=hide hc
 have HL1:=hide ((unhide HL).later hb1)
 clear hb1 C1 t0 t1 t2 t3 t4 tl tl1 hc
 by_cases h0:x=0
 ·have hy:=unhide HY
  rw[if_pos h0] at hy
  have D2:=hide (of_is ca cn cc C la ln lc l y s w1 (unhide HCC) (unhide HL1) hy (unhide HS))
  subst h0
  clear hy HY HS HCC HL1
  go_wp2_with fail
  refine (unhide D2).mono ?_
  rintro e w2 ⟨rfl,hb2⟩
  have HB2:=hide (bel_on (unhide HBW) hb2)
  clear hb2 D2
  go_wp2
  go_ret2
  exact⟨rfl,unhide HB2⟩
 ·have gy:(x != 0)=true:=by simp[h0]
  have hy:=unhide HY
  rw[if_neg h0] at hy
  have hs:=unhide HS
  rw[if_neg (by rw[←hy];exact h0)] at hs
  subst hy hs
  clear HY HS HCC HL1
  go_wp2
  go_ret2
  exact⟨rfl,unhide HBW⟩
end
theorem KeptOn.on{Z Z':Nat→Prop}{w w':World}{d bm:Nat}{D:Dsk}(h:KeptOn Z w d bm D)(g:Gr w w' Z')(hz:∀ q,Z' q→Z q)(hd:¬Z' d):KeptOn Z w' d bm D:=by
 obtain⟨q1,q2,q3,q4,q5,q6,q7,q8,q9,q10,q11,q12,box,dat,s⟩:=h
 exact⟨q1,q2,q3,q4,q5,q6,q7,q8,q9,q10,q11,q12,g.heap box hd,fun W g2=>dat W ((g.mono (fun q _ e=>.inr (.inr (hz q e)))).trans g2),s⟩
theorem Es{D:Dsk}{wk no:Int}{lk:List (Int×Int)}(h:(mnR D wk no lk).1≠0):(mnR D wk no lk).2.1=zeroB:=by
 unfold mnR at h ⊢
 split
 ·rfl
 rename_i h1
 rw[if_neg h1] at h
 split
 ·rfl
 rename_i h2
 rw[if_neg h2] at h
 exact absurd rfl h
def Zcu(bb:Nat)(b:Zg)(B:Nat)(V:World):Prop:=
 ∃ a n c,V.heap[bb]? = some (.cells [.int .i64 b.1,.int .i64 b.2.1,.int .i64 b.2.2.1,.int .i64 b.2.2.2.1,.slice a n c].toArray 39 (0,0))∧(∀ W,Gr V W (fun q=>q<B)→TxsAt W a n b.2.2.2.2)∧SlOk a n c
theorem Ev(w:World)(b1 b2 b3 bb:Nat)(wk no:Int)(la:Option Addr)(ln lc:Nat)(l:List (Int×Int))(K:List ByteArray)(N:List Int)(T:List Zg)(P:List TxD)(tip:Int)(β : Int→List Zd)(x:Int)(b:Zg)(D':Dsk)(hE:Env w)(hl:OpsAt w la ln l)(sl:SlOk la ln lc)(hn:ln≤8796093022208)(ht:(Lit.int .i64 tip).wf=true)(h1:0≤Yo N T tip)(h2:Yo N T tip≤1000)
  (c1:w.cell? ⟨b1,0,none⟩=some (.int .i64 wk)) (c2:w.cell? ⟨b2,0,none⟩=some (.int .i64 no)) (c3:w.cell? ⟨b3,0,none⟩=some (.slice la ln lc)) (hbb:w.heap[bb]? = some (.cells [.int .i64 0,.int .i64 0,.int .i64 0,.int .i64 0,.slice none 0 0].toArray 39 (0,0))) (hx:mnR ⟨K,N,T,P,tip,β⟩ wk no l=(x,b,D')) :
  DoC 112 #[.pointer (some ⟨b1,0,none⟩),.pointer (some ⟨b2,0,none⟩),.pointer (some ⟨b3,0,none⟩),.pointer (some ⟨bb,0,none⟩)] w (fun q=>q=bb) ⟨K,N,T,P,tip,β⟩ x D' (Zcu bb b) where
 enters:=enters_of (fn:=Tryz.f112) (by kernel_rfl) (by kernel_rfl) rfl
 old q e:=by have e:q=bb:=e;exact e ▸ lt_of_block hbb
 on B V V':=by
  rintro ⟨a,n,c,h1,h2,h3⟩ g
  have lb:=lt_of_block hbb
  refine⟨a,n,c,g.heap h1 (fun e=>by have:=e.1;omega),fun W g2=>h2 W ((g.mono (fun q _ e=>e.2)).trans g2),h3⟩
 call B V d bm m hB hV hD hd hbm hm:=by
  obtain⟨k1,k1n,k1c,n1,n1n,n1c,t1,t1n,t1c,p1,p1n,p1c,f,hq⟩:=hD
  have lb:=lt_of_block hbb
  have C1:=hide (Ca hq w hV hE (by omega) (by omega) (by omega) ht h1 h2 wk no la ln lc l (hl.later hV) sl hn x b D' hx)
  have hbv:=(hV.block _ lb).trans hbb
  have q1:=cell_later hV c1
  have q2:=cell_later hV c2
  have q3:=cell_later hV c3
  have q1l:=World.block_lt_of_cell? _ _ q1
  have q2l:=World.block_lt_of_cell? _ _ q2
  have q3l:=World.block_lt_of_cell? _ _ q3
  have HBV:=hide hbv
  have HVS:=hide hV.size
  have HDL:=hide (lt_of_block hq.box)
  clear hq hE hl sl hn ht h1 h2 hx hbv hbb c1 c2 c3
  show Calls Tryz.prog 112 #[.pointer (some ⟨d,0,none⟩),.pointer (some ⟨b1,0,none⟩),.pointer (some ⟨b2,0,none⟩),.pointer (some ⟨b3,0,none⟩),.pointer (some ⟨bb,0,none⟩)] V _
  go_enter Tryz.func112,Tryz.ntmps112
  go_wp2_with fail
  refine (unhide C1).mono ?_
  rintro e w1 ⟨a5,n5,c5,rfl,hF,s5,g1,hk⟩
  dsimp only[blkV]
  have hb1:=g1.heap (unhide HBV) (by rintro (e|e) <;> omega)
  have r0:=Za hb1 0 _ rfl
  have r1:=Za hb1 1 _ rfl
  have r2:=Za hb1 2 _ rfl
  have r3:=Za hb1 3 _ rfl
  have r4:=Za hb1 4 _ rfl
  have f0:=Zb hb1 0
  have f1:=Zb hb1 1
  have f2:=Zb hb1 2
  have f3:=Zb hb1 3
  have f4:=Zb hb1 4
  have rl:=lt_of_block hb1
  have FIN:Hid (∀ W,W=(((((w1.setCell ⟨bb,0,none⟩ (.int .i64 b.1)).setCell ⟨bb,1,none⟩ (.int .i64 b.2.1)).setCell ⟨bb,2,none⟩ (.int .i64 b.2.2.1)).setCell ⟨bb,3,none⟩ (.int .i64 b.2.2.2.1)).setCell ⟨bb,4,none⟩ (.slice a5 n5 c5))→Gr V W (fun q=>q=d∨q=bm∨q=bb)∧(x=0→KeptOn (fun q=>q<B) W d bm D')∧Zcu bb b B W):=fun W hW=>by
   have g2:Gr w1 W (fun q=>q=bb):=by rw[hW];exact (Gr.refl w1 (fun q=>q=bb)).five bb (.inl rfl) _ _ _ _ _
   have hvl:V.heap.size≥B:=by have:=unhide HDL;omega
   refine⟨(g1.mono (fun q _ e=>?_)).trans (g2.mono (fun q _ e=>.inr (.inr e))),fun e=>(hk e).on g2 (fun q e=>?_) (fun e=>?_),a5,n5,c5,?_,fun W2 g3=>hF W2 ((g2.mono (fun q _ e=>?_)).trans (g3.mono (fun q _ e=>?_))),s5⟩
   ·rcases e with e|e
    ·exact .inl e
    ·exact .inr (.inl e)
   ·have e:q=bb:=e;show q<B;omega
   ·have e:d=bb:=e;omega
   ·rw[hW];exact Tr.set_cells (Tr.set_cells (Tr.set_cells (Tr.set_cells (Tr.set_cells hb1 0 _) 1 _) 2 _) 3 _) 4 _
   ·have e:q=bb:=e;show q<V.heap.size;omega
   ·have e:q<B:=e;show q<V.heap.size;omega
  clear hF s5 g1 hk hb1 C1 HBV q1 q2 q3 q1l q2l q3l
  go_wp2
  go_ret
  exact⟨rfl,(unhide FIN) _ rfl⟩
def nmR(K:List ByteArray)(N:List Int)(T:List Zg)(P:List TxD)(tip wk no:Int)(l:List (Int×Int)):Int×Zg×Dsk:=
 if opE K N T P tip≠0 then (opE K N T P tip,zeroB,Dsk.none) else
 if (mnR ⟨K,N,T,P,tip,(Xf K N T noB).2⟩ wk no l).1≠0 then ((mnR ⟨K,N,T,P,tip,(Xf K N T noB).2⟩ wk no l).1,zeroB,Dsk.none) else
 (0,(mnR ⟨K,N,T,P,tip,(Xf K N T noB).2⟩ wk no l).2.1,(mnR ⟨K,N,T,P,tip,(Xf K N T noB).2⟩ wk no l).2.2)
def NmkR(w w':World)(x:Int)(b:Zg)(D:Dsk)(e:Ending):Prop:=
 ∃ ka kn kc na nn nc ba bn bc pa pn pc a n c,e = .returned (.tuple #[.agg #[.slice ka kn kc],.agg #[.slice na nn nc,.slice ba bn bc,.slice pa pn pc,.int .i64 D.tip],blkV b a n c,.int .i64 x]) ∧
  Fresh w.heap.size w' (fun w2=>Sp w2 ka kn D.k na nn D.n ba bn D.t pa pn D.p∧TxsAt w2 a n b.2.2.2.2)∧SlOk ka kn kc∧SlOk na nn nc∧SlOk ba bn bc∧SlOk pa pn pc∧SlOk a n c∧Below w.heap.size w w'
end Go.Proofs.YtmomfkikogbdeaaGreatDoor
