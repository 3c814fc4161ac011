import Derived.Test.YtmomfkikogbdeaaGreatDoorG40
set_option maxHeartbeats 12800000
set_option maxRecDepth 10000
namespace Go.Proofs.YtmomfkikogbdeaaGreatDoor
open Go.RowKit
theorem Ug{fn:Func}{p q u:Tmp}{ty tz:TypeId}(h:fn.results=#[.cell p ty,.cell q tz,.tmp u])(tmps:Array Value)(P:Program)(w:World) :
  (results fn tmps).run P w =
   ((asAddr (tmps.getD p undef)).run P w).andThen fun a w₁=>((loadVar ty a).run P w₁).andThen fun x w₂=>((asAddr (tmps.getD q undef)).run P w₂).andThen fun b w₃=>((loadVar tz b).run P w₃).andThen fun y w₄=>.ok (.tuple #[x,y,tmps.getD u undef]) w₄:=by
 simp only[results,h]
 simp[Sem.run_bind,Result.andThen]
structure DoC(f:Nat)(caps:Array Value)(w:World)(Zc:Nat→Prop)(D:Dsk)(x:Int)(D':Dsk)(R:Nat→World→Prop):Prop where
 enters:∀ args w,(callFunc f args).run Tryz.prog w = .ok (.enter f args) w
 old:∀ q,Zc q→q<w.heap.size
 on:∀ B V V',R B V→Gr V V' (fun q=>w.heap.size≤q∧q<B)→R B V'
 call:∀ B V d bm m,w.heap.size≤B→Below w.heap.size w V→DeskOn (fun q=>q<B) V d bm m D→B≤d→B≤bm→m≤24 →
  Calls Tryz.prog f (#[.pointer (some ⟨d,0,none⟩)]++caps) V fun e w'=>e = .returned (.int .i64 x)∧Gr V w' (fun q=>q=d∨q=bm∨Zc q)∧(x=0→KeptOn (fun q=>q<B) w' d bm D')∧R B w'
def Dsk.none:Dsk:=⟨[],[],[],[],0,noB⟩
def B0(w w':World)(x:Int)(D:Dsk)(e:Ending):Prop:=
 ∃ ka kn kc na nn nc ba bn bc pa pn pc,e = .returned (.tuple #[.agg #[.slice ka kn kc],.agg #[.slice na nn nc,.slice ba bn bc,.slice pa pn pc,.int .i64 D.tip],.int .i64 x]) ∧
  Fresh w.heap.size w' (fun w2=>Ty w2 ka kn D.k na nn D.n ba bn D.t pa pn D.p)∧SlOk ka kn kc∧SlOk na nn nc∧SlOk ba bn bc∧SlOk pa pn pc
theorem Lx{w w':World}{x:Int}:B0 w w' x Dsk.none (.returned (.tuple #[.agg #[.slice .none 0 0],.agg #[.slice .none 0 0,.slice .none 0 0,.slice .none 0 0,.int .i64 0],.int .i64 x])):=
 ⟨.none,0,0,.none,0,0,.none,0,0,.none,0,0,rfl,fun _ _=>⟨Bk.TextsAt.nil _ _,⟨rfl,fun h=>absurd h (by decide)⟩,RowsAt.nil _ _,RowsAt.nil _ _⟩,Zw,Zw,Zw,Zw⟩
def Zhf(w w':World)(x0 x:Int)(D:Dsk)(Zc:Nat→Prop)(R:Nat→World→Prop)(e:Ending):Prop:=
 (x0≠0∧B0 w w' x0 Dsk.none e∧Below w.heap.size w w') ∨
 (x0=0∧Gr w w' Zc∧R (w.heap.size+4) w'∧((x≠0∧B0 w w' x Dsk.none e)∨(x=0∧B0 w w' 0 D e)))
theorem Rk(ka:Option Addr)(kn kc:Nat)(K:List ByteArray)(na ba pa:Option Addr)(nn nc bn bc pn pc:Nat)(N:List Int)(T:List Zk)(P:List TxD)(tip x0:Int)(w:World)(hE:Env w)(hK:Bk.TextsAt w ka kn K)(hN:Tr.IntsAt w na nn N)(hT:Tr.BlksAt w ba bn T)(hP:TxsAt w pa pn P)(sN:SlOk na nn nc)(sT:SlOk ba bn bc)(sP:SlOk pa pn pc)(hp:pn≤2513169434916)(hq:∀ t∈P,Tr.TxSmall t)(hx:opE K N T P tip=x0)
  (f:Nat) (caps:Array Value) (Zc:Nat→Prop) (x:Int) (D':Dsk) (R:Nat→World→Prop) (hdo:x0=0→DoC f caps w Zc ⟨K,N,T,P,tip,(Zq K N T noB).2⟩ x D' R) :
  Calls Tryz.prog 98 #[.agg #[.slice ka kn kc],.agg #[.slice na nn nc,.slice ba bn bc,.slice pa pn pc,.int .i64 tip],.func (.func f) #[] caps] w fun e w'=>Zhf w w' x0 x D' Zc R e:=by
 obtain⟨X,hX⟩:∃ X,X=Z9 w [.cells #[.slice ka kn kc] 24,.cells #[.slice na nn nc,.slice ba bn bc,.slice pa pn pc,.int .i64 tip] 67,.cells #[.slice none 0 0] 24,.cells #[.slice none 0 0,.slice none 0 0,.slice none 0 0,.int .i64 0] 67]:=⟨_,rfl⟩
 have hX':X=(((w.alloc (.cells #[.slice ka kn kc] 24)).alloc (.cells #[.slice na nn nc,.slice ba bn bc,.slice pa pn pc,.int .i64 tip] 67)).alloc (.cells #[.slice none 0 0] 24)).alloc (.cells #[.slice none 0 0,.slice none 0 0,.slice none 0 0,.int .i64 0] 67):=hX
 have hbX:Below w.heap.size w X:=by rw[hX];exact Zp _ _
 have hXs:X.heap.size=w.heap.size+4:=by rw[hX];exact Yq _ _
 have x0a:X.heap[w.heap.size]? = some (.cells [.slice ka kn kc].toArray 24 (0,0)):=by rw[hX];exact Zm _ w 0 _ rfl
 have x1a:X.heap[w.heap.size+1]? = some (.cells [.slice na nn nc,.slice ba bn bc,.slice pa pn pc,.int .i64 tip].toArray 67 (0,0)):=by rw[hX];exact Zm _ w 1 _ rfl
 have x2a:X.heap[w.heap.size+2]? = some (.cells [.slice none 0 0].toArray 24 (0,0)):=by rw[hX];exact Zm _ w 2 _ rfl
 have x3a:X.heap[w.heap.size+3]? = some (.cells [.slice none 0 0,.slice none 0 0,.slice none 0 0,.int .i64 0].toArray 67 (0,0)):=by rw[hX];exact Zm _ w 3 _ rfl
 have C1:=Zb (Gz ka kn kc K na ba pa nn nc bn bc pn pc N T P tip x0 X (hE.later hbX) (hK.later hbX) (hN.later hbX) (hT.later hbX) (hP.later hbX) sN sT sP hp hq hx)
 have HBX:=Zb hbX
 have HXs:=Zb hXs
 have HX2:=Zb x2a
 have HX3:=Zb x3a
 have HDO:=Zb hdo
 have t0:=Zd x0a 0 _ rfl
 have t1:=Zd x1a 0 _ rfl
 have t2:=Zd x1a 1 _ rfl
 have t3:=Zd x1a 2 _ rfl
 have t4:=Zd x1a 3 _ rfl
 have tl:=lt_of_block x0a
 have tl1:=lt_of_block x1a
 clear hE hK hN hT hP sN sT sP hp hq hx hdo hbX hXs x0a x1a x2a x3a hX
 go_enter Tryz.func98,Tryz.ntmps98
 go_wp2_with fail
 rw[←hX']
 clear hX'
 (try go_wp2_with fail)
 refine (Za C1).mono ?_
 rintro e w1 ⟨hb1,hr⟩
 have HB1:=Zb hb1
 have HBW:=Zb (Zf (Za HBX) hb1)
 have h2:=(hb1.block _ (lt_of_block (Za HX2))).trans (Za HX2)
 have h3:=(hb1.block _ (lt_of_block (Za HX3))).trans (Za HX3)
 have H2:=Zb h2
 have H3:=Zb h3
 clear hb1 C1 t0 t1 t2 t3 t4 tl tl1
 rcases hr with ⟨h0,rfl⟩|⟨h0,d,bm,m,rfl,hD,hd,hbm,hm⟩
 ·have gx:(x0 == 0)=false:=by simp[h0]
  have gy:(x0 != 0)=true:=by simp[h0]
  have r20:=Zd h2 0 _ rfl
  have r2f:=Zg h2 0
  have r2l:=lt_of_block h2
  have r30:=Zd h3 0 _ rfl
  have r31:=Zd h3 1 _ rfl
  have r32:=Zd h3 2 _ rfl
  have r33:=Zd h3 3 _ rfl
  have f30:=Zg h3 0
  have f31:=Zg h3 1
  have f32:=Zg h3 2
  have f33:=Zg h3 3
  have r3l:=lt_of_block h3
  have FIN:Hid (∀ W,Gr w1 W (fun q=>w.heap.size≤q)→Zhf w W x0 x D' Zc R (.returned (.tuple #[.agg #[.slice none 0 0],.agg #[.slice none 0 0,.slice none 0 0,.slice none 0 0,.int .i64 0],.int .i64 x0]))):=fun W g=>
   .inl ⟨h0,Lx,g.below (Za HBW) (Za HBW).size (fun q e=>e)⟩
  clear h2 h3
  go_wp2
  (try simp only[Exit.inBlock,Exit.then])
  refine bodyPost_ret (v:=.tuple #[.agg #[.slice none 0 0],.agg #[.slice none 0 0,.slice none 0 0,.slice none 0 0,.int .i64 0],.int .i64 x0]) ?_ rfl ?_
  ·rw[Ug rfl]
   go_simp
  ·exact (Za FIN) _ (((Gr.refl w1 (fun q=>w.heap.size≤q)).one (w.heap.size+2) 0 (.inl (by show w.heap.size≤w.heap.size+2;omega)) _).four (w.heap.size+3) (.inl (by show w.heap.size≤w.heap.size+3;omega)) _ _ _ _)
 ·subst h0
  have DC:=(Za HDO) rfl
  have hd':w.heap.size+4≤d:=by have:=Za HXs;omega
  have hbm':w.heap.size+4≤bm:=by have:=Za HXs;omega
  have D1:=Zb (DC.call (w.heap.size+4) w1 d bm m (by omega) (Za HBW) (by rw[Za HXs] at hD;exact hD) hd' hbm' hm)
  have eg:=DC.enters
  have HDC:=Zb DC
  clear DC hD h2 h3
  go_wp2_with fail
  refine (Za D1).mono ?_
  rintro e w2 ⟨rfl,g2,hk2,hR2⟩
  have HG2:=Zb g2
  have HK2:=Zb hk2
  have HR2:=Zb hR2
  have hold:=(Za HDC).old
  have n2:¬(w.heap.size+2=d∨w.heap.size+2=bm∨Zc (w.heap.size+2)):=by
   rintro (e|e|e)
   ·omega
   ·omega
   ·have:=hold _ e;omega
  have n3:¬(w.heap.size+3=d∨w.heap.size+3=bm∨Zc (w.heap.size+3)):=by
   rintro (e|e|e)
   ·omega
   ·omega
   ·have:=hold _ e;omega
  have h2:=g2.heap (Za H2) n2
  have h3:=g2.heap (Za H3) n3
  have r20:=Zd h2 0 _ rfl
  have r2f:=Zg h2 0
  have r2l:=lt_of_block h2
  have r30:=Zd h3 0 _ rfl
  have r31:=Zd h3 1 _ rfl
  have r32:=Zd h3 2 _ rfl
  have r33:=Zd h3 3 _ rfl
  have f30:=Zg h3 0
  have f31:=Zg h3 1
  have f32:=Zg h3 2
  have f33:=Zg h3 3
  have r3l:=lt_of_block h3
  have GW:Hid (∀ W,Gr w2 W (fun q=>q=w.heap.size+2∨q=w.heap.size+3)→Gr w W Zc∧R (w.heap.size+4) W):=fun W g=>by
   refine⟨?_,(Za HDC).on _ _ _ (Za HR2) (g.mono (fun q _ e=>by rcases e with e|e <;> (show _∧_;omega)))⟩
   refine ((Gr.of (Za HBW)).far (Za HG2) (fun q e=>?_)).far g (fun q e=>.inl (by rcases e with e|e <;> omega))
   rcases e with e|e|e
   ·exact .inl (by omega)
   ·exact .inl (by omega)
   ·exact .inr e
  clear h2 h3 n2 n3 hold g2 hk2 hR2 D1 eg HG2 HR2 H2 H3 HDC
  by_cases z:x=0
  ·subst z
   obtain⟨k1,k1n,k1c,n1,n1n,n1c,b1,b1n,b1c,p1,p1n,p1c,box,dat,s1,s2,s3,s4⟩:=(Za HK2) rfl
   have d0:=Zd box 0 _ rfl
   have d1:=Zd box 1 _ rfl
   have d2:=Zd box 2 _ rfl
   have d3:=Zd box 3 _ rfl
   have d4:=Zd box 4 _ rfl
   have dl:=lt_of_block box
   have FIN:Hid (∀ W,Gr w2 W (fun q=>q=w.heap.size+2∨q=w.heap.size+3)→Zhf w W 0 0 D' Zc R (.returned (.tuple #[.agg #[.slice k1 k1n k1c],.agg #[.slice n1 n1n n1c,.slice b1 b1n b1c,.slice p1 p1n p1c,.int .i64 D'.tip],.int .i64 0]))):=fun W g=>
    .inr ⟨rfl,((Za GW) W g).1,((Za GW) W g).2,.inr ⟨rfl,k1,k1n,k1c,n1,n1n,n1c,b1,b1n,b1c,p1,p1n,p1c,rfl,fun W2 g2=>dat W2 ((g.mono (fun q _ e=>by
     refine .inr (.inr ?_)
     show q<w.heap.size+4
     rcases e with e|e <;> omega)).trans (g2.mono (fun q _ e=>by
     refine .inr (.inr ?_)
     have e:q<w.heap.size:=e
     show q<w.heap.size+4
     omega))),s1,s2,s3,s4⟩⟩
   have nd2:d≠w.heap.size+2:=by omega
   have nd3:d≠w.heap.size+3:=by omega
   clear HK2 GW box dat s1 s2 s3 s4
   go_wp2_with fail
   go_region
   all_goals
    go_wp2
    (try simp only[Exit.inBlock,Exit.then])
    refine bodyPost_ret (v:=.tuple #[.agg #[.slice k1 k1n k1c],.agg #[.slice n1 n1n n1c,.slice b1 b1n b1c,.slice p1 p1n p1c,.int .i64 D'.tip],.int .i64 0]) ?_ rfl ?_
    ·rw[Ug rfl]
     go_simp
    ·exact (Za FIN) _ ((((Gr.refl w2 (fun q=>q=w.heap.size+2∨q=w.heap.size+3)).one (w.heap.size+2) 0 (.inl (.inl rfl)) _).four (w.heap.size+3) (.inl (.inr rfl)) _ _ _ _).trans (Gr.of (Zj _)))
  ·have gx:(x == 0)=false:=by simp[z]
   have gy:(x != 0)=true:=by simp[z]
   have FIN:Hid (∀ W,Gr w2 W (fun q=>q=w.heap.size+2∨q=w.heap.size+3)→Zhf w W 0 x D' Zc R (.returned (.tuple #[.agg #[.slice none 0 0],.agg #[.slice none 0 0,.slice none 0 0,.slice none 0 0,.int .i64 0],.int .i64 x]))):=fun W g=>
    .inr ⟨rfl,((Za GW) W g).1,((Za GW) W g).2,.inl ⟨z,Lx⟩⟩
   clear GW HK2
   go_wp2
   (try simp only[Exit.inBlock,Exit.then])
   refine bodyPost_ret (v:=.tuple #[.agg #[.slice none 0 0],.agg #[.slice none 0 0,.slice none 0 0,.slice none 0 0,.int .i64 0],.int .i64 x]) ?_ rfl ?_
   ·rw[Ug rfl]
    go_simp
   ·exact (Za FIN) _ (((Gr.refl w2 (fun q=>q=w.heap.size+2∨q=w.heap.size+3)).one (w.heap.size+2) 0 (.inl (.inl rfl)) _).four (w.heap.size+3) (.inl (.inr rfl)) _ _ _ _)
def ofK(K:List (Int×Int))(c:Zh):Bool:=decide (ck c=K)
theorem Zfj(L:List Zh)(f:Zh→Bool)(h:∀ z∈L,0≤cv z):0≤Zo (L.filter f)∧Zo (L.filter f)≤Zo L:=by
 induction L with
 | nil=>exact⟨Int.le_refl _,Int.le_refl _⟩
 | cons x r ih=>
  obtain⟨i1,i2⟩:=ih fun z hz=>h z (List.mem_cons_of_mem _ hz)
  have hx:=h x (List.mem_cons_self ..)
  rw[Y0]
  cases q:f x with
  | true=>rw[List.filter_cons_of_pos q,Y0];omega
  | false=>rw[List.filter_cons_of_neg (by rw[q];decide)];omega
theorem El(L:List Zh)(f:Zh→Bool)(k:Nat)(h:k<L.length):Zo ((L.take (k+1)).filter f)=if f L[k] then Zo ((L.take k).filter f)+cv L[k] else Zo ((L.take k).filter f):=by
 rw[List.take_succ_eq_append_getElem h,List.filter_append,Xg]
 cases q:f L[k] with
 | true=>rw[List.filter_cons_of_pos q];simp[Zo]
 | false=>rw[List.filter_cons_of_neg (by rw[q];decide)];simp[Zo]
theorem Zif(x:Zh)(a:Option Addr)(n c:Nat)(ka:Option Addr)(kn kc:Nat)(K:List (Int×Int))(b:Nat)(o:Bool)(w:World)(hn:n≤maxLen)(hA:OpsAt w a n (ck x))(hK:OpsAt w ka kn K)(hb:w.cell? ⟨b,0,none⟩=some (.slice ka kn kc))(ho:ofK K x=o) :
  Calls Tryz.prog 212 #[cnV x a n c,.pointer (some ⟨b,0,none⟩)] w fun e w'=>e = .returned (.bool o)∧Below w.heap.size w w':=by
 unfold cnV
 obtain⟨X,hX⟩:∃ X,X=w.alloc (.cells #[.int .i64 x.1,.int .i64 x.2.1,.int .i64 (cv x),.slice a n c,.int .i64 (ch x),.bool (cr x)] 124):=⟨_,rfl⟩
 have hbX:Below w.heap.size w X:=by rw[hX];exact Zi _ _
 have hX1:X.heap[w.heap.size]? = some (.cells [.int .i64 x.1,.int .i64 x.2.1,.int .i64 (cv x),.slice a n c,.int .i64 (ch x),.bool (cr x)].toArray 124 (0,0)):=by rw[hX];exact Wi _ _ _ _ _ _ _ _
 have C:=Zb (Hi a ka n kn c kc (ck x) K o X hn (hA.later hbX) (hK.later hbX) ho)
 have m3:=Zd hX1 3 _ rfl
 have l2:=World.block_lt_of_cell? _ _ hb
 have HBX:=Zb hbX
 clear hA hK hX1 hbX ho hn m3
 go_enter Tryz.func212,Tryz.ntmps212
 go_wp2_with fail
 rw[←hX]
 clear hX
 go_wp2_with fail
 refine (Za C).mono ?_
 rintro e w2 ⟨rfl,hb2⟩
 have HB2:=Zb (Zf (Za HBX) hb2)
 clear hb2
 go_wp2
 go_ret
 exact⟨rfl,Za HB2⟩
theorem Zca(a:Option Addr)(n c:Nat)(L:List Zh)(ka:Option Addr)(kn kc:Nat)(K:List (Int×Int))(bk:Nat)(x s:Int)(w:World)(h:CoinsAt w a n L)(hK:OpsAt w ka kn K)(hb:w.cell? ⟨bk,0,none⟩=some (.slice ka kn kc))(hx:Zy L=x)(hs:(if x=0 then Zo (L.filter (ofK K)) else 0)=s) :
  Calls Tryz.prog 80 #[.slice a n c,.func (.func 212) #[] #[.pointer (some ⟨bk,0,none⟩)]] w fun e w'=>e = .returned (.tuple #[.int .i64 s,.int .i64 x])∧Below w.heap.size w w':=by
 have C1:=Zb (Wo a n c L x w h hx)
 by_cases e1:x=0
 ·subst e1
  rw[if_pos rfl] at hs
  have hR:=(Zz L).1 hx
  have hn:n≤720:=by rw[←h.1];exact hR.len
  have HSB:Hid (∀ k,0≤Zo ((L.take k).filter (ofK K))∧Zo ((L.take k).filter (ofK K))≤Zo (L.take k)):=fun k=>Zfj (L.take k) (ofK K) fun z hz=>by have:=Yp (hR.one z (List.mem_of_mem_take hz));omega
  have HSC:=Zb (fun k=>R5 L k (fun z hz=>by have:=Yp (hR.one z hz);omega))
  have HV:Hid (∀ z∈L,1≤cv z∧cv z≤1000000000):=fun z hz=>by have:=Yp (hR.one z hz);omega
  have HL:=Zb h
  have HZ:=Zb h.1
  have HS:=Zb hs
  have HK:=Zb hK
  have HBK:=Zb hb
  clear hR h hx hs hK hb
  go_enter Tryz.func80,Tryz.ntmps80
  go_wp2_with fail
  refine (Za C1).mono ?_
  rintro e w2 ⟨rfl,hb2⟩
  have HB2:=Zb hb2
  clear hb2 C1
  go_wp2
  go_loopw [7,17] (fun sv i wr=>∃ (k:Nat) (d:Int),k≤n∧sv = .int .i64 d∧i = .int .i64 k∧Hid (d=Zo ((L.take k).filter (ofK K)))∧Hid (Below w.heap.size w wr)) (fun _ i _=>n - (intOf i).toNat)
  case atStart=>exact⟨0,0,Nat.zero_le _,rfl,rfl,rfl,HB2⟩
  case round=>
   obtain⟨k,d,hk,rfl,rfl,A,HB⟩:=hrel
   by_cases hlt:k<n
   ·have hlk:k<L.length:=by rw[Za HZ];exact hlt
    obtain⟨b,off,rfl,hbl,hcell⟩:=(Za HL).2 (by omega)
    have hin:=CoinAt.kept _ _ _ _ _ (Za HB) (hcell k hlk)
    have b1:=(Za HSB) k
    have b2:=(Za HSC) k
    have b3:=(Za HV) L[k] (List.getElem_mem _)
    have hst:=El L (ofK K) k hlk
    obtain⟨y,hy⟩:∃ y,L[k]=y:=⟨_,rfl⟩
    rw[hy] at hin hst b3
    obtain⟨la,ln,lc,g0,g1,g2,g3,g4,g5,hO,sO⟩:=hin.val
    obtain⟨v,hv⟩:∃ v,cv y=v:=⟨_,rfl⟩
    obtain⟨o,ho⟩:∃ o,ofK K y=o:=⟨_,rfl⟩
    rw[ho] at hst
    rw[hv] at b3 hst
    rw[←Za A] at b1 hst
    obtain⟨X,hX⟩:∃ X,X=wr.alloc (.cells #[.int .i64 y.1,.int .i64 y.2.1,.int .i64 v,.slice la ln lc,.int .i64 (ch y),.bool (cr y)] 124):=⟨_,rfl⟩
    have hbX:Below wr.heap.size wr X:=by rw[hX];exact Zi _ _
    have hX1:X.heap[wr.heap.size]? = some (.cells [.int .i64 y.1,.int .i64 y.2.1,.int .i64 v,.slice la ln lc,.int .i64 (ch y),.bool (cr y)].toArray 124 (0,0)):=by rw[hX];exact Wi _ _ _ _ _ _ _ _
    have m2:=Zd hX1 2 _ rfl
    have HBX:=Zb (Zf (Za HB) hbX)
    have T1:=Zif y la ln lc ka kn kc K bk o X sO.len (hO.later hbX) ((Za HK).later (Za HBX)) (Ze (Za HBX) (Za HBK)) ho
    unfold cnV at T1
    rw[hv] at T1 g2
    have HT1:=Zb T1
    obtain⟨sk,hsk⟩:∃ sk,Zo (L.take k)=sk:=⟨_,rfl⟩
    rw[hsk] at b1 b2
    clear hin hy HB T1 hv hX1 hbX hO sO ho hsk
    cases o with
    | true=>
     have hw1:IntKind.i64.wrap (d+v)=d+v:=by rw[IntKind.wrap_i64];omega
     have A2:Hid (d+v=Zo ((L.take (k+1)).filter (ofK K))):=by show _=_;rw[hst];rfl
     clear hst A
     go_wp2_with fail
     rw[←hX]
     clear hX
     refine (Za HT1).mono ?_
     rintro e w3 ⟨rfl,hb3⟩
     have n2:=Ze hb3 m2
     have hl3:=World.block_lt_of_cell? _ _ n2
     have HB3:=Zb (Zf (Za HBX) hb3)
     clear hb3 m2
     go_wp2
     go_roundw
     case rel=>exact⟨k+1,d+v,by omega,rfl,by go_num,A2,HB3⟩
     case measure=>simp[intOf];omega
    | false=>
     have A2:Hid (d=Zo ((L.take (k+1)).filter (ofK K))):=by show _=_;rw[hst];rfl
     clear hst A
     go_wp2_with fail
     rw[←hX]
     clear hX
     refine (Za HT1).mono ?_
     rintro e w3 ⟨rfl,hb3⟩
     have HB3:=Zb (Zf (Za HBX) hb3)
     clear hb3 m2
     go_wp2
     go_roundw
     case rel=>exact⟨k+1,d,by omega,rfl,by go_num,A2,HB3⟩
     case measure=>simp[intOf];omega
   ·have e:k=n:=by omega
    subst e
    have R:Hid (d=s):=by
     show _=_
     rw[Za A,List.take_of_length_le (by rw[Za HZ];exact Nat.le_refl _)]
     exact Za HS
    clear A
    go_wp2
    go_ret2
    exact⟨by rw[←Za R];rfl,Za HB⟩
 ·rw[if_neg e1] at hs
  subst hs
  have g:(x != 0)=true:=by simp[e1]
  clear h hx e1 hK hb
  go_enter Tryz.func80,Tryz.ntmps80
  go_wp2_with fail
  refine (Za C1).mono ?_
  rintro e w2 ⟨rfl,hb2⟩
  have HB2:=Zb hb2
  clear hb2 C1
  go_wp2
  go_ret2
  exact⟨rfl,Za HB2⟩
theorem of_is(a:Option Addr)(n c:Nat)(L:List Zh)(ka:Option Addr)(kn kc:Nat)(K:List (Int×Int))(x s:Int)(w:World)(h:CoinsAt w a n L)(hK:OpsAt w ka kn K)(hx:Zy L=x)(hs:(if x=0 then Zo (L.filter (ofK K)) else 0)=s) :
  Calls Tryz.prog 166 #[.slice a n c,.slice ka kn kc] w fun e w'=>e = .returned (.tuple #[.int .i64 s,.int .i64 x])∧Below w.heap.size w w':=by
 obtain⟨X,hX⟩:∃ X,X=w.alloc (.cells #[.slice ka kn kc] 48):=⟨_,rfl⟩
 have hbX:Below w.heap.size w X:=by rw[hX];exact Zi _ _
 have hX1:X.heap[w.heap.size]? = some (.cells [.slice ka kn kc].toArray 48 (0,0)):=by rw[hX];exact heap_alloc_new w _
 have C:=Zb (Zca a n c L ka kn kc K w.heap.size x s X (h.later hbX) (hK.later hbX) (Zd hX1 0 _ rfl) hx hs)
 have HBX:=Zb hbX
 clear h hx hs hK hX1 hbX
 go_enter Tryz.func166,Tryz.ntmps166
 go_wp2_with fail
 rw[←hX]
 clear hX
 go_wp2_with fail
 refine (Za C).mono ?_
 rintro e w2 ⟨rfl,hb2⟩
 have HB2:=Zb (Zf (Za HBX) hb2)
 clear hb2
 go_wp2
 go_ret2
 exact⟨rfl,Za HB2⟩
theorem Yf{K:List ByteArray}{N:List Int}{T:List Zk}{P:List TxD}{tip:Int}(h:opE K N T P tip=0):Bk.bkChk K=0∧Tr.bstD N T=(tip,0)∧(Zq K N T noB).1=0∧poE K N T P tip (Zq K N T noB).2=0:=by
 unfold opE at h
 split at h
 ·rename_i q;exact absurd h q
 rename_i h1
 split at h
 ·rename_i q;exact absurd h q
 rename_i h2
 split at h
 ·cases h
 rename_i h3
 split at h
 ·rename_i q;exact absurd h q
 rename_i h4
 refine⟨Decidable.not_not.1 h1,?_,Decidable.not_not.1 h4,h⟩
 exact Prod.ext (Decidable.not_not.1 h3) (Decidable.not_not.1 h2)
section
variable (ka:Option Addr)(kn kc:Nat)(K:List ByteArray)(na ba pa:Option Addr)(nn nc bn bc pn pc:Nat)(N:List Int)(T:List Zk)(P:List TxD)(tip x:Int)(w:World)
theorem Jt(hE:Env w)(hK:Bk.TextsAt w ka kn K)(hN:Tr.IntsAt w na nn N)(hT:Tr.BlksAt w ba bn T)(hP:TxsAt w pa pn P)(sN:SlOk na nn nc)(sT:SlOk ba bn bc)(sP:SlOk pa pn pc)(hp:pn<=2513169434916)(hq:∀ t∈P,Tr.TxSmall t)(hx:opE K N T P tip = x):Calls Tryz.prog 39 #[.agg #[.slice ka kn kc],.agg #[.slice na nn nc,.slice ba bn bc,.slice pa pn pc,.int .i64 tip]] w fun e w'=>e = .returned (.int .i64 x)∧Below w.heap.size w w':=by
 obtain⟨X,hX⟩:∃ X,X=Z9 w [.cells #[.slice ka kn kc] 24,.cells #[.slice na nn nc,.slice ba bn bc,.slice pa pn pc,.int .i64 tip] 67]:=⟨_,rfl⟩
 have hX':X=(w.alloc (.cells #[.slice ka kn kc] 24)).alloc (.cells #[.slice na nn nc,.slice ba bn bc,.slice pa pn pc,.int .i64 tip] 67):=hX
 have hbX:Below w.heap.size w X:=by rw[hX];exact Zp _ _
 have x0:X.heap[w.heap.size]? = some (.cells [.slice ka kn kc].toArray 24 (0,0)):=by rw[hX];exact Zm _ w 0 _ rfl
 have x1:X.heap[w.heap.size+1]? = some (.cells [.slice na nn nc,.slice ba bn bc,.slice pa pn pc,.int .i64 tip].toArray 67 (0,0)):=by rw[hX];exact Zm _ w 1 _ rfl
 have C1:=Zb (Gz ka kn kc K na ba pa nn nc bn bc pn pc N T P tip x X (hE.later hbX) (hK.later hbX) (hN.later hbX) (hT.later hbX) (hP.later hbX) sN sT sP hp hq hx)
 have HBX:=Zb hbX
 have t0:=Zd x0 0 _ rfl
 have t1:=Zd x1 0 _ rfl
 have t2:=Zd x1 1 _ rfl
 have t3:=Zd x1 2 _ rfl
 have t4:=Zd x1 3 _ rfl
 have tl:=lt_of_block x0
 have tl1:=lt_of_block x1
 clear hE hK hN hT hP sN sT sP hp hq hx hbX x0 x1 hX
 go_enter Tryz.func39,Tryz.ntmps39
 go_wp2_with fail
 rw[←hX']
 clear hX'
 (try go_wp2_with fail)
 refine (Za C1).mono ?_
 rintro e w1 ⟨hb1,hr⟩
 have HBW:=Zb (Zf (Za HBX) hb1)
 clear hb1 C1 t0 t1 t2 t3 t4 tl tl1
 rcases hr with ⟨h0,rfl⟩|⟨h0,d,bm,m,rfl,_,_,_,_⟩
 ·go_wp2
  go_ret
  exact⟨rfl,Za HBW⟩
 ·subst h0
  go_wp2
  go_ret
  exact⟨rfl,Za HBW⟩
theorem U9(hE:Env w)(hK:Bk.TextsAt w ka kn K)(hN:Tr.IntsAt w na nn N)(hT:Tr.BlksAt w ba bn T)(hP:TxsAt w pa pn P)(sN:SlOk na nn nc)(sT:SlOk ba bn bc)(sP:SlOk pa pn pc)(hp:pn<=2513169434916)(hq:∀ t∈P,Tr.TxSmall t)(hx:opE K N T P tip = x)(C:List Zh)(hC:(if x=0 then (Zq K N T noB).2 tip else [])=C):Calls Tryz.prog 40 #[.agg #[.slice ka kn kc],.agg #[.slice na nn nc,.slice ba bn bc,.slice pa pn pc,.int .i64 tip]] w fun e w'=>∃ a n c,e = .returned (.tuple #[.slice a n c,.int .i64 x])∧CoinsAt w' a n C∧SlOk a n c∧Below w.heap.size w w':=by
 obtain⟨X,hX⟩:∃ X,X=Z9 w [.cells #[.slice ka kn kc] 24,.cells #[.slice na nn nc,.slice ba bn bc,.slice pa pn pc,.int .i64 tip] 67]:=⟨_,rfl⟩
 have hX':X=(w.alloc (.cells #[.slice ka kn kc] 24)).alloc (.cells #[.slice na nn nc,.slice ba bn bc,.slice pa pn pc,.int .i64 tip] 67):=hX
 have hbX:Below w.heap.size w X:=by rw[hX];exact Zp _ _
 have x0:X.heap[w.heap.size]? = some (.cells [.slice ka kn kc].toArray 24 (0,0)):=by rw[hX];exact Zm _ w 0 _ rfl
 have x1:X.heap[w.heap.size+1]? = some (.cells [.slice na nn nc,.slice ba bn bc,.slice pa pn pc,.int .i64 tip].toArray 67 (0,0)):=by rw[hX];exact Zm _ w 1 _ rfl
 have C1:=Zb (Gz ka kn kc K na ba pa nn nc bn bc pn pc N T P tip x X (hE.later hbX) (hK.later hbX) (hN.later hbX) (hT.later hbX) (hP.later hbX) sN sT sP hp hq hx)
 have HWF:Hid (x=0→(Lit.int .i64 tip).wf=true):=fun e=>(Jx (Yf (hx.trans e)).2.1).1
 have HBX:=Zb hbX
 have HC:=Zb hC
 have t0:=Zd x0 0 _ rfl
 have t1:=Zd x1 0 _ rfl
 have t2:=Zd x1 1 _ rfl
 have t3:=Zd x1 2 _ rfl
 have t4:=Zd x1 3 _ rfl
 have tl:=lt_of_block x0
 have tl1:=lt_of_block x1
 clear hE hK hN hT hP sN sT sP hp hq hx hbX x0 x1 hX hC
 go_enter Tryz.func40,Tryz.ntmps40
 go_wp2_with fail
 rw[←hX']
 clear hX'
 (try go_wp2_with fail)
 refine (Za C1).mono ?_
 rintro e w1 ⟨hb1,hr⟩
 have HBW:=Zb (Zf (Za HBX) hb1)
 clear hb1 C1 t0 t1 t2 t3 t4 tl tl1
 rcases hr with ⟨h0,rfl⟩|⟨h0,d,bm,m,rfl,hD,_,_,_⟩
 ·have gy:(x != 0)=true:=by simp[h0]
  have hc:=Za HC
  rw[if_neg h0] at hc
  have FIN:Hid (∃ a n c,(Ending.returned (.tuple #[.slice none 0 0,.int .i64 x])) = .returned (.tuple #[.slice a n c,.int .i64 x])∧CoinsAt w1 a n C∧SlOk a n c∧Below w.heap.size w w1):=⟨none,0,0,rfl,hc ▸ RowsAt.nil _ _,Zw,Za HBW⟩
  clear hc HC HWF
  go_wp2
  go_ret2
  exact Za FIN
 ·subst h0
  obtain⟨k1,k1n,k1c,n1,n1n,n1c,b1,b1n,b1c,p1,p1n,p1c,f,hq⟩:=hD
  obtain⟨ca,cn,cc,hf,hcc,sc⟩:=hq.c tip
  have hc:=Za HC
  rw[if_pos rfl] at hc
  rw[hc] at hcc
  have D2:=Zb (Qb hq ((Za HWF) rfl))
  rw[hf] at D2
  have HCC:=Zb hcc
  have HSC:=Zb sc
  clear hq hcc sc hf hc HC HWF
  go_wp2_with fail
  refine (Za D2).mono ?_
  rintro e w2 ⟨rfl,hb2⟩
  have FIN:Hid (∃ a n c,(Ending.returned (.tuple #[.slice ca cn cc,.int .i64 0])) = .returned (.tuple #[.slice a n c,.int .i64 0])∧CoinsAt w2 a n C∧SlOk a n c∧Below w.heap.size w w2):=⟨ca,cn,cc,rfl,(Za HCC).later hb2,Za HSC,Zf (Za HBW) hb2⟩
  clear hb2 HCC HSC D2
  go_wp2
  go_ret2
  exact Za FIN
theorem Do(hE:Env w)(hK:Bk.TextsAt w ka kn K)(hN:Tr.IntsAt w na nn N)(hT:Tr.BlksAt w ba bn T)(hP:TxsAt w pa pn P)(sN:SlOk na nn nc)(sT:SlOk ba bn bc)(sP:SlOk pa pn pc)(hp:pn<=2513169434916)(hq:∀ t∈P,Tr.TxSmall t)(hx:opE K N T P tip = x)(la:Option Addr)(ln lc:Nat)(l:List (Int×Int))(hl:OpsAt w la ln l)(C:List Zh)(hC:(if x=0 then (Zq K N T noB).2 tip else [])=C)(y s:Int)(hy:(if x=0 then Zy C else x)=y)(hs:(if y=0 then Zo (C.filter (ofK l)) else 0)=s):Calls Tryz.prog 101 #[.agg #[.slice ka kn kc],.agg #[.slice na nn nc,.slice ba bn bc,.slice pa pn pc,.int .i64 tip],.slice la ln lc] w fun e w'=>e = .returned (.tuple #[.int .i64 s,.int .i64 y])∧Below w.heap.size w w':=by
 obtain⟨X,hX⟩:∃ X,X=Z9 w [.cells #[.slice ka kn kc] 24,.cells #[.slice na nn nc,.slice ba bn bc,.slice pa pn pc,.int .i64 tip] 67]:=⟨_,rfl⟩
 have hX':X=(w.alloc (.cells #[.slice ka kn kc] 24)).alloc (.cells #[.slice na nn nc,.slice ba bn bc,.slice pa pn pc,.int .i64 tip] 67):=hX
 have hbX:Below w.heap.size w X:=by rw[hX];exact Zp _ _
 have x0:X.heap[w.heap.size]? = some (.cells [.slice ka kn kc].toArray 24 (0,0)):=by rw[hX];exact Zm _ w 0 _ rfl
 have x1:X.heap[w.heap.size+1]? = some (.cells [.slice na nn nc,.slice ba bn bc,.slice pa pn pc,.int .i64 tip].toArray 67 (0,0)):=by rw[hX];exact Zm _ w 1 _ rfl
 have C1:=Zb (U9 ka kn kc K na ba pa nn nc bn bc pn pc N T P tip x X (hE.later hbX) (hK.later hbX) (hN.later hbX) (hT.later hbX) (hP.later hbX) sN sT sP hp hq hx C hC)
 have HL:=Zb (hl.later hbX)
 have HBX:=Zb hbX
 have HY:=Zb hy
 have HS:=Zb hs
 have t0:=Zd x0 0 _ rfl
 have t1:=Zd x1 0 _ rfl
 have t2:=Zd x1 1 _ rfl
 have t3:=Zd x1 2 _ rfl
 have t4:=Zd x1 3 _ rfl
 have tl:=lt_of_block x0
 have tl1:=lt_of_block x1
 clear hE hK hN hT hP sN sT sP hp hq hx hbX x0 x1 hX hl hC hy hs
 go_enter Tryz.func101,Tryz.ntmps101
 go_wp2_with fail
 rw[←hX']
 clear hX'
 (try go_wp2_with fail)
 refine (Za C1).mono ?_
 rintro e w1 ⟨ca,cn,cc,rfl,hc,_,hb1⟩
 have HBW:=Zb (Zf (Za HBX) hb1)
 have HCC:=Zb hc
 have HL1:=Zb ((Za HL).later hb1)
 clear hb1 C1 t0 t1 t2 t3 t4 tl tl1 hc
 by_cases h0:x=0
 ·have hy:=Za HY
  rw[if_pos h0] at hy
  have D2:=Zb (of_is ca cn cc C la ln lc l y s w1 (Za HCC) (Za HL1) hy (Za HS))
  subst h0
  clear hy HY HS HCC HL1
  go_wp2_with fail
  refine (Za D2).mono ?_
  rintro e w2 ⟨rfl,hb2⟩
  have HB2:=Zb (Zf (Za HBW) hb2)
  clear hb2 D2
  go_wp2
  go_ret2
  exact⟨rfl,Za HB2⟩
 ·have gy:(x != 0)=true:=by simp[h0]
  have hy:=Za HY
  rw[if_neg h0] at hy
  have hs:=Za HS
  rw[if_neg (by rw[←hy];exact h0)] at hs
  subst hy hs
  clear HY HS HCC HL1
  go_wp2
  go_ret2
  exact⟨rfl,Za HBW⟩
end
theorem KeptOn.on{Z Z':Nat→Prop}{w w':World}{d bm:Nat}{D:Dsk}(h:KeptOn Z w d bm D)(g:Gr w w' Z')(hz:∀ q,Z' q→Z q)(hd:¬Z' d):KeptOn Z w' d bm D:=by
 obtain⟨q1,q2,q3,q4,q5,q6,q7,q8,q9,q10,q11,q12,box,dat,s⟩:=h
 exact⟨q1,q2,q3,q4,q5,q6,q7,q8,q9,q10,q11,q12,g.heap box hd,fun W g2=>dat W ((g.mono (fun q _ e=>.inr (.inr (hz q e)))).trans g2),s⟩
theorem Zfw{D:Dsk}{wk no:Int}{lk:List (Int×Int)}(h:(mnR D wk no lk).1≠0):(mnR D wk no lk).2.1=Yz:=by
 unfold mnR at h ⊢
 split
 ·rfl
 rename_i h1
 rw[if_neg h1] at h
 split
 ·rfl
 rename_i h2
 rw[if_neg h2] at h
 exact absurd rfl h
def Zjb(bb:Nat)(b:Zk)(B:Nat)(V:World):Prop:=
 ∃ a n c,V.heap[bb]? = some (.cells [.int .i64 b.1,.int .i64 b.2.1,.int .i64 b.2.2.1,.int .i64 b.2.2.2.1,.slice a n c].toArray 39 (0,0))∧(∀ W,Gr V W (fun q=>q<B)→TxsAt W a n b.2.2.2.2)∧SlOk a n c
theorem Zfz(w:World)(b1 b2 b3 bb:Nat)(wk no:Int)(la:Option Addr)(ln lc:Nat)(l:List (Int×Int))(K:List ByteArray)(N:List Int)(T:List Zk)(P:List TxD)(tip:Int)(β : Int→List Zh)(x:Int)(b:Zk)(D':Dsk)(hE:Env w)(hl:OpsAt w la ln l)(sl:SlOk la ln lc)(hn:ln≤8796093022208)(ht:(Lit.int .i64 tip).wf=true)(h1:0≤Ya N T tip)(h2:Ya N T tip≤1000)
  (c1:w.cell? ⟨b1,0,none⟩=some (.int .i64 wk)) (c2:w.cell? ⟨b2,0,none⟩=some (.int .i64 no)) (c3:w.cell? ⟨b3,0,none⟩=some (.slice la ln lc)) (hbb:w.heap[bb]? = some (.cells [.int .i64 0,.int .i64 0,.int .i64 0,.int .i64 0,.slice none 0 0].toArray 39 (0,0))) (hx:mnR ⟨K,N,T,P,tip,β⟩ wk no l=(x,b,D')) :
  DoC 112 #[.pointer (some ⟨b1,0,none⟩),.pointer (some ⟨b2,0,none⟩),.pointer (some ⟨b3,0,none⟩),.pointer (some ⟨bb,0,none⟩)] w (fun q=>q=bb) ⟨K,N,T,P,tip,β⟩ x D' (Zjb bb b) where
 enters:=enters_of (fn:=Tryz.f112) (by kernel_rfl) (by kernel_rfl) rfl
 old q e:=by have e:q=bb:=e;exact e ▸ lt_of_block hbb
 on B V V':=by
  rintro ⟨a,n,c,h1,h2,h3⟩ g
  have lb:=lt_of_block hbb
  refine⟨a,n,c,g.heap h1 (fun e=>by have:=e.1;omega),fun W g2=>h2 W ((g.mono (fun q _ e=>e.2)).trans g2),h3⟩
 call B V d bm m hB hV hD hd hbm hm:=by
  obtain⟨k1,k1n,k1c,n1,n1n,n1c,t1,t1n,t1c,p1,p1n,p1c,f,hq⟩:=hD
  have lb:=lt_of_block hbb
  have C1:=Zb (Zec hq w hV hE (by omega) (by omega) (by omega) ht h1 h2 wk no la ln lc l (hl.later hV) sl hn x b D' hx)
  have hbv:=(hV.block _ lb).trans hbb
  have q1:=Ze hV c1
  have q2:=Ze hV c2
  have q3:=Ze hV c3
  have q1l:=World.block_lt_of_cell? _ _ q1
  have q2l:=World.block_lt_of_cell? _ _ q2
  have q3l:=World.block_lt_of_cell? _ _ q3
  have HBV:=Zb hbv
  have HVS:=Zb hV.size
  have HDL:=Zb (lt_of_block hq.box)
  clear hq hE hl sl hn ht h1 h2 hx hbv hbb c1 c2 c3
  show Calls Tryz.prog 112 #[.pointer (some ⟨d,0,none⟩),.pointer (some ⟨b1,0,none⟩),.pointer (some ⟨b2,0,none⟩),.pointer (some ⟨b3,0,none⟩),.pointer (some ⟨bb,0,none⟩)] V _
  go_enter Tryz.func112,Tryz.ntmps112
  go_wp2_with fail
  refine (Za C1).mono ?_
  rintro e w1 ⟨a5,n5,c5,rfl,hF,s5,g1,hk⟩
  dsimp only[Qy]
  have hb1:=g1.heap (Za HBV) (by rintro (e|e) <;> omega)
  have r0:=Zd hb1 0 _ rfl
  have r1:=Zd hb1 1 _ rfl
  have r2:=Zd hb1 2 _ rfl
  have r3:=Zd hb1 3 _ rfl
  have r4:=Zd hb1 4 _ rfl
  have f0:=Zg hb1 0
  have f1:=Zg hb1 1
  have f2:=Zg hb1 2
  have f3:=Zg hb1 3
  have f4:=Zg hb1 4
  have rl:=lt_of_block hb1
  have FIN:Hid (∀ W,W=(((((w1.setCell ⟨bb,0,none⟩ (.int .i64 b.1)).setCell ⟨bb,1,none⟩ (.int .i64 b.2.1)).setCell ⟨bb,2,none⟩ (.int .i64 b.2.2.1)).setCell ⟨bb,3,none⟩ (.int .i64 b.2.2.2.1)).setCell ⟨bb,4,none⟩ (.slice a5 n5 c5))→Gr V W (fun q=>q=d∨q=bm∨q=bb)∧(x=0→KeptOn (fun q=>q<B) W d bm D')∧Zjb bb b B W):=fun W hW=>by
   have g2:Gr w1 W (fun q=>q=bb):=by rw[hW];exact (Gr.refl w1 (fun q=>q=bb)).five bb (.inl rfl) _ _ _ _ _
   have hvl:V.heap.size≥B:=by have:=Za HDL;omega
   refine⟨(g1.mono (fun q _ e=>?_)).trans (g2.mono (fun q _ e=>.inr (.inr e))),fun e=>(hk e).on g2 (fun q e=>?_) (fun e=>?_),a5,n5,c5,?_,fun W2 g3=>hF W2 ((g2.mono (fun q _ e=>?_)).trans (g3.mono (fun q _ e=>?_))),s5⟩
   ·rcases e with e|e
    ·exact .inl e
    ·exact .inr (.inl e)
   ·have e:q=bb:=e;show q<B;omega
   ·have e:d=bb:=e;omega
   ·rw[hW];exact Tr.set_cells (Tr.set_cells (Tr.set_cells (Tr.set_cells (Tr.set_cells hb1 0 _) 1 _) 2 _) 3 _) 4 _
   ·have e:q=bb:=e;show q<V.heap.size;omega
   ·have e:q<B:=e;show q<V.heap.size;omega
  clear hF s5 g1 hk hb1 C1 HBV q1 q2 q3 q1l q2l q3l
  go_wp2
  go_ret
  exact⟨rfl,(Za FIN) _ rfl⟩
def nmR(K:List ByteArray)(N:List Int)(T:List Zk)(P:List TxD)(tip wk no:Int)(l:List (Int×Int)):Int×Zk×Dsk:=
 if opE K N T P tip≠0 then (opE K N T P tip,Yz,Dsk.none) else
 if (mnR ⟨K,N,T,P,tip,(Zq K N T noB).2⟩ wk no l).1≠0 then ((mnR ⟨K,N,T,P,tip,(Zq K N T noB).2⟩ wk no l).1,Yz,Dsk.none) else
 (0,(mnR ⟨K,N,T,P,tip,(Zq K N T noB).2⟩ wk no l).2.1,(mnR ⟨K,N,T,P,tip,(Zq K N T noB).2⟩ wk no l).2.2)
def NmkR(w w':World)(x:Int)(b:Zk)(D:Dsk)(e:Ending):Prop:=
 ∃ ka kn kc na nn nc ba bn bc pa pn pc a n c,e = .returned (.tuple #[.agg #[.slice ka kn kc],.agg #[.slice na nn nc,.slice ba bn bc,.slice pa pn pc,.int .i64 D.tip],Qy b a n c,.int .i64 x]) ∧
  Fresh w.heap.size w' (fun w2=>Ty w2 ka kn D.k na nn D.n ba bn D.t pa pn D.p∧TxsAt w2 a n b.2.2.2.2)∧SlOk ka kn kc∧SlOk na nn nc∧SlOk ba bn bc∧SlOk pa pn pc∧SlOk a n c∧Below w.heap.size w w'
theorem R8{fn:Func}{p q r u:Tmp}{ty tz tv:TypeId}(h:fn.results=#[.cell p ty,.cell q tz,.cell r tv,.tmp u])(tmps:Array Value)(P:Program)(w:World) :
  (results fn tmps).run P w =
   ((asAddr (tmps.getD p undef)).run P w).andThen fun a w₁=>((loadVar ty a).run P w₁).andThen fun x w₂=>((asAddr (tmps.getD q undef)).run P w₂).andThen fun b w₃=>((loadVar tz b).run P w₃).andThen fun y w₄=>((asAddr (tmps.getD r undef)).run P w₄).andThen fun c w₅=>((loadVar tv c).run P w₅).andThen fun z w₆=>.ok (.tuple #[x,y,z,tmps.getD u undef]) w₆:=by
 simp only[results,h]
 simp[Sem.run_bind,Result.andThen]
theorem G0(ka:Option Addr)(kn kc:Nat)(K:List ByteArray)(na ba pa:Option Addr)(nn nc bn bc pn pc:Nat)(N:List Int)(T:List Zk)(P:List TxD)(tip:Int)(w:World)(hE:Env w)(hK:Bk.TextsAt w ka kn K)(hN:Tr.IntsAt w na nn N)(hT:Tr.BlksAt w ba bn T)(hP:TxsAt w pa pn P)(sN:SlOk na nn nc)(sT:SlOk ba bn bc)(sP:SlOk pa pn pc)(hp:pn≤2513169434916)(hq:∀ t∈P,Tr.TxSmall t)
  (wk no:Int) (la:Option Addr) (ln lc:Nat) (l:List (Int×Int)) (hl:OpsAt w la ln l) (sl:SlOk la ln lc) (hn:ln≤8796093022208) (x:Int) (b:Zk) (D:Dsk) (hx:nmR K N T P tip wk no l=(x,b,D)) :
  Calls Tryz.prog 43 #[.agg #[.slice ka kn kc],.agg #[.slice na nn nc,.slice ba bn bc,.slice pa pn pc,.int .i64 tip],.int .i64 wk,.int .i64 no,.slice la ln lc] w fun e w'=>NmkR w w' x b D e:=by
 obtain⟨X,hX⟩:∃ X,X=Z9 w [.cells #[.slice ka kn kc] 24,.cells #[.slice na nn nc,.slice ba bn bc,.slice pa pn pc,.int .i64 tip] 67,.cells #[.int .i64 wk] 3,.cells #[.int .i64 no] 3,.cells #[.slice la ln lc] 48,.cells #[.slice none 0 0] 24,.cells #[.slice none 0 0,.slice none 0 0,.slice none 0 0,.int .i64 0] 67,.cells #[.int .i64 0,.int .i64 0,.int .i64 0,.int .i64 0,.slice none 0 0] 39]:=⟨_,rfl⟩
 have hX':X=(((((((w.alloc (.cells #[.slice ka kn kc] 24)).alloc (.cells #[.slice na nn nc,.slice ba bn bc,.slice pa pn pc,.int .i64 tip] 67)).alloc (.cells #[.int .i64 wk] 3)).alloc (.cells #[.int .i64 no] 3)).alloc (.cells #[.slice la ln lc] 48)).alloc (.cells #[.slice none 0 0] 24)).alloc (.cells #[.slice none 0 0,.slice none 0 0,.slice none 0 0,.int .i64 0] 67)).alloc (.cells #[.int .i64 0,.int .i64 0,.int .i64 0,.int .i64 0,.slice none 0 0] 39):=hX
 have hbX:Below w.heap.size w X:=by rw[hX];exact Zp _ _
 have hXs:X.heap.size=w.heap.size+8:=by rw[hX];exact Yq _ _
 have x0a:X.heap[w.heap.size]? = some (.cells [.slice ka kn kc].toArray 24 (0,0)):=by rw[hX];exact Zm _ w 0 _ rfl
 have x1a:X.heap[w.heap.size+1]? = some (.cells [.slice na nn nc,.slice ba bn bc,.slice pa pn pc,.int .i64 tip].toArray 67 (0,0)):=by rw[hX];exact Zm _ w 1 _ rfl
 have x2a:X.heap[w.heap.size+2]? = some (.cells [.int .i64 wk].toArray 3 (0,0)):=by rw[hX];exact Zm _ w 2 _ rfl
 have x3a:X.heap[w.heap.size+3]? = some (.cells [.int .i64 no].toArray 3 (0,0)):=by rw[hX];exact Zm _ w 3 _ rfl
 have x4a:X.heap[w.heap.size+4]? = some (.cells [.slice la ln lc].toArray 48 (0,0)):=by rw[hX];exact Zm _ w 4 _ rfl
 have x5a:X.heap[w.heap.size+5]? = some (.cells [.slice none 0 0].toArray 24 (0,0)):=by rw[hX];exact Zm _ w 5 _ rfl
 have x6a:X.heap[w.heap.size+6]? = some (.cells [.slice none 0 0,.slice none 0 0,.slice none 0 0,.int .i64 0].toArray 67 (0,0)):=by rw[hX];exact Zm _ w 6 _ rfl
 have x7a:X.heap[w.heap.size+7]? = some (.cells [.int .i64 0,.int .i64 0,.int .i64 0,.int .i64 0,.slice none 0 0].toArray 39 (0,0)):=by rw[hX];exact Zm _ w 7 _ rfl
 obtain⟨x0,hx0⟩:∃ x0,opE K N T P tip=x0:=⟨_,rfl⟩
 obtain⟨⟨x1,b1,D1⟩,hx1⟩:∃ r,mnR ⟨K,N,T,P,tip,(Zq K N T noB).2⟩ wk no l=r:=⟨_,rfl⟩
 have hbad:x1≠0→b1=Yz:=fun e=>by
  have:=Zfw (D:=⟨K,N,T,P,tip,(Zq K N T noB).2⟩) (wk:=wk) (no:=no) (lk:=l) (by rw[hx1];exact e)
  rw[hx1] at this
  exact this
 unfold nmR at hx
 simp only[hx0,hx1] at hx
 have C1:=Zb (Rk ka kn kc K na ba pa nn nc bn bc pn pc N T P tip x0 X (hE.later hbX) (hK.later hbX) (hN.later hbX) (hT.later hbX) (hP.later hbX) sN sT sP hp hq hx0 112 #[.pointer (some ⟨w.heap.size+2,0,none⟩),.pointer (some ⟨w.heap.size+3,0,none⟩),.pointer (some ⟨w.heap.size+4,0,none⟩),.pointer (some ⟨w.heap.size+7,0,none⟩)] (fun q=>q=w.heap.size+7) x1 D1 (Zjb (w.heap.size+7) b1) (fun e=>by
  have o:=Yf (hx0.trans e)
  have bw:=Jx o.2.1
  exact Zfz X (w.heap.size+2) (w.heap.size+3) (w.heap.size+4) (w.heap.size+7) wk no la ln lc l K N T P tip _ x1 b1 D1 (hE.later hbX) (hl.later hbX) sl hn bw.1 bw.2.1 bw.2.2 (Zd x2a 0 _ rfl) (Zd x3a 0 _ rfl) (Zd x4a 0 _ rfl) x7a hx1))
 have HX:=Zb hx
 have HBAD:=Zb hbad
 have HBX:=Zb hbX
 have HXs:=Zb hXs
 have HX5:=Zb x5a
 have HX6:=Zb x6a
 have HX7:=Zb x7a
 have t0:=Zd x0a 0 _ rfl
 have t1:=Zd x1a 0 _ rfl
 have t2:=Zd x1a 1 _ rfl
 have t3:=Zd x1a 2 _ rfl
 have t4:=Zd x1a 3 _ rfl
 have tl:=lt_of_block x0a
 have tl1:=lt_of_block x1a
 clear hE hK hN hT hP sN sT sP hp hq hx hl sl hn hx0 hx1 hbad hbX hXs x0a x1a x2a x3a x4a x5a x6a x7a hX
 go_enter Tryz.func43,Tryz.ntmps43
 go_wp2_with fail
 rw[←hX']
 clear hX'
 (try go_wp2_with fail)
 refine (Za C1).mono ?_
 intro e w1 hr
 obtain⟨k5,k5n,k5c,n5,n5n,n5c,b5,b5n,b5c,p5,p5n,p5c,a7,n7,c7,rfl,hF,s1,s2,s3,s4,s7,hb7,g1⟩:∃ k5 k5n k5c n5 n5n n5c b5 b5n b5c p5 p5n p5c a7 n7 c7,e = .returned (.tuple #[.agg #[.slice k5 k5n k5c],.agg #[.slice n5 n5n n5c,.slice b5 b5n b5c,.slice p5 p5n p5c,.int .i64 D.tip],.int .i64 x]) ∧
   Fresh X.heap.size w1 (fun w2=>Ty w2 k5 k5n D.k n5 n5n D.n b5 b5n D.t p5 p5n D.p∧TxsAt w2 a7 n7 b.2.2.2.2)∧SlOk k5 k5n k5c∧SlOk n5 n5n n5c∧SlOk b5 b5n b5c∧SlOk p5 p5n p5c∧SlOk a7 n7 c7 ∧
   w1.heap[w.heap.size+7]? = some (.cells [.int .i64 b.1,.int .i64 b.2.1,.int .i64 b.2.2.1,.int .i64 b.2.2.2.1,.slice a7 n7 c7].toArray 39 (0,0))∧Gr X w1 (fun q=>q=w.heap.size+7):=by
  have hxx:=Za HX
  rcases hr with ⟨h0,⟨k5,k5n,k5c,n5,n5n,n5c,b5,b5n,b5c,p5,p5n,p5c,he,hF,s1,s2,s3,s4⟩,hb⟩|⟨h0,g,⟨a7,n7,c7,hbx,hF7,s7⟩,hr⟩
  ·rw[if_pos h0] at hxx
   simp only[Prod.mk.injEq] at hxx
   obtain⟨rfl,rfl,rfl⟩:=hxx
   exact⟨k5,k5n,k5c,n5,n5n,n5c,b5,b5n,b5c,p5,p5n,p5c,none,0,0,he,fun W g=>⟨hF W g,RowsAt.nil _ _⟩,s1,s2,s3,s4,Zw,(hb.block _ (lt_of_block (Za HX7))).trans (Za HX7),Gr.of hb⟩
  ·rw[if_neg (fun q=>q h0)] at hxx
   rcases hr with ⟨h1,k5,k5n,k5c,n5,n5n,n5c,b5,b5n,b5c,p5,p5n,p5c,he,hF,s1,s2,s3,s4⟩|⟨h1,k5,k5n,k5c,n5,n5n,n5c,b5,b5n,b5c,p5,p5n,p5c,he,hF,s1,s2,s3,s4⟩
   ·rw[if_pos h1] at hxx
    simp only[Prod.mk.injEq] at hxx
    obtain⟨rfl,rfl,rfl⟩:=hxx
    have hbz:=(Za HBAD) h1
    subst hbz
    exact⟨k5,k5n,k5c,n5,n5n,n5c,b5,b5n,b5c,p5,p5n,p5c,a7,n7,c7,he,fun W g=>⟨hF W g,hF7 W (g.mono (fun q _ e=>by have e:q<X.heap.size:=e;show q<X.heap.size+4;omega))⟩,s1,s2,s3,s4,s7,hbx,g⟩
   ·rw[if_neg (fun q=>q h1)] at hxx
    simp only[Prod.mk.injEq] at hxx
    obtain⟨rfl,rfl,rfl⟩:=hxx
    exact⟨k5,k5n,k5c,n5,n5n,n5c,b5,b5n,b5c,p5,p5n,p5c,a7,n7,c7,he,fun W g=>⟨hF W g,hF7 W (g.mono (fun q _ e=>by have e:q<X.heap.size:=e;show q<X.heap.size+4;omega))⟩,s1,s2,s3,s4,s7,hbx,g⟩
 have h5:=g1.heap (Za HX5) (fun e=>by have e:w.heap.size+5=w.heap.size+7:=e;omega)
 have h6:=g1.heap (Za HX6) (fun e=>by have e:w.heap.size+6=w.heap.size+7:=e;omega)
 have o0:=Zd h5 0 _ rfl
 have of:=Zg h5 0
 have ol:=lt_of_block h5
 have p0:=Zd h6 0 _ rfl
 have p1:=Zd h6 1 _ rfl
 have p2:=Zd h6 2 _ rfl
 have p3:=Zd h6 3 _ rfl
 have pf0:=Zg h6 0
 have pf1:=Zg h6 1
 have pf2:=Zg h6 2
 have pf3:=Zg h6 3
 have pl:=lt_of_block h6
 obtain⟨V,hV⟩:∃ V,V=((((w1.setCell ⟨w.heap.size+1+1+1+1+1,0,none⟩ (.slice k5 k5n k5c)).setCell ⟨w.heap.size+1+1+1+1+1+1,0,none⟩ (.slice n5 n5n n5c)).setCell ⟨w.heap.size+1+1+1+1+1+1,1,none⟩ (.slice b5 b5n b5c)).setCell ⟨w.heap.size+1+1+1+1+1+1,2,none⟩ (.slice p5 p5n p5c)).setCell ⟨w.heap.size+1+1+1+1+1+1,3,none⟩ (.int .i64 D.tip):=⟨_,rfl⟩
 have gV:Gr w1 V (fun q=>q=w.heap.size+5∨q=w.heap.size+6∨q=w.heap.size+7):=by
  rw[hV]
  exact ((Gr.refl w1 (fun q=>q=w.heap.size+5∨q=w.heap.size+6∨q=w.heap.size+7)).one (w.heap.size+5) 0 (.inl (.inl rfl)) _).four (w.heap.size+6) (.inl (.inr (.inl rfl))) _ _ _ _
 have v7:V.heap[w.heap.size+7]? = some (.cells [.int .i64 b.1,.int .i64 b.2.1,.int .i64 b.2.2.1,.int .i64 b.2.2.2.1,.slice a7 n7 c7].toArray 39 (0,0)):=by
  rw[hV]
  have g:Gr w1 (((((w1.setCell ⟨w.heap.size+1+1+1+1+1,0,none⟩ (.slice k5 k5n k5c)).setCell ⟨w.heap.size+1+1+1+1+1+1,0,none⟩ (.slice n5 n5n n5c)).setCell ⟨w.heap.size+1+1+1+1+1+1,1,none⟩ (.slice b5 b5n b5c)).setCell ⟨w.heap.size+1+1+1+1+1+1,2,none⟩ (.slice p5 p5n p5c)).setCell ⟨w.heap.size+1+1+1+1+1+1,3,none⟩ (.int .i64 D.tip)) (fun q=>q=w.heap.size+5∨q=w.heap.size+6):=
   ((Gr.refl w1 (fun q=>q=w.heap.size+5∨q=w.heap.size+6)).one (w.heap.size+5) 0 (.inl (.inl rfl)) _).four (w.heap.size+6) (.inl (.inr rfl)) _ _ _ _
  exact g.heap hb7 (fun e=>by omega)
 have v6:V.heap[w.heap.size+6]? = some (.cells [.slice n5 n5n n5c,.slice b5 b5n b5c,.slice p5 p5n p5c,.int .i64 D.tip].toArray 67 (0,0)):=by
  rw[hV]
  have g:Gr w1 (w1.setCell ⟨w.heap.size+1+1+1+1+1,0,none⟩ (.slice k5 k5n k5c)) (fun q=>q=w.heap.size+5):=(Gr.refl w1 (fun q=>q=w.heap.size+5)).one (w.heap.size+5) 0 (.inl rfl) _
  exact Tr.set_cells (Tr.set_cells (Tr.set_cells (Tr.set_cells (g.heap h6 (fun e=>by have e:w.heap.size+6=w.heap.size+5:=e;omega)) 0 _) 1 _) 2 _) 3 _
 have v5:V.heap[w.heap.size+5]? = some (.cells [.slice k5 k5n k5c].toArray 24 (0,0)):=by
  rw[hV]
  have g:Gr (w1.setCell ⟨w.heap.size+1+1+1+1+1,0,none⟩ (.slice k5 k5n k5c)) (((((w1.setCell ⟨w.heap.size+1+1+1+1+1,0,none⟩ (.slice k5 k5n k5c)).setCell ⟨w.heap.size+1+1+1+1+1+1,0,none⟩ (.slice n5 n5n n5c)).setCell ⟨w.heap.size+1+1+1+1+1+1,1,none⟩ (.slice b5 b5n b5c)).setCell ⟨w.heap.size+1+1+1+1+1+1,2,none⟩ (.slice p5 p5n p5c)).setCell ⟨w.heap.size+1+1+1+1+1+1,3,none⟩ (.int .i64 D.tip)) (fun q=>q=w.heap.size+6):=(Gr.refl (w1.setCell ⟨w.heap.size+1+1+1+1+1,0,none⟩ (.slice k5 k5n k5c)) (fun q=>q=w.heap.size+6)).four (w.heap.size+6) (.inl rfl) _ _ _ _
  exact g.heap (Tr.set_cells h5 0 _) (fun e=>by have e:w.heap.size+5=w.heap.size+6:=e;omega)
 have HV5:=Zb v5
 have HV6:=Zb v6
 have HV7:=Zb v7
 have GV:=Zb gV
 have FIN:Hid (∀ W,Gr w1 W (fun q=>q=w.heap.size+5∨q=w.heap.size+6∨q=w.heap.size+7)→NmkR w W x b D (.returned (.tuple #[.agg #[.slice k5 k5n k5c],.agg #[.slice n5 n5n n5c,.slice b5 b5n b5c,.slice p5 p5n p5c,.int .i64 D.tip],.agg #[.int .i64 b.1,.int .i64 b.2.1,.int .i64 b.2.2.1,.int .i64 b.2.2.2.1,.slice a7 n7 c7],.int .i64 x]))):=fun W g=>by
  have hxs:=Za HXs
  refine⟨k5,k5n,k5c,n5,n5n,n5c,b5,b5n,b5c,p5,p5n,p5c,a7,n7,c7,rfl,fun W2 g2=>hF W2 ((g.mono (fun q _ e=>?_)).trans (g2.mono (fun q _ e=>?_))),s1,s2,s3,s4,s7,?_⟩
  ·show q<X.heap.size;omega
  ·have e:q<w.heap.size:=e;show q<X.heap.size;omega
  ·have gX:Gr w X (fun q=>False):=Gr.of (Za HBX)
   have gW:Gr w W (fun _=>False):=(gX.far g1 (fun q e=>.inl (by have e:q=w.heap.size+7:=e;omega))).far g (fun q e=>.inl (by omega))
   exact gW.below (Below.refl _ _) (Nat.le_refl _) (fun _ q=>q.elim)
 clear hr hF s1 s2 s3 s4 s7 hb7 g1 h5 h6 v5 v6 v7 gV HX HBAD HX5 HX6 HX7 C1 t0 t1 t2 t3 t4 tl tl1 HXs HBX
 go_upto_region 2 with fail
 rw[←hV]
 clear hV o0 of ol p0 p1 p2 p3 pf0 pf1 pf2 pf3 pl
 have v5:=Za HV5
 have v6:=Za HV6
 have v7:=Za HV7
 have o0:=Zd v5 0 _ rfl
 have of:=Zg v5 0
 have ol:=lt_of_block v5
 have p0:=Zd v6 0 _ rfl
 have p1:=Zd v6 1 _ rfl
 have p2:=Zd v6 2 _ rfl
 have p3:=Zd v6 3 _ rfl
 have pf0:=Zg v6 0
 have pf1:=Zg v6 1
 have pf2:=Zg v6 2
 have pf3:=Zg v6 3
 have pl:=lt_of_block v6
 have q0:=Zd v7 0 _ rfl
 have q1:=Zd v7 1 _ rfl
 have q2:=Zd v7 2 _ rfl
 have q3:=Zd v7 3 _ rfl
 have q4:=Zd v7 4 _ rfl
 have qf0:=Zg v7 0
 have qf1:=Zg v7 1
 have qf2:=Zg v7 2
 have qf3:=Zg v7 3
 have qf4:=Zg v7 4
 have ql:=lt_of_block v7
 clear v5 v6 v7 HV5 HV6 HV7
 go_region
 all_goals
  go_wp2
  (try simp only[Exit.inBlock,Exit.then])
  refine bodyPost_ret (v:=.tuple #[.agg #[.slice k5 k5n k5c],.agg #[.slice n5 n5n n5c,.slice b5 b5n b5c,.slice p5 p5n p5c,.int .i64 D.tip],.agg #[.int .i64 b.1,.int .i64 b.2.1,.int .i64 b.2.2.1,.int .i64 b.2.2.2.1,.slice a7 n7 c7],.int .i64 x]) ?_ rfl ?_
  ·rw[R8 rfl]
   go_simp
  ·exact (Za FIN) _ ((((((Za GV).one (w.heap.size+5) 0 (.inl (.inl rfl)) _).four (w.heap.size+6) (.inl (.inr (.inl rfl))) _ _ _ _).five (w.heap.size+7) (.inl (.inr (.inr rfl))) _ _ _ _ _).trans (Gr.of (Zj _))))
end Go.Proofs.YtmomfkikogbdeaaGreatDoor
