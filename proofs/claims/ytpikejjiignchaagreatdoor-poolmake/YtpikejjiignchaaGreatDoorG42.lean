import Derived.Test.YtpikejjiignchaaGreatDoorG41
import Derived.Test.YtpikejjiignchaaGreatDoorG39
set_option maxHeartbeats 12800000
set_option maxRecDepth 10000
namespace Go.Proofs.YtpikejjiignchaaGreatDoor.Tr
open Go.RowKit
def addE(N:List Int)(T:List Z4)(x:Int)(b:Z4):List Int×List Z4×Int:=
 if Vw N T≠0 then ([],[],Vw N T) else if Qx N T x b≠0 then ([],[],Qx N T x b) else if N.length=24 then ([],[],12) else (N++[x],T++[b],0)
theorem Ll:∀ (l pre:List InD),Zz pre l=0→∀ x∈l,x.2.2.length≤16
 | [],_,_,x,hx=>by cases hx
 | y :: r,pre,h,x,hx=>by
  rw[Zz] at h
  split at h
  ·next q=>
   rcases List.mem_cons.1 hx with rfl|hx
   ·unfold Wf at q
    split at q
    ·cases q
    ·split at q
     ·next q1=>exact absurd q q1
     ·next q1=>exact Tt (Classical.not_not.1 q1)
   ·exact Ll r _ h x hx
  ·next q=>exact absurd h q
theorem G0:∀ (l:List Zw),Zx l=0→∀ x∈l,x.2.length≤16
 | [],_,x,hx=>by cases hx
 | y :: r,h,x,hx=>by
  rw[Zx] at h
  split at h
  ·next q=>
   rcases List.mem_cons.1 hx with rfl|hx
   ·unfold Yo at q
    split at q
    ·cases q
    ·exact Tt q
   ·exact G0 r h x hx
  ·next q=>exact absurd h q
theorem tx_small{t:TxD}(h:Zo t=0):Ge t:=by
 unfold Zo at h
 split at h
 ·cases h
 ·next q0=>
  split at h
  ·cases h
  ·split at h
   ·cases h
   ·split at h
    ·next q=>exact absurd h q
    ·next q=>
     have h1:=Ll _ _ (Classical.not_not.1 q)
     unfold Zs at h
     split at h
     ·next q2=>
      have h2:=G0 _ q2
      exact⟨by omega,by omega,fun x hx=>by have:=h1 x hx;omega,fun x hx=>by have:=h2 x hx;omega⟩
     ·next q2=>exact absurd h q2
theorem Ls(h:Int):∀ (T:List TxD) (i:Nat),Yu h i T=0→∀ t∈T,Zo t=0
 | [],_,_,t,ht=>by cases ht
 | u :: r,i,q,t,ht=>by
  rw[Yu] at q
  split at q
  ·next q1=>exact absurd q q1
  ·next q1=>
   split at q
   ·cases q
   ·rcases List.mem_cons.1 ht with rfl|ht
    ·exact Classical.not_not.1 q1
    ·exact Ls h r _ q t ht
theorem Sl{b:Z4}(h:V5 b=0):Fp b:=by
 unfold V5 at h
 split at h
 ·cases h
 ·split at h
  ·cases h
  ·next q=>
   split at h
   ·cases h
   ·exact⟨by omega,fun t ht=>tx_small (Ls _ _ _ h t ht)⟩
theorem Hw:∀ (M:List Int) (U:List Z4) (N:List Int) (T:List Z4),M.length=U.length→Uh N T M U=0→∀ b∈U,V5 b=0
 | [],[],_,_,_,_=>fun b hb=>by cases hb
 | [],_ :: _,_,_,h,_=>by cases h
 | _ :: _,[],_,_,h,_=>by cases h
 | x :: M,b :: U,N,T,h,hc=>by
  rw[Uh] at hc
  split at hc
  ·next q=>exact absurd hc q
  ·next q=>
   have h1:=Jc (Classical.not_not.1 q)
   have h2:=Hw M U _ _ (by simpa using h) hc
   intro y hy
   rcases List.mem_cons.1 hy with rfl|hy
   ·exact h1
   ·exact h2 y hy
def AddR(w w':World)(N:List Int)(T:List Z4)(n:Nat)(x:Int)(e:Ending):Prop:=
 ∃ a1 c1 a2 c2,e = .returned (.tuple #[.agg #[.slice a1 n c1,.slice a2 n c2],.int .i64 x])∧Fresh w.heap.size w' (fun w2=>IntsAt w2 a1 n N∧BlksAt w2 a2 n T)∧SlOk a1 n c1∧SlOk a2 n c2∧Below w.heap.size w w'
theorem Kb{w w':World}{x:Int}(hb:Below w.heap.size w w'):AddR w w' [] [] 0 x (.returned (.tuple #[.agg #[.slice none 0 0,.slice none 0 0],.int .i64 x])):=
 ⟨none,0,none,0,rfl,fun _ _=>⟨IntsAt.nil _ _,RowsAt.nil _ _⟩,⟨Nat.le_refl _,Nat.zero_le _,fun _=>⟨rfl,rfl⟩⟩,⟨Nat.le_refl _,Nat.zero_le _,fun _=>⟨rfl,rfl⟩⟩,hb⟩
theorem Rq{w W:World}{t:Nat}(hb:Below w.heap.size w W)(ht:w.heap.size≤t)(hs:w.heap.size≤W.heap.size)(u v:Value):Below w.heap.size w ((W.setCell ⟨t,0,none⟩ u).setCell ⟨t,1,none⟩ v):=
 (((Gr.refl W (fun q=>q=t)).one t 0 (.inl rfl) u).one t 1 (.inl rfl) v).below hb hs (fun k e=>by omega)
theorem Zgp{B B5 G O t6 n:Nat}{w5 w9 w10 w12 wF:World}{v1 v2:Value}{g cap g2 cap2:Nat}{N:List Int}{T:List Z4}{s:Int}{b:Z4}{K:List (List Value)}{cs:List Value}
  (hB:B≤B5) (ht6:t6<B5) (hBG:B5≤G) (hTn:T.length=n) (hF:Fresh G w5 (fun w2=>AllC blkR w2 K T)) (hf:Fresh w9.heap.size w10 (fun w2=>blkR.C w2 cs b))
  (h1:∀ q,v1.ownBlock=some q→q<G) (h2:∀ q,v2.ownBlock=some q→q<G) (h2':∀ q,v2.ownBlock=some q→B5≤q∧q<w5.heap.size) (hO:O=w5.heap.size) (hO9:O<w9.heap.size) (hB9:B≤w9.heap.size) (ht9:t6<w9.heap.size)
  (g9:Gr w5 w9 (fun q=>v1.ownBlock=some q)) (gF:Gr w9 wF (fun q=>v2.ownBlock=some q∨q=O∨q=t6)) (g10:Gr w10 wF (fun q=>v2.ownBlock=some q∨q=O∨q=t6)) (g12:Gr w12 wF (fun q=>q=O∨q=t6))
  (on9:w9.ownsRow B5 3 1 (.slice (some ⟨g,0,none⟩) (n+1) cap) (n+1) ((N++[s]).map (Value.int .i64))) (hg:g≠O) (hg2:v2.ownBlock≠some g)
  (o12:w12.ownsRow B5 68 5 (.slice (some ⟨g2,0,none⟩) (n+1) cap2) (n+1) (K.flatten++cs)) (hgg:g2≠O) :
  Fresh B wF (fun w2=>IntsAt w2 (some ⟨g,0,none⟩) (n+1) (N++[s])∧BlksAt w2 (some ⟨g2,0,none⟩) (n+1) (T++[b]))∧SlOk (some ⟨g,0,none⟩) (n+1) cap∧SlOk (some ⟨g2,0,none⟩) (n+1) cap2:=by
 have gb:=(on9.lt g rfl).1
 have gb2:=(o12.lt g2 rfl).1
 have onF:=gF.own on9 (fun q hq e=>by
  cases hq
  rcases e with e|e|e
  ·exact hg2 e
  ·exact hg e
  ·simp only at e;omega)
 have obF:=g12.own o12 (fun q hq e=>by
  cases hq
  rcases e with e|e
  ·exact hgg e
  ·simp only at e;omega)
 have hFF:Fresh G wF (fun w2=>AllC blkR w2 K T):=hF.on (((g9.mono (T:=fun q=>v1.ownBlock=some q∨v2.ownBlock=some q∨q=O∨q=t6) fun q _ e=>.inl e).trans (gF.mono fun q _ e=>.inr e)).mono fun q hq e=>by
  rcases e with e|e|e|e
  ·exact h1 q e
  ·exact h2 q e
  ·omega
  ·omega)
 have hfF:Fresh w9.heap.size wF (fun w2=>blkR.C w2 cs b):=hf.on (g10.mono fun q _ e=>by
  rcases e with e|e|e
  ·have:=(h2' q e).2;omega
  ·omega
  ·omega)
 have s1:=Ym onF
 have s2:=Ym obF
 obtain⟨a1,c1,e1,s1,_⟩:=s1
 obtain⟨a2,c2,e2,s2,_⟩:=s2
 cases e1
 cases e2
 refine⟨fun w2 g2=>?_,s1,s2⟩
 have onW:=g2.own onF (fun q hq=>by have:=(onF.lt q hq).1;omega)
 have obW:=g2.own obF (fun q hq=>by have:=(obF.lt q hq).1;omega)
 obtain⟨a1,c1,e1,_,i1⟩:=Pa onW
 cases e1
 have hA:=(hFF w2 (g2.mono fun q _ e=>by omega)).snoc (hfF w2 (g2.mono fun q _ e=>by omega))
 have hfl:K.flatten++cs=(K++[cs]).flatten:=by simp
 rw[hfl] at obW
 obtain⟨a2,c2,e2,r2,_⟩:=rows_of_own blkR obW hA (by rw[List.length_append,hTn];rfl)
 cases e2
 exact⟨i1,r2⟩
theorem Bo(a b:Option Addr)(n c m d:Nat)(N:List Int)(T:List Z4)(s p h k o:Int)(ta:Option Addr)(tn tc:Nat)(L:List TxD)(N':List Int)(T':List Z4)(n':Nat)(x:Int)(w:World)(hN:IntsAt w a n N)(hT:BlksAt w b m T)(sN:SlOk a n c)(sT:SlOk b m d)(hL:TxsAt w ta tn L)(sL:SlOk ta tn tc)(hx:addE N T s (p,h,k,o,L)=(N',T',x))(hn':N'.length=n') :
  Calls Tryz.prog 39 #[.agg #[.slice a n c,.slice b m d],.int .i64 s,.agg #[.int .i64 p,.int .i64 h,.int .i64 k,.int .i64 o,.slice ta tn tc]] w fun e w'=>AddR w w' N' T' n' x e:=by
 obtain⟨i0,hi,hz0,hz1,hz2⟩:=info_parts Tryz.infoInt
 obtain⟨j0,ji,jz0,jz1,jz2⟩:=info_parts Tryz.infoBlkC
 obtain⟨X,hX⟩:∃ X,X=((w.alloc (.cells #[.slice a n c,.slice b m d] 28)).alloc (.cells #[.int .i64 p,.int .i64 h,.int .i64 k,.int .i64 o,.slice ta tn tc] 68)).alloc (.cells #[.slice none 0 0,.slice none 0 0] 28):=⟨_,rfl⟩
 have hbX:Below w.heap.size w X:=by rw[hX];exact Ze (Ze (Zf _ _) (Zf _ _)) (Zf _ _)
 have hX0:X.heap[w.heap.size]? = some (.cells [.slice a n c,.slice b m d].toArray 28 (0,0)):=by
  rw[hX,Below.heap_alloc _ _ _ (by simp;omega),Below.heap_alloc _ _ _ (by simp)];exact Wt _ _ _ _
 have hX1:X.heap[w.heap.size+1]? = some (.cells [.int .i64 p,.int .i64 h,.int .i64 k,.int .i64 o,.slice ta tn tc].toArray 68 (0,0)):=by
  rw[hX,Below.heap_alloc _ _ _ (by simp)]
  have:=Xq (w.alloc (.cells #[.slice a n c,.slice b m d] 28)) (.int .i64 p) (.int .i64 h) (.int .i64 k) (.int .i64 o) (.slice ta tn tc) 68
  rw[show (w.alloc (.cells #[.slice a n c,.slice b m d] 28)).heap.size=w.heap.size+1 by simp] at this
  exact this
 have hX2:X.heap[w.heap.size+2]? = some (.cells [.slice none 0 0,.slice none 0 0].toArray 28 (0,0)):=by
  rw[hX]
  have:=Wt ((w.alloc (.cells #[.slice a n c,.slice b m d] 28)).alloc (.cells #[.int .i64 p,.int .i64 h,.int .i64 k,.int .i64 o,.slice ta tn tc] 68)) (.slice none 0 0) (.slice none 0 0) 28
  rw[show ((w.alloc (.cells #[.slice a n c,.slice b m d] 28)).alloc (.cells #[.int .i64 p,.int .i64 h,.int .i64 k,.int .i64 o,.slice ta tn tc] 68)).heap.size=w.heap.size+2 by simp] at this
  exact this
 have hm:=sN.2.1
 unfold maxLen at hm
 have hnc:=sN.1
 have HB:=Zb hbX
 have HX0:=Zb hX0
 have HX1:=Zb hX1
 have HX2:=Zb hX2
 obtain⟨y,hy⟩:∃ y,Vw N T=y:=⟨_,rfl⟩
 obtain⟨z,hz⟩:∃ z,Qx N T s (p,h,k,o,L)=z:=⟨_,rfl⟩
 have C1:=Zb (Nd a b n c m d N T y X (hN.later hbX) (hT.later hbX) sN sT hy)
 have x0:=Zd hX0 0 _ rfl
 have x1:=Zd hX0 1 _ rfl
 have xl:=lt_of_block hX0
 unfold addE at hx
 rw[hy,hz] at hx
 by_cases q:y=0
 ·subst q
  rw[if_neg (by simp)] at hx
  obtain⟨hl,h24,hH,hgo⟩:=Zed hy
  obtain rfl:n=m:=by rw[←hN.1,←hT.1,hl]
  have hnm:n≤maxLen:=sN.len
  have hn24:n≤24:=by rw[←hN.1];exact h24
  have HS:=Zb (fun t ht=>Sl (Hw N T [] [] hl hgo t ht))
  have C2:=Zb (fun W (hb:Below X.heap.size X W)=>Cd a b n c d N T s p h k o ta tn tc L z W hnm (hN.later (Ze hbX hb)) (hT.later (Ze hbX hb)) (hL.later (Ze hbX hb)) hH hz)
  rw[hN.1] at hx
  have HXX:=Zb hx
  have HNN:=Zb hn'
  have CT:=Zb (fun W (hb:Below X.heap.size X W)=>Zal a b n c d N T W (hN.later (Ze hbX hb)) (hT.later (Ze hbX hb)) sN sT (by omega) (Za HS))
  have CB:=Zb (fun W (hb:Below w.heap.size w W) (q:z=0)=>Hp p h k o ta tn tc L W (hL.later hb) sL (by rw[←hL.1];exact (Sl (Jc (hz.trans q))).1) (Sl (Jc (hz.trans q))).2)
  have HZN:=Zb hN.1
  clear hbX hX0 hX1 hX2 hN hT sN sT hL sL hy hz hl h24 hH hgo hnm hx hn' HS
  go_enter Tryz.func39,Tryz.ntmps39
  go_wp2_with fail
  rw[←hX]
  clear hX
  refine (Za C1).mono ?_
  rintro e w1 ⟨rfl,hb1⟩
  have HB1:=Zb hb1
  have h0:=(hb1.block _ (lt_of_block (Za HX0))).trans (Za HX0)
  have h1:=(hb1.block _ (lt_of_block (Za HX1))).trans (Za HX1)
  have a0:=Zd h0 0 _ rfl
  have a1:=Zd h0 1 _ rfl
  have al:=lt_of_block h0
  have b0:=Zd h1 0 _ rfl
  have b1:=Zd h1 1 _ rfl
  have b2:=Zd h1 2 _ rfl
  have b3:=Zd h1 3 _ rfl
  have b4:=Zd h1 4 _ rfl
  have bl:=lt_of_block h1
  clear hb1 h0 h1 x0 x1 xl C1
  go_wp2_with fail
  refine ((Za C2) _ (Za HB1)).mono ?_
  rintro e w2 ⟨rfl,hb2⟩
  have HB2:=Zb (Ze (Za HB1) hb2)
  clear hb2 a0 a1 al b0 b1 b2 b3 b4 bl C2 HB1
  have h0:=((Za HB2).block _ (lt_of_block (Za HX0))).trans (Za HX0)
  have h1:=((Za HB2).block _ (lt_of_block (Za HX1))).trans (Za HX1)
  have h2:=((Za HB2).block _ (lt_of_block (Za HX2))).trans (Za HX2)
  have c0:=Zd h2 0 _ rfl
  have c1:=Zd h2 1 _ rfl
  have f0:=Zh h2 0
  have f1:=Zh h2 1
  have cl:=lt_of_block h2
  have HBW:=Zb (Ze (Za HB) (Za HB2))
  by_cases q2:z=0
  ·subst q2
   have a0:=Zd h0 0 _ rfl
   have a1:=Zd h0 1 _ rfl
   have al:=lt_of_block h0
   by_cases q3:n=24
   ·subst q3
    obtain⟨rfl,rfl,rfl⟩:([]:List Int)=N'∧([]:List Z4)=T'∧12=x:=by
     have q:=Za HXX
     rw[if_neg (by simp),if_pos rfl] at q
     exact⟨congrArg (·.1) q,congrArg (·.2.1) q,congrArg (·.2.2) q⟩
    obtain rfl:0=n':=Za HNN
    clear HXX h0 h1 h2
    go_wp2
    (try simp only[Exit.inBlock,Exit.then])
    refine bodyPost_ret (v:=.tuple #[.agg #[.slice none 0 0,.slice none 0 0],.int .i64 12]) ?_ rfl (Kb ?_)
    ·rw[Ys rfl]
     go_simp
    ·exact Rq (Za HBW) (by omega) (Za HBW).size _ _
   ·have R:Hid (N++[s]=N'∧T++[(p,h,k,o,L)]=T'∧0=x):=by
     have q:=Za HXX
     rw[if_neg (by simp),if_neg q3] at q
     exact⟨congrArg (·.1) q,congrArg (·.2.1) q,congrArg (·.2.2) q⟩
    obtain rfl:0=x:=(Za R).2.2
    have g3:((n:Int) == 24)=false:=by simp;omega
    have H0:=Zb h0
    have H1:=Zb h1
    have H2:=Zb h2
    obtain rfl:n+1=n':=by rw[←Za HNN,←(Za R).1,List.length_append,Za HZN];rfl
    clear HXX q3 h0 h1 h2 c0 c1 f0 f1
    go_wp2_with fail
    refine ((Za CT) _ (Za HB2)).mono ?_
    rintro e w5 ⟨v1,v2,rfl,hTO,hb5⟩
    obtain⟨K,G,o1,o2,g1,g2,hBG,hTn,hF⟩:=hTO
    obtain⟨a1',c1',rfl,s1,r1⟩:=Ym o1
    obtain⟨a2',c2',rfl,s2,r2⟩:=Ym o2
    obtain⟨t6,ht6⟩:∃ t6,t6=w.heap.size+2:=⟨_,rfl⟩
    have hB5:w.heap.size+3≤w2.heap.size+2:=by omega
    have hs5:w2.heap.size≤w5.heap.size:=hb5.size
    have hb1lt:∀ q,(Value.slice a1' n c1').ownBlock=some q→w2.heap.size+2≤q∧q<w5.heap.size:=fun q hq=>o1.lt q hq
    have hb2lt:∀ q,(Value.slice a2' n c2').ownBlock=some q→w2.heap.size+2≤q∧q<w5.heap.size:=fun q hq=>o2.lt q hq
    have OWN:Hid (((w5.alloc (.cells #[.slice a1' n c1',.slice a2' n c2'] 28)).alloc (.cells #[.int .i64 s] 3)).ownsRow (w2.heap.size+2) 3 1 (.slice a1' n c1') n (N.map (Value.int .i64))):=(o1.alloc _).alloc _
    have NEWS:Hid (∀ j u,([.int .i64 s]:List Value)[j]? = some u→((w5.alloc (.cells #[.slice a1' n c1',.slice a2' n c2'] 28)).alloc (.cells #[.int .i64 s] 3)).cell? ((⟨w5.heap.size+1,0,none⟩:Addr).add j)=some u):=by
     have:=heap_alloc_new (w5.alloc (.cells #[.slice a1' n c1',.slice a2' n c2'] 28)) (.cells #[.int .i64 s] 3)
     rw[show (w5.alloc (.cells #[.slice a1' n c1',.slice a2' n c2'] 28)).heap.size=w5.heap.size+1 by simp] at this
     exact World.news_of_block (cs:=#[.int .i64 s]) (t:=3) (fr:=(0,0)) this
    have BX:Hid (((w5.alloc (.cells #[.slice a1' n c1',.slice a2' n c2'] 28)).alloc (.cells #[.int .i64 s] 3)).heap[w5.heap.size]? = some (.cells [.slice a1' n c1',.slice a2' n c2'].toArray 28 (0,0))):=by
     show _=_
     rw[Below.heap_alloc _ _ _ (by simp)]
     exact Wt _ _ _ _
    have HO2:=Zb o2
    have HF:=Zb hF
    have HG1:=Zb g1
    have HG2:=Zb g2
    have HL1:=Zb hb1lt
    have HL2:=Zb hb2lt
    have HB5:=Zb hb5
    have HTN:=Zb hTn
    have HBG:=Zb hBG
    have HS2:=Zb s2
    clear o1 o2 hF g1 g2 hb1lt hb2lt hb5 a0 a1 al r1 r2 CT hTn hBG s1 s2
    go_wp2_with (at_builtin;refine wpList_append_lies _ rfl _ _ 25 rfl (w2.heap.size+2) 3 i0 (.int .i64 0) 1 8 Tryz.underlying25 hi hz0 hz1 hz2 rfl (by decide) _ _ _ rfl (Za OWN) ⟨w5.heap.size+1,0,none⟩ 1 1 [.int .i64 s] rfl rfl (Za NEWS) (fun u hu=>by simp at hu;subst hu;rfl) (by decide) (by unfold maxLen;omega) (by omega) (by simp;omega) (w5.heap.size+2) (by simp) ?_;intro g cap w8 hown8 hgrow8 hor8 hlt8;have bx8:=(hgrow8.block w5.heap.size (by simp;omega) (fun e=>by have:=((Za HL1) _ e.symm).2;omega)).trans (Za BX);have d0:=Zd bx8 0 _ rfl;have d1:=Zd bx8 1 _ rfl;have df:=Zh bx8 0;have dl:=lt_of_block bx8;have HW8:=Zb hown8;have HGR8:=Zb hgrow8;have HOR8:=Zb hor8;have HX8:=Zb bx8;clear hown8 hgrow8 hor8 bx8)
    obtain⟨w9,hw9⟩:∃ w9,w9=w8.setCell ⟨w5.heap.size,0,none⟩ (.slice (some ⟨g,0,none⟩) (n+1) cap):=⟨_,rfl⟩
    rw[←hw9]
    have hG8:Gr w5 w8 (fun q=>(Value.slice a1' n c1').ownBlock=some q):=(((Gr.refl w5 (fun q=>(Value.slice a1' n c1').ownBlock=some q)).new _).new _).grown (Za HGR8) (fun k hk=>.inl hk)
    have hG9:Gr w5 w9 (fun q=>(Value.slice a1' n c1').ownBlock=some q):=by rw[hw9];exact hG8.one w5.heap.size 0 (.inr (Nat.le_refl _)) _
    have bx9:w9.heap[w5.heap.size]? = some (.cells [.slice (some ⟨g,0,none⟩) (n+1) cap,.slice a2' n c2'].toArray 28 (0,0)):=by rw[hw9];exact set_cells (Za HX8) 0 _
    have hb9:Below w.heap.size w w9:=hG9.below (Ze (Za HBW) (Za HB5)) (by omega) (fun q hq=>by have:=((Za HL1) q hq).1;omega)
    have h91:=hG9.heap (((Za HB5).block _ (lt_of_block (Za H1))).trans (Za H1)) (fun hq=>by have:=((Za HL1) _ hq).1;have:=lt_of_block (Za H1);omega)
    have h92:=hG9.heap (((Za HB5).block _ (lt_of_block (Za H2))).trans (Za H2)) (fun hq=>by have:=((Za HL1) _ hq).1;omega)
    have hg8:g≠w5.heap.size∧w2.heap.size+2≤g:=by
     rcases Za HOR8 with e|e
     ·have:=(Za HL1) g e;omega
     ·omega
    have hg82:(Value.slice a2' n c2').ownBlock≠some g:=by
     have o28:w8.ownsRow (w2.heap.size+2) 68 5 (.slice a2' n c2') n K.flatten:=hG8.own (Za HO2) (fun q hq e=>Yy ((((Za OWN).kept (w':=(w5.alloc (.cells #[.slice a1' n c1',.slice a2' n c2'] 28)).alloc (.cells #[.int .i64 s] 3)) (row:=none) (World.grownBy.refl _ _) (by cases a1' <;> simp[Value.ownBlock])))) (((Za HO2).alloc _).alloc _) (by decide) q e hq)
     exact Yy (Za HW8) o28 (by decide) g rfl
    have on9:w9.ownsRow (w2.heap.size+2) 3 1 (.slice (some ⟨g,0,none⟩) (n+1) cap) (n+1) ((N++[s]).map (Value.int .i64)):=by
     rw[hw9]
     have:=((Gr.refl w8 (fun q=>q=w5.heap.size)).one w5.heap.size 0 (.inl rfl) (.slice (some ⟨g,0,none⟩) (n+1) cap)).own (Za HW8) (fun q hq e=>by cases hq;exact hg8.1 e)
     simpa using this
    have ob9:w9.ownsRow (w2.heap.size+2) 68 5 (.slice a2' n c2') n K.flatten:=hG9.own (Za HO2) (fun q hq e=>Yy (Za OWN) (((Za HO2).alloc _).alloc _) (by decide) q e hq)
    have l9:w5.heap.size<w9.heap.size:=lt_of_block bx9
    have CC:=Zb ((Za CB) w9.drew (Ze hb9 (Zi _)) (by trivial))
    have e0:=Zd bx9 0 _ rfl
    have e1:=Zd bx9 1 _ rfl
    have k0:=Zd h91 0 _ rfl
    have k1:=Zd h91 1 _ rfl
    have k2:=Zd h91 2 _ rfl
    have k3:=Zd h91 3 _ rfl
    have k4:=Zd h91 4 _ rfl
    have kl:=lt_of_block h91
    have HBX9:=Zb bx9
    have HG9:=Zb hG9
    have H92:=Zb h92
    have HON9:=Zb on9
    have HOB9:=Zb ob9
    have HB9:=Zb hb9
    clear hw9 hG8 hG9 bx9 hb9 h91 h92 on9 ob9 d0 d1 df dl CB
    go_region_law (first
     | (refine L9 (by rfl) 84 #[.agg #[.int .i64 p,.int .i64 h,.int .i64 k,.int .i64 o,.slice ta tn tc]] (by kernel_rfl) (Za CC) ?_;rintro e w10 ⟨a5,c5,rfl,hf10,hb10⟩;refine⟨_,rfl,?_⟩;have bx10:=(hb10.block _ (lt_of_block (Za HBX9))).trans (Za HBX9);have m0:=Zd bx10 0 _ rfl;have m1:=Zd bx10 1 _ rfl;have ml:=lt_of_block bx10;have HF10:=Zb hf10;have HB10:=Zb hb10;have HBX10:=Zb bx10;have HOB10:=Zb ((Gr.of (S:=fun _=>False) hb10).own (Za HOB9).drew (fun _ _ q=>q));clear hf10 hb10 bx10)
     | (refine step_append_lies _ (by rfl) _ _ _ (by rfl) (w2.heap.size+2) 68 j0 _ 5 56 Tryz.underlying26 ji jz0 jz1 jz2 rfl (by decide) (.slice a2' n c2') n K.flatten (by rfl) ((Za HOB10).alloc _) ⟨w10.heap.size,0,none⟩ 1 1 [.int .i64 p,.int .i64 h,.int .i64 k,.int .i64 o,.slice a5 tn c5] (by rfl) (by rfl) (World.news_of_block (cs:=#[.int .i64 p,.int .i64 h,.int .i64 k,.int .i64 o,.slice a5 tn c5]) (t:=68) (fr:=(0,0)) (heap_alloc_new w10 _)) (by simp[Value.oneCell']) (by decide) (by unfold maxLen;omega) (by omega) (by simp;omega) (w10.heap.size+1) (by simp) ?_;intro g2 cap2 w12 hown12 hgrow12 hor12 hlt12;have bx12:=(hgrow12.block w5.heap.size (by simp;omega) (fun e=>by have:=((Za HL2) _ e.symm).2;omega)).trans ((Below.heap_alloc _ _ _ ml).trans (Za HBX10));have n0:=Zd bx12 0 _ rfl;have n1:=Zd bx12 1 _ rfl;have nf:=Zh bx12 1;have nl:=lt_of_block bx12;have HW12:=Zb hown12;have HGR12:=Zb hgrow12;have HOR12:=Zb hor12;have HBX12:=Zb bx12;clear hown12 hgrow12 hor12 bx12))
    all_goals
     have g912:Gr w9 w12 (fun q=>(Value.slice a2' n c2').ownBlock=some q):=((Gr.of (Ze (Zi w9) (Za HB10))).new _).grown (Za HGR12) (fun k hk=>.inl hk)
     have g1012:Gr w10 w12 (fun q=>(Value.slice a2' n c2').ownBlock=some q):=((Gr.refl w10 _).new _).grown (Za HGR12) (fun k hk=>.inl hk)
     have t12:=g912.heap (Za H92) (fun e=>by have:=((Za HL2) _ e).1;omega)
     obtain⟨w13,hw13⟩:∃ w13,w13=w12.setCell ⟨w5.heap.size,1,none⟩ (.slice (some ⟨g2,0,none⟩) (n+1) cap2):=⟨_,rfl⟩
     have bx13:w13.heap[w5.heap.size]? = some (.cells [.slice (some ⟨g,0,none⟩) (n+1) cap,.slice (some ⟨g2,0,none⟩) (n+1) cap2].toArray 28 (0,0)):=by rw[hw13];exact set_cells (Za HBX12) 1 _
     have t13:w13.heap[w.heap.size+2]? = some (.cells [.slice none 0 0,.slice none 0 0].toArray 28 (0,0)):=by rw[hw13];exact ((Gr.refl w12 (fun q=>q=w5.heap.size)).one w5.heap.size 1 (.inl rfl) _).heap t12 (by omega)
     have gf:∀ {W:World} {S:Nat→Prop},Gr W w12 S→Gr W ((w13.setCell ⟨w.heap.size+2,0,none⟩ (.slice (some ⟨g,0,none⟩) (n+1) cap)).setCell ⟨w.heap.size+2,1,none⟩ (.slice (some ⟨g2,0,none⟩) (n+1) cap2)) (fun q=>S q∨q=w5.heap.size∨q=w.heap.size+2):=by
      intro W S hW
      rw[hw13]
      exact (((hW.mono (fun q _ e=>.inl e)).one w5.heap.size 1 (.inl (.inr (.inl rfl))) _).one (w.heap.size+2) 0 (.inl (.inr (.inr rfl))) _).one (w.heap.size+2) 1 (.inl (.inr (.inr rfl))) _
     have hsz9:=(Za HB10).size
     have FIN:=Zgp (w9:=w9) (B:=w.heap.size) (t6:=w.heap.size+2) (by omega) (by omega) (Za HBG) (Za HTN) (Za HF) (Za HF10) (Za HG1) (Za HG2) (Za HL2) rfl l9 (by omega) (by have:=lt_of_block (Za H92);omega) (Za HG9) (gf g912) (gf g1012) ((gf (Gr.refl w12 (fun _=>False))).mono fun q _ e=>by rcases e with e|e;exact e.elim;exact e) (Za HON9) hg8.1 hg82 (Za HW12) (by
      rcases Za HOR12 with e|e
      ·have:=(Za HL2) g2 e;omega
      ·have:w9.heap.size≤w10.heap.size:=hsz9
       omega)
     have HFIN:=Zb FIN
     have HBF:Hid (Below w.heap.size w ((w13.setCell ⟨w.heap.size+2,0,none⟩ (.slice (some ⟨g,0,none⟩) (n+1) cap)).setCell ⟨w.heap.size+2,1,none⟩ (.slice (some ⟨g2,0,none⟩) (n+1) cap2))):=(gf g912).below (Za HB9) (by omega) (fun q e=>by
      rcases e with e|e|e
      ·have:=((Za HL2) _ e).1;omega
      ·omega
      ·omega)
     have y0:=Zd bx13 0 _ rfl
     have y1:=Zd bx13 1 _ rfl
     have yl:=lt_of_block bx13
     have u0:=Zd t13 0 _ rfl
     have u1:=Zd t13 1 _ rfl
     have uf0:=Zh t13 0
     have uf1:=Zh t13 1
     have ul:=lt_of_block t13
     rw[←hw13]
     clear hw13 gf FIN g912 g1012 t12 bx13 t13 n0 n1 nf nl m0 m1 ml e0 e1 k0 k1 k2 k3 k4 kl
     go_wp2
     (try simp only[Exit.inBlock,Exit.then])
     refine bodyPost_ret (v:=.tuple #[.agg #[.slice (some ⟨g,0,none⟩) (n+1) cap,.slice (some ⟨g2,0,none⟩) (n+1) cap2],.int .i64 0]) ?_ rfl ?_
     ·rw[Ys rfl]
      go_simp
     ·obtain⟨f1,f2,f3⟩:=Za HFIN
      rw[←(Za R).1,←(Za R).2.1]
      exact⟨_,_,_,_,rfl,f1,f2,f3,Za HBF⟩
  ·obtain⟨rfl,rfl,rfl⟩:([]:List Int)=N'∧([]:List Z4)=T'∧z=x:=by
    have q:=Za HXX
    rw[if_pos q2] at q
    exact⟨congrArg (·.1) q,congrArg (·.2.1) q,congrArg (·.2.2) q⟩
   obtain rfl:0=n':=Za HNN
   have g2:(z != 0)=true:=by simp[q2]
   clear HXX h0 h1 h2 q2
   go_wp2
   (try simp only[Exit.inBlock,Exit.then])
   refine bodyPost_ret (v:=.tuple #[.agg #[.slice none 0 0,.slice none 0 0],.int .i64 z]) ?_ rfl (Kb ?_)
   ·rw[Ys rfl]
    go_simp
   ·exact Rq (Za HBW) (by omega) (Za HBW).size _ _
 ·rw[if_pos q] at hx
  obtain⟨rfl,rfl,rfl⟩:([]:List Int)=N'∧([]:List Z4)=T'∧y=x:=⟨congrArg (·.1) hx,congrArg (·.2.1) hx,congrArg (·.2.2) hx⟩
  obtain rfl:0=n':=hn'
  have g:(y != 0)=true:=by simp[q]
  clear hbX hX0 hX1 hX2 hN hT sN sT hL sL hy hz hx q
  go_enter Tryz.func39,Tryz.ntmps39
  go_wp2_with fail
  rw[←hX]
  clear hX
  refine (Za C1).mono ?_
  rintro e w1 ⟨rfl,hb1⟩
  have h2:=(hb1.block _ (lt_of_block (Za HX2))).trans (Za HX2)
  have c0:=Zd h2 0 _ rfl
  have c1:=Zd h2 1 _ rfl
  have f0:=Zh h2 0
  have f1:=Zh h2 1
  have cl:=lt_of_block h2
  have HB1:=Zb (Ze (Za HB) hb1)
  clear hb1 h2 x0 x1 xl C1
  go_wp2
  (try simp only[Exit.inBlock,Exit.then])
  refine bodyPost_ret (v:=.tuple #[.agg #[.slice none 0 0,.slice none 0 0],.int .i64 y]) ?_ rfl (Kb ?_)
  ·rw[Ys rfl]
   go_simp
  ·exact Rq (Za HB1) (by omega) (Za HB1).size _ _
end Go.Proofs.YtpikejjiignchaaGreatDoor.Tr
namespace Go.Proofs.YtpikejjiignchaaGreatDoor
open Go.RowKit
structure Zia(f:Nat)(caps:Array Value)(w0:World)(C0:List Zg)(D0:Nat→Prop)(I:Nat→(Nat→Prop)→World→List (TxD×List Zg)→Prop):Prop where
 enters:∀ args w,(callFunc f args).run Tryz.prog w = .ok (.enter f args) w
 start:∀ p w,Below w0.heap.size w0 w→w0.heap.size≤p→p<w.heap.size→I p D0 w []
 dirty:∀ p D w X,I p D w X→∀ q,D q→q≠p∧q<w.heap.size∧(D0 q∨w0.heap.size≤q)
 on:∀ p D w w' X,I p D w X→Gr w w' (fun q=>q=p)→I p D w' X
 call:∀ p D wA w X t C' u0 u1 u2,I p D wA X→Below wA.heap.size wA w→Fresh wA.heap.size w (fun w2=>Tr.txR.C w2 [u0,u1,u2] t)→Z5 (Xx C0 X)→Z5 C'→Zp C'≤Zp (Xx C0 X)→X.length<8 →
  Calls Tryz.prog f (#[.agg #[u0,u1,u2],.int .i64 (Zp (Xx C0 X) - Zp C')]++caps) w fun e w'=>e = .returned (.tuple #[])∧Gr w w' D∧∃ D',I p D' w' (X++[(t,C')])
def SwR(w w':World)(x:Int)(D0:Nat→Prop)(K:List ByteArray)(C:List Zg)(h:Int)(I:Nat→(Nat→Prop)→World→List (TxD×List Zg)→Prop)(X:List (TxD×List Zg))(e:Ending):Prop:=
 (x≠0∧e = .returned (.tuple #[.pointer none,.int .i64 x])∧Below w.heap.size w w') ∨
 (x=0∧∃ p D,e = .returned (.tuple #[.pointer (some ⟨p,0,none⟩),.int .i64 0])∧w.heap.size≤p∧Gr w w' D0∧DoT w' w.heap.size p K C h∧I p D w' X)
structure SwS(w0 wr:World)(h:Int)(D0:Nat→Prop)(I:Nat→(Nat→Prop)→World→List (TxD×List Zg)→Prop)(s0:List ByteArray×List Zg)(L:List TxD)(p k:Nat):Prop where
 gr:Gr w0 wr D0
 all:∃ B D K C X,w0.heap.size≤B∧DoT wr B p K C h∧I p D wr X∧Bk.Right K∧Z5 C∧Xx s0.2 X=C∧X.length≤k∧swT h L s0=X++swT h (L.drop k) (K,C)∧(Yb h L s0).2=(Yb h (L.drop k) (K,C)).2
theorem Gr.far{w w1 w2:World}{S T:Nat→Prop}(h:Gr w w1 S)(k:Gr w1 w2 T)(hT:∀ q,T q→w.heap.size≤q∨S q):Gr w w2 S:=
 ⟨k.os.trans h.os,k.tape.trans h.tape,k.output.trans h.output,Nat.le_trans h.size k.size,fun i hi hn=>(k.block i (Nat.lt_of_lt_of_le hi h.size) (fun q=>by
  rcases hT i q with q|q
  ·omega
  ·exact hn q)).trans (h.block i hi hn)⟩
theorem Zgz{h:Int}{L:List TxD}{k:Nat}(hk:k<L.length)(s:List ByteArray×List Zg):swT h (L.drop k) s=if (doD h s L[k]).1=0 then (L[k],(doD h s L[k]).2.2) :: swT h (L.drop (k+1)) (doD h s L[k]).2 else swT h (L.drop (k+1)) s:=by
 rw[List.drop_eq_getElem_cons hk,swT]
theorem Zet{h:Int}{L:List TxD}{k:Nat}(hk:k<L.length)(s:List ByteArray×List Zg):(Yb h (L.drop k) s).2=if (doD h s L[k]).1=0 then (Yb h (L.drop (k+1)) (doD h s L[k]).2).2 else (Yb h (L.drop (k+1)) s).2:=by
 rw[List.drop_eq_getElem_cons hk,Yb]
 split <;> rfl
theorem Lc(f:Nat)(caps:Array Value)(D0:Nat→Prop)(I:Nat→(Nat→Prop)→World→List (TxD×List Zg)→Prop)(ka:Option Addr)(kn kc:Nat)(K:List ByteArray)(la:Option Addr)(ln lc:Nat)(C:List Zg)(a:Option Addr)(m c:Nat)(L:List TxD)(h x:Int)(w:World)
  (hk:Zia f caps w C D0 I) (win:World) (hin:∀ V,Gr w V D0→Below win.heap.size win V) (hE:Env win) (hK:Bk.TextsAt win ka kn K) (hC:CoinsAt win la ln C) (sC:SlOk la ln lc) (hL:TxsAt win a m L) (hx:swE K C L h=x) :
  Calls Tryz.prog 49 #[.agg #[.slice ka kn kc],.slice la ln lc,.slice a m c,.int .i64 h,.func (.func f) #[] caps] w fun e w'=>SwR w w' x D0 (Yb h L (K,C)).2.1 (Yb h L (K,C)).2.2 h I (swT h L (K,C)) e:=by
 obtain⟨X,hX⟩:∃ X,X=w.alloc (.cells #[.slice ka kn kc] 24):=⟨_,rfl⟩
 have hbX:Below w.heap.size w X:=by rw[hX];exact Zf _ _
 have hX0:X.heap[w.heap.size]? = some (.cells [.slice ka kn kc].toArray 24 (0,0)):=by rw[hX];exact Jb _ _ _
 obtain⟨x1,hx1⟩:∃ x1,Tf K C h=x1:=⟨_,rfl⟩
 have hLl:L.length=m:=hL.1
 have hinX:=hin X (Gr.of hbX)
 have C1:=Zb (Zcn ka kn kc K la ln lc C h x1 X (hK.later hinX) (hC.later hinX) sC hx1)
 unfold swE at hx
 rw[hx1,hLl] at hx
 have HK:=Zb hk
 have HE:=Zb hE
 have HL:=Zb hL
 have HIN:=Zb hin
 have HX:=Zb hx
 have HX1:=Zb hx1
 have HLl:=Zb hLl
 have HBX:=Zb hbX
 have t0:=Zd hX0 0 _ rfl
 have tl:=lt_of_block hX0
 clear hk hE hK hC sC hL hx hx1 hLl hbX hX0 hin hinX
 go_enter Tryz.func49,Tryz.ntmps49
 go_wp2_with fail
 rw[←hX]
 clear hX
 (try go_wp2_with fail)
 refine (Za C1).mono ?_
 rintro e w1 ⟨hr,hb1⟩
 have HB1:=Zb (Ze (Za HBX) hb1)
 have HXS:=Zb (Za HBX).size
 rcases hr with ⟨h0,rfl⟩|⟨h0,p,rfl,hp1,hp2,hd⟩
 ·have gx:(x1 != 0)=true:=by simp[h0]
  have HXE:Hid (x=x1):=by have:=Za HX;rw[if_pos h0] at this;exact this.symm
  clear HX hb1 C1
  go_wp2
  go_ret2
  rw[Za HXE]
  exact .inl ⟨h0,rfl,Za HB1⟩
 ·subst h0
  have HD1:=Zb (hd.less (Za HXS))
  have HP1:=Zb (Nat.le_trans (Za HXS) hp1)
  have HPL:=Zb (show p<w1.heap.size by omega)
  clear hd hb1 C1 hp1 hp2
  by_cases e8:8<m
  ·have g8:(8:Int)<(m:Int):=by omega
   have HXE:Hid (x=2):=by have:=Za HX;rw[if_neg (fun q=>q rfl),if_pos e8] at this;exact this.symm
   clear HX e8
   go_wp2
   go_ret2
   rw[Za HXE]
   exact .inl ⟨by decide,rfl,Za HB1⟩
  ·have g8:¬(8:Int)<(m:Int):=by omega
   have hm8:m≤8:=by omega
   have HXE:Hid (x=0):=by have:=Za HX;rw[if_neg (fun q=>q rfl),if_neg e8] at this;exact this.symm
   obtain⟨hR,hRC,_,_⟩:=Qe (Za HX1)
   have ST:Hid (SwS w w1 h D0 I (K,C) L p 0):=⟨Gr.of (Za HB1),w.heap.size,D0,K,C,[],Nat.le_refl _,Za HD1,(Za HK).start p w1 (Za HB1) (Za HP1) (Za HPL),hR,hRC,rfl,Nat.le_refl _,rfl,rfl⟩
   clear HX hR hRC e8 HX1 HD1
   go_wp2
   go_loopw [33] (fun i wr=>∃ k:Nat,k≤m∧i = .int .i64 k∧Hid (SwS w wr h D0 I (K,C) L p k)) (fun i _=>m - (intOf i).toNat)
   case atStart=>exact⟨0,Nat.zero_le _,rfl,ST⟩
   case round=>
    obtain⟨k,hk,rfl,HS⟩:=hrel
    by_cases hlt:k<m
    ·obtain⟨hg,B,D,Kk,Ck,Xs,hB,hd,hI,hR,hRC,hlast,hXl,hT1,hG1⟩:=Za HS
     have hbi:=(Za HIN) wr hg
     have hkL:k<L.length:=by rw[Za HLl];exact hlt
     obtain⟨b,off,rfl,hbl,hrow⟩:=(Za HL).2 (by omega)
     obtain⟨c0,⟨ai,ni,ci,c1,hI1,sI1⟩,ao,no,co,c2,hO1,sO1⟩:=hrow k hkL
     have c0:=Zc hbi c0
     have c1:=Zc hbi c1
     have c2:=Zc hbi c2
     have hbl:b<wr.heap.size:=Nat.lt_of_lt_of_le hbl hbi.size
     rw[Zgz hkL] at hT1
     rw[Zet hkL] at hG1
     obtain⟨t,ht⟩:∃ t,L[k]=t:=⟨_,rfl⟩
     rw[ht] at hT1 hG1 c0 hI1 hO1
     obtain⟨th,tI,tO⟩:=t
     simp only at c0 hI1 hO1
     obtain⟨⟨y,K',C'⟩,hy⟩:∃ r,doD h (Kk,Ck) (th,tI,tO)=r:=⟨_,rfl⟩
     rw[hy] at hT1 hG1
     simp only at hT1 hG1
     obtain⟨Y,hY⟩:∃ Y,Y=wr.alloc (.cells #[.int .i64 th,.slice ai ni ci,.slice ao no co] 52):=⟨_,rfl⟩
     have hbY:Below wr.heap.size wr Y:=by rw[hY];exact Zf _ _
     have hY0:Y.heap[wr.heap.size]? = some (.cells [.int .i64 th,.slice ai ni ci,.slice ao no co].toArray 52 (0,0)):=by rw[hY];exact Zl _ _ _ _ _
     have CD:=Zb (Zco p Kk Ck h th ai ao ni ci no co tI tO y K' C' Y ((Za HE).later (Ze hbi hbY)) (hd.later hbY).till hRC (hI1.later (Ze hbi hbY)) (hO1.later (Ze hbi hbY)) sI1 hy)
     have y0:=Zd hY0 0 _ rfl
     have y1:=Zd hY0 1 _ rfl
     have y2:=Zd hY0 2 _ rfl
     have yl:=lt_of_block hY0
     have HG:=Zb hg
     have HB:=Zb hB
     have HDT:=Zb hd
     have HI:=Zb hI
     have HRr:=Zb hR
     have HRC:=Zb hRC
     have HLast:=Zb hlast
     have HXl:=Zb hXl
     have HT1:=Zb hT1
     have HG1:=Zb hG1
     have HBY:=Zb hbY
     have HY0:=Zb hY0
     have HIns:=Zb hI1
     have HOuts:=Zb hO1
     have HSI:=Zb sI1
     have HSO:=Zb sO1
     have HY:=Zb hy
     clear hg hB hd hI hR hRC hlast hXl hT1 hG1 hbY hY0 hI1 hO1 sI1 sO1 hy hrow ht HS hbi
     go_wp2_with fail
     rw[←hY]
     clear hY c0 c1 c2
     (try go_wp2_with fail)
     refine (Za CD).mono ?_
     rintro e w2 hdo
     rcases hdo with ⟨n0,rfl,hb2⟩|⟨n0,rfl,hg2,hd2⟩
     ·have gy:(y == 0)=false:=by simp[n0]
      have gy2:¬y=0:=n0
      have hbb:=Ze (Za HBY) hb2
      have REL:Hid (SwS w w2 h D0 I (K,C) L p (k+1)):=by
       refine⟨(Za HG).on hbb,B,D,Kk,Ck,Xs,Za HB,(Za HDT).later hbb,(Za HK).on p D wr w2 Xs (Za HI) (Gr.of hbb),Za HRr,Za HRC,Za HLast,Nat.le_succ_of_le (Za HXl),?_,?_⟩
       ·have:=Za HT1;rw[if_neg n0] at this;exact this
       ·have:=Za HG1;rw[if_neg n0] at this;exact this
      clear hbb hb2 CD n0
      go_wp2
      go_roundw
      case rel=>exact⟨k+1,by omega,by go_num,REL⟩
      case measure=>simp[intOf];omega
     ·subst n0
      have hdf:=Hl (Za HRr) (Za HY)
      obtain⟨f1,_,f3,f4,f5⟩:=hdf
      have sm:=Tr.tx_small f5
      have HF1:=Zb f1
      have HF3:=Zb f3
      have HF4:=Zb f4
      have hgY2:Gr wr w2 (fun q=>q=p):=(Gr.of (Za HBY)).trans hg2
      have hdirty:=(Za HK).dirty p D wr Xs (Za HI)
      have hIp:=(Za HK).on p D wr w2 Xs (Za HI) hgY2
      have hpl0:p<wr.heap.size:=by obtain⟨_,_,_,_,_,_,hh,_⟩:=Za HDT;exact lt_of_block hh
      have hgw2:Gr w w2 D0:=(Za HG).far hgY2 (fun q e=>.inl (by rw[e];exact Za HP1))
      have hbi2:=(Za HIN) w2 hgw2
      have CT:=Zb (Tr.clTx_is th ai ao ni ci no co tI tO w2 ((Za HIns).later hbi2) ((Za HOuts).later hbi2) (Za HSI) (Za HSO) (by rw[←(Za HIns).1];exact sm.1) (by rw[←(Za HOuts).1];exact sm.2.1) sm.2.2.1 sm.2.2.2)
      have h20:=(hg2.block _ (lt_of_block (Za HY0)) (by intro q;have q:wr.heap.size=p:=q;omega)).trans (Za HY0)
      have z0:=Zd h20 0 _ rfl
      have z1:=Zd h20 1 _ rfl
      have z2:=Zd h20 2 _ rfl
      have zl:=lt_of_block h20
      have HGW2:=Zb hgw2
      have HDI:=Zb hdirty
      have HIP:=Zb hIp
      have HD2:=Zb hd2
      have HYS:=Zb (Za HBY).size
      have hlast:Xx C Xs=Ck:=Za HLast
      have CALL:=Zb (fun w3 (hb3:Below w2.heap.size w2 w3) a1 c1 a2 c2 (hF3:Fresh w2.heap.size w3 (fun W=>Tr.txR.C W [.int .i64 th,.slice a1 ni c1,.slice a2 no c2] (th,tI,tO)))=>(Za HK).call p D w2 w3 Xs (th,tI,tO) C' _ _ _ hIp hb3 hF3 (by rw[hlast];exact Za HRC) f3 (by rw[hlast];exact f4) (by have:=Za HXl;omega))
      rw[hlast] at CALL
      clear f1 f3 f4 f5 sm hgY2 hdirty hIp hgw2 hbi2 h20 hd2 hg2 hlast CD y0 y1 y2 yl
      go_wp2_with fail
      refine (Za CT).mono ?_
      rintro e w3 ⟨a1,c1,a2,c2,rfl,hF3,hb3⟩
      have CL:=Zb ((Za CALL) w3 hb3 a1 c1 a2 c2 hF3)
      have HB3:=Zb hb3
      clear hF3 hb3 CT CALL z0 z1 z2 zl
      have eg:=(Za HK).enters
      go_wp2_with fail
      refine (Za CL).mono ?_
      rintro e w4 ⟨rfl,hg4,D',hI4⟩
      have REL:Hid (SwS w w4 h D0 I (K,C) L p (k+1)):=by
       have hdir:=Za HDI
       refine⟨((Za HGW2).on (Za HB3)).far hg4 (fun q e=>(hdir q e).2.2.symm),Y.heap.size,D',K',C',Xs++[((th,tI,tO),C')],?_,?_,hI4,Za HF1,Za HF3,Qi _ _ _ _,?_,?_,?_⟩
       ·exact Nat.le_trans (Za HG).size (Za HYS)
       ·refine (Za HD2).on ((Gr.of (Za HB3)).trans (hg4.mono (fun q _ e=>Nat.lt_of_lt_of_le (hdir q e).2.1 (Za HYS)))) ?_
        have hpl2:p<w2.heap.size:=by obtain⟨_,_,_,_,_,_,hh,_⟩:=Za HD2;exact lt_of_block hh
        exact (hg4.block p (Nat.lt_of_lt_of_le hpl2 (Za HB3).size) (fun e=>(hdir p e).1 rfl)).trans ((Za HB3).block p hpl2)
       ·rw[List.length_append];exact Nat.succ_le_succ (Za HXl)
       ·have:=Za HT1;(first|rw[if_pos rfl] at this|rw[if_pos trivial] at this);rw[this,List.append_assoc];rfl
       ·have:=Za HG1;(first|rw[if_pos rfl] at this|rw[if_pos trivial] at this);exact this
      clear hg4 hI4 CL eg
      go_wp2
      go_roundw
      case rel=>exact⟨k+1,by omega,by go_num,REL⟩
      case measure=>simp[intOf];omega
    ·have ek:k=m:=by omega
     subst ek
     obtain⟨hg,B,D,Kk,Ck,Xs,hB,hd,hI,_,_,_,_,hT1,hG1⟩:=Za HS
     rw[List.drop_of_length_le (by rw[Za HLl];exact Nat.le_refl _)] at hT1 hG1
     rw[swT,List.append_nil] at hT1
     have e1:(Yb h L (K,C)).2=(Kk,Ck):=hG1
     have FIN:Hid (SwR w wr x D0 (Yb h L (K,C)).2.1 (Yb h L (K,C)).2.2 h I (swT h L (K,C)) (.returned (.tuple #[.pointer (some ⟨p,0,none⟩),.int .i64 0]))):=by
      rw[e1,hT1]
      exact .inr ⟨Za HXE,p,D,rfl,Za HP1,hg,hd.less hB,hI⟩
     clear hg hB hd hI hT1 hG1 e1 HS
     go_wp2
     go_ret2
     exact Za FIN
end Go.Proofs.YtpikejjiignchaaGreatDoor
