import Derived.Test.YtmomfkikogbdeaaGreatDoorG35
import Derived.Test.YtmomfkikogbdeaaGreatDoorG36
set_option maxHeartbeats 12800000
set_option maxRecDepth 10000
namespace Go.Proofs.YtmomfkikogbdeaaGreatDoor
open Go.RowKit
theorem Wp{N:List Int}{T:List Zk}(hc:Tr.chkTr N T=0):N.length=T.length∧N.length≤24∧(∀ x∈N,(Lit.int .i64 x).wf=true)∧(∀ b∈T,(Lit.int .i64 b.1).wf=true)∧(∀ b∈T,Tr.BlkSmall b)∧∀ s,0≤Ya N T s∧Ya N T s≤1000:=by
 have ok:=Tr.TrOk.of hc
 have h24:N.length≤24:=by
  unfold Tr.chkTr at hc
  split at hc
  ·cases hc
  split at hc
  ·cases hc
  omega
 refine⟨ok.len,h24,fun x hx=>?_,fun b hb=>?_,fun b hb=>Tr.blk_small (ok.chk b hb),fun s=>?_⟩
 ·have:=ok.nm x hx;exact Pz (by omega) (by omega)
 ·have h1:=ok.chk b hb
  obtain⟨p,h,k,n,L⟩:=b
  have h2:=(Vr h1).1
  simp[Wu] at h2
  exact Pz (by simp only;omega) (by simp only;omega)
 ·unfold Ya Tr.blockE
  rw[if_neg (fun q=>q hc)]
  split
  ·rename_i q
   have:=Ht (ok.chk _ (Tr.fnd_at ok.len (by simpa using q)))
   simp only
   omega
  ·exact⟨Int.le_refl _,by decide⟩
theorem Yh{N:List Int}{T:List Zk}{z:Int}(h:Tr.bstD N T=(z,0)):Tr.chkTr N T=0∧(z=0∨z∈N):=by
 unfold Tr.bstD at h
 split at h
 ·rename_i q;injection h with _ h;exact absurd h q
 ·rename_i q
  injection h with h _
  have hc:=Decidable.not_not.1 q
  exact⟨hc,h ▸ (Tr.best_max (Tr.TrOk.of hc)).1⟩
theorem Zag(w:World):(Instr.makeMap 252 none).run Tryz.prog w = .ok (.map (some w.heap.size)) (w.alloc (.map #[] 0)):=by kernel_rfl
def Zev(Z:Nat→Prop)(w:World)(d bm m:Nat)(K:List ByteArray)(N:List Int)(T:List Zk)(P:List TxD)(tip:Int)(β : Int→List Zh):Prop:=
 ∃ ka kn kc na nn nc ba bn bc pa pn pc f,DeskAt Z w d bm m ka kn kc K na nn nc N ba bn bc T pa pn pc P tip f β
theorem Fa{V w6 w7:World}{d bm B A:Nat}{ka na ba pa:Option Addr}{kn kc nn nc bn bc pn pc:Nat}{K:List ByteArray}{N:List Int}{T:List Zk}{P:List TxD}{tip:Int}(hK:Fresh A V (fun w2=>Bk.TextsAt w2 ka kn K))(sk:SlOk ka kn kc)(hb:Below V.heap.size V w6)(hF:Fresh B w6 (fun w2=>Tr.IntsAt w2 na nn N∧Tr.BlksAt w2 ba bn T∧TxsAt w2 pa pn P))(sn:SlOk na nn nc)(sb:SlOk ba bn bc)(sp:SlOk pa pn pc)
  (h67:Below w6.heap.size w6 w7) (box:w7.heap[d]? = some (.cells [.slice ka kn kc,.slice na nn nc,.slice ba bn bc,.slice pa pn pc,.int .i64 tip,.map (some bm)].toArray 254 (0,0))) (hm:BMap bm 0 (fun _=>Dm) w7) (h1:V.heap.size≤bm) (h2:w6.heap.size≤d) (h3:bm<B∨w6.heap.size≤bm) (h4:d≠bm) (hA:A≤B) (hA2:A≤V.heap.size) :
  DeskAt (fun q=>q<A) w7 d bm 0 ka kn kc K na nn nc N ba bn bc T pa pn pc P tip (fun _=>Dm) noB:=by
 have hs:=hb.size
 have hs7:=h67.size
 refine⟨box,fun W g=>?_,fun W _ x=>⟨none,0,0,rfl,RowsAt.nil _ _,Zw⟩,sk,sn,sb,sp,hm,h4,fun q e=>by have e:q<A:=e;omega⟩
 have gV:Gr V W (fun q=>q<A):=((Gr.of (Zf hb h67)):Gr V w7 (fun q=>q<A)).far g (fun q e=>by
  rcases e with e|e|e
  ·exact .inl (by omega)
  ·exact .inl (by omega)
  ·exact .inr e)
 have g6:Gr w6 W (fun q=>q<B):=((Gr.of h67):Gr w6 w7 (fun q=>q<B)).far g (fun q e=>by
  rcases e with e|e|e
  ·omega
  ·omega
  ·exact .inr (Nat.lt_of_lt_of_le e hA))
 have F:=hF W g6
 exact⟨hK W gV,F.1,F.2.1,F.2.2⟩
def OpnR(w w':World)(x:Int)(K:List ByteArray)(N:List Int)(T:List Zk)(P:List TxD)(tip:Int)(β : Int→List Zh)(e:Ending):Prop:=
 Below w.heap.size w w'∧((x≠0∧e = .returned (.tuple #[.pointer none,.int .i64 x]))∨(x=0∧∃ d bm m,e = .returned (.tuple #[.pointer (some ⟨d,0,none⟩),.int .i64 0])∧Zev (fun q=>q<w.heap.size) w' d bm m K N T P tip β∧w.heap.size≤d∧w.heap.size≤bm∧m≤24))
theorem Gz(ka:Option Addr)(kn kc:Nat)(K:List ByteArray)(na ba pa:Option Addr)(nn nc bn bc pn pc:Nat)(N:List Int)(T:List Zk)(P:List TxD)(tip x:Int)(w:World)(hE:Env w)(hK:Bk.TextsAt w ka kn K)(hN:Tr.IntsAt w na nn N)(hT:Tr.BlksAt w ba bn T)(hP:TxsAt w pa pn P)(sN:SlOk na nn nc)(sT:SlOk ba bn bc)(sP:SlOk pa pn pc)(hp:pn≤2513169434916)(hq:∀ t∈P,Tr.TxSmall t)(hx:opE K N T P tip=x) :
  Calls Tryz.prog 107 #[.agg #[.slice ka kn kc],.agg #[.slice na nn nc,.slice ba bn bc,.slice pa pn pc,.int .i64 tip]] w fun e w'=>OpnR w w' x K N T P tip (Zq K N T noB).2 e:=by
 obtain⟨X,hX⟩:∃ X,X=Z9 w [.cells #[.slice ka kn kc] 24,.cells #[.slice na nn nc,.slice ba bn bc,.slice pa pn pc,.int .i64 tip] 67]:=⟨_,rfl⟩
 have hX':X=(w.alloc (.cells #[.slice ka kn kc] 24)).alloc (.cells #[.slice na nn nc,.slice ba bn bc,.slice pa pn pc,.int .i64 tip] 67):=hX
 have hbX:Below w.heap.size w X:=by rw[hX];exact Zp _ _
 have hXs:X.heap.size=w.heap.size+2:=by rw[hX];exact Yq _ _
 have x0:X.heap[w.heap.size]? = some (.cells [.slice ka kn kc].toArray 24 (0,0)):=by rw[hX];exact Zm _ w 0 _ rfl
 have x1:X.heap[w.heap.size+1]? = some (.cells [.slice na nn nc,.slice ba bn bc,.slice pa pn pc,.int .i64 tip].toArray 67 (0,0)):=by rw[hX];exact Zm _ w 1 _ rfl
 obtain⟨⟨M,Z,z⟩,hz⟩:∃ r,Bk.allR K []=r:=⟨_,rfl⟩
 have hzc:z=Bk.bkChk K∧(z=0→M=K):=by
  unfold Bk.allR at hz
  split at hz
  ·rename_i q;rw[Bk.nmGo] at hz;simp only[Prod.mk.injEq] at hz;exact⟨by rw[←hz.2.2,q],fun _=>hz.1.symm⟩
  ·rename_i q;simp only[Prod.mk.injEq] at hz;exact⟨hz.2.2.symm,fun e=>absurd (hz.2.2.trans e) q⟩
 have C1:=Zb (Bk.all_isF ka none kn kc 0 0 K [] M Z z X (hK.later hbX) ⟨rfl,fun h=>absurd h (by omega)⟩ (by omega) hz)
 obtain⟨⟨b,y⟩,hy⟩:∃ r,Tr.bstD N T=r:=⟨_,rfl⟩
 have C2:=Zb (fun V (hv:Below w.heap.size w V)=>Tr.best_is na ba nn nc bn bc N T b y V (hN.later hv) (hT.later hv) sN sT hy)
 obtain⟨⟨u,γ⟩,hu⟩:∃ r,Zq K N T noB=r:=⟨_,rfl⟩
 unfold opE at hx
 rw[←hzc.1,hy,hu] at hx
 simp only at hx
 rw[hu]
 simp only
 have HX:=Zb hx
 have HZC:=Zb hzc
 have HBX:=Zb hbX
 have HXs:=Zb hXs
 have HX0:=Zb x0
 have HX1:=Zb x1
 have HY:=Zb hy
 have HU:=Zb hu
 have HE:=Zb hE
 have HN:=Zb hN
 have HT:=Zb hT
 have HP:=Zb hP
 have HSN:=Zb sN
 have HST:=Zb sT
 have HSP:=Zb sP
 have HPP:=Zb hp
 have HQ:=Zb hq
 have t0:=Zd x0 0 _ rfl
 have tl:=lt_of_block x0
 clear hE hK hN hT hP sN sT sP hp hq hx hbX hXs x0 x1 hX hz hzc hy hu
 go_enter Tryz.func107,Tryz.ntmps107
 go_wp2_with fail
 rw[←hX']
 clear hX'
 (try go_wp2_with fail)
 refine (Za C1).mono ?_
 rintro e w1 ⟨⟨a',n',c',a2,n2,c2,rfl,hF1,sk1,_,_,_⟩,hb1⟩
 have h10:=(hb1.block _ (lt_of_block (Za HX0))).trans (Za HX0)
 have h11:=(hb1.block _ (lt_of_block (Za HX1))).trans (Za HX1)
 have y0:=Zd h10 0 _ rfl
 have yf:=Zg h10 0
 have yl:=lt_of_block h10
 obtain⟨V,hV⟩:∃ V,V=w1.setCell ⟨w.heap.size,0,none⟩ (.slice a' n' c'):=⟨_,rfl⟩
 have g1:Gr w1 V (fun q=>q=w.heap.size):=by rw[hV];exact (Gr.refl w1 (fun q=>q=w.heap.size)).one w.heap.size 0 (.inl rfl) _
 have v0:V.heap[w.heap.size]? = some (.cells #[.slice a' n' c'] 24 (0,0)):=by rw[hV];exact Wz h10
 have v1:=g1.heap h11 (by omega)
 have hbV:Below w.heap.size w V:=g1.below (Zf (Za HBX) hb1) (Zf (Za HBX) hb1).size (fun q e=>by have e:q=w.heap.size:=e;omega)
 have HKV:Hid (Fresh w.heap.size V (fun w2=>Bk.TextsAt w2 a' n' M)):=fun W g=>hF1 W ((g1.mono (fun q _ e=>by have e:q=w.heap.size:=e;have:=Za HXs;omega)).trans (g.mono (fun q _ e=>by have e:q<w.heap.size:=e;have:=Za HXs;omega)))
 have HBV:=Zb hbV
 have HV0:=Zb v0
 have HV1:=Zb v1
 have HSK:=Zb sk1
 have q0:=Zd v1 0 _ rfl
 have q1:=Zd v1 1 _ rfl
 have q3:=Zd v1 3 _ rfl
 have ql:=lt_of_block v1
 have p0:=Zd h11 0 _ rfl
 have p1:=Zd h11 1 _ rfl
 have pl:=lt_of_block h11
 have D2:=Zb ((Za C2) V hbV)
 clear hb1 h10 h11 g1 v0 v1 hbV hF1 sk1 C1 C2 t0 tl
 by_cases z0:z=0
 ·subst z0
  obtain rfl:=(Za HZC).2 rfl
  go_wp2_with fail
  rw[←hV]
  clear hV y0 yf yl p0 p1 pl
  (try go_wp2_with fail)
  refine (Za D2).mono ?_
  rintro e w2 ⟨rfl,hb2⟩
  have HB2:=Zb (Zf (Za HBV) hb2)
  have HV2:=Zb hb2
  have h20:=(hb2.block _ (lt_of_block (Za HV0))).trans (Za HV0)
  have h21:=(hb2.block _ (lt_of_block (Za HV1))).trans (Za HV1)
  have H20:=Zb h20
  have H21:=Zb h21
  have r0:=Zd h20 0 _ rfl
  have s0:=Zd h21 0 _ rfl
  have s1:=Zd h21 1 _ rfl
  have s2:=Zd h21 2 _ rfl
  have s3:=Zd h21 3 _ rfl
  have rl:=lt_of_block h20
  have sl:=lt_of_block h21
  clear hb2 h20 h21 D2 q0 q1 q3 ql
  by_cases y00:y=0
  ·subst y00
   by_cases t00:b=tip
   ·subst t00
    have hx1:=Za HX
    rw[if_neg (fun q=>q rfl),if_neg (fun q=>q rfl),if_neg (fun q=>q rfl)] at hx1
    have HX1E:=Zb hx1
    clear hx1 HX
    obtain⟨hc,htip⟩:=Yh (Za HY)
    obtain⟨f1,f2,f3,f4,f5,f6⟩:=Wp hc
    have hbn:bn=nn:=by have q1:=(Za HN).1;have q2:=(Za HT).1;omega
    subst hbn
    have hnn:bn≤24:=by have q1:=(Za HN).1;omega
    have CN:=Zb (fun U (hv:Below w.heap.size w U)=>Zba na ba pa bn nc bc pn pc N T P b U ((Za HN).later hv) ((Za HT).later hv) ((Za HP).later hv) (Za HSN) (Za HST) (Za HSP) (by omega) f5 (Za HPP) (Za HQ))
    have HWT:Hid ((Lit.int .i64 b).wf=true):=by rcases htip with q|q;exact Pz (by omega) (by omega);exact f3 b q
    have HF1:=Zb f1
    have HF2:=Zb f2
    have HF3:=Zb f3
    have HF4:=Zb f4
    have HF6:=Zb (f6 b)
    have hmk:=Zag
    clear hc htip f1 f2 f3 f4 f5 f6
    have KS:Hid (∀ U:World,Below w2.heap.size w2 U→((U.cell? ⟨w.heap.size,0,none⟩=some (.slice a' n' c')∧w.heap.size<U.heap.size)∧U.cell? ⟨w.heap.size+1,0,none⟩=some (.slice na bn nc)∧U.cell? ⟨w.heap.size+1,1,none⟩=some (.slice ba bn bc)∧U.cell? ⟨w.heap.size+1,2,none⟩=some (.slice pa pn pc)∧U.cell? ⟨w.heap.size+1,3,none⟩=some (.int .i64 b)∧w.heap.size+1<U.heap.size)):=fun U hu=>⟨⟨Ze hu r0,Nat.lt_of_lt_of_le rl hu.size⟩,Ze hu s0,Ze hu s1,Ze hu s2,Ze hu s3,Nat.lt_of_lt_of_le sl hu.size⟩
    go_upto_region 9 with fail
    clear r0 s0 s1 s2 s3 rl sl
    go_cut [9] from 34 to 39 (fun s9 wx=>∃ d bm:Nat,s9 = .pointer (some ⟨d,0,none⟩)∧Hid (∃ na' nc' ba' bc' pa' pc',DeskAt (fun q=>q<w.heap.size) wx d bm 0 a' n' c' M na' bn nc' N ba' bn bc' T pa' pn pc' P b (fun _=>Dm) noB)∧Hid (Below w.heap.size w wx∧w.heap.size≤d∧w.heap.size≤bm))
    case first=>
     refine wp_region_held_drew (S:=fun U=>(U.cell? ⟨w.heap.size,0,none⟩=some (.slice a' n' c')∧w.heap.size<U.heap.size)∧U.cell? ⟨w.heap.size+1,0,none⟩=some (.slice na bn nc)∧U.cell? ⟨w.heap.size+1,1,none⟩=some (.slice ba bn bc)∧U.cell? ⟨w.heap.size+1,2,none⟩=some (.slice pa pn pc)∧U.cell? ⟨w.heap.size+1,3,none⟩=some (.int .i64 b)∧w.heap.size+1<U.heap.size) (by kernel_rfl) ((Za KS) _ (Zj _)) (fun Zjc=>?_)
     refine tk 0 ⟨some 34,.load 24 (.tmp 2),24, "desk.go:32",#[],none⟩ ?_ rfl ?_ Zjc ?_
     rotate_left
     ·(intro U hSw;obtain⟨⟨u1,u2⟩,u3,u4,u5,u6,u7⟩:=hSw;go_simp;first|done|with_reducible rfl)
     (try simp only[Act.put,ZA,ZB,ZC])
     refine tk 1 ⟨some 35,.load 67 (.tmp 3),67, "desk.go:32",#[],none⟩ ?_ rfl ?_ Zjc ?_
     rotate_left
     ·(intro U hSw;obtain⟨⟨u1,u2⟩,u3,u4,u5,u6,u7⟩:=hSw;go_simp;first|done|with_reducible rfl)
     (try simp only[Act.put,ZA,ZB,ZC])
     refine wpAnyH_ready (rs:=[2,3]) (by kernel_rfl) (by simp) ?_
     refine AllReadyH.cons (o:=⟨some 36,.call { callee:=Callee.value (.func 171),args:=#[.tmp 35],argTypes:=#[67] },67, "desk.go:32",#[⟨1,.data⟩],none⟩) rfl (fun KQ hK=>?_) (AllReadyH.cons (o:=⟨some 37,.makeMap 252 none,252, "desk.go:32",#[],none⟩) rfl (fun KQ hK=>?_) AllReadyH.nil)
     ·have hb:=Zj w2
      refine Zl (by kernel_rfl) 171 #[.agg #[.slice na bn nc,.slice ba bn bc,.slice pa pn pc,.int .i64 b]] (by kernel_rfl) ((Za CN) w2.drew (Zf (Za HB2) hb)) ?_
      rintro e w5 ⟨na',nc',ba',bc',pa',pc',rfl,hF5,sn5,sb5,sp5,hb5⟩
      refine⟨_,rfl,?_⟩
      have hbc:=Zf hb hb5
      refine hK.out _ _ ((Za KS) _ hbc) (fun Zjd=>?_)
      clear hK KQ Zjc
      have Zjc:=Zjd
      clear Zjd
      (try simp only[Act.put,ZA,ZB,ZC])
      refine wpAnyH_ready (rs:=[3]) (by kernel_rfl) (by simp) ?_
      refine AllReadyH.cons (o:=⟨some 37,.makeMap 252 none,252, "desk.go:32",#[],none⟩) rfl (fun KQ hK=>?_) AllReadyH.nil
      go_simp
      obtain⟨w6,hw6⟩:∃ w6,w6=w5.alloc (.map #[] 0):=⟨_,rfl⟩
      rw[←hw6]
      have hb6:Below w5.heap.size w5 w6:=by rw[hw6];exact Zi _ _
      have hm6:BMap w5.heap.size 0 (fun _=>Dm) w6:=by rw[hw6];exact BMap.made w5
      have hs6:w6.heap.size=w5.heap.size+1:=by rw[hw6];simp
      clear hw6
      refine hK.out _ _ ((Za KS) _ (Zf hbc hb6)) (fun Zjd=>?_)
      clear hK KQ Zjc
      have Zjc:=Zjd
      clear Zjd
      (try simp only[Act.put,ZA,ZB,ZC])
      refine tk 4 ⟨some 38,.build 254 #[(0,.tmp 34),(1,.tmp 36),(2,.tmp 37)],254, "desk.go:32",#[⟨0,.data⟩,⟨2,.data⟩,⟨3,.data⟩],none⟩ ?_ rfl ?_ Zjc ?_
      rotate_left
      ·(intro U hSw;(try dsimp only at hSw);go_simp;first|done|with_reducible rfl)
      (try simp only[Act.put,ZA,ZB,ZC])
      refine wpAnyH_ready (rs:=[5]) (by kernel_rfl) (by simp) ?_
      refine AllReadyH.cons (o:=⟨some 39,.box 254 (.tmp 38),181, "desk.go:32",#[⟨4,.data⟩],none⟩) rfl (fun KQ hK=>?_) AllReadyH.nil
      go_simp
      obtain⟨w7,hw7⟩:∃ w7,w7=w6.alloc (.cells #[.slice a' n' c',.slice na' bn nc',.slice ba' bn bc',.slice pa' pn pc',.int .i64 b,.map (some w5.heap.size)] 254):=⟨_,rfl⟩
      rw[←hw7]
      have hb7:Below w6.heap.size w6 w7:=by rw[hw7];exact Zi _ _
      have bx7:w7.heap[w6.heap.size]? = some (.cells [.slice a' n' c',.slice na' bn nc',.slice ba' bn bc',.slice pa' pn pc',.int .i64 b,.map (some w5.heap.size)].toArray 254 (0,0)):=by rw[hw7];exact heap_alloc_new _ _
      clear hw7
      refine hK.out _ _ ((Za KS) _ (Zf (Zf hbc hb6) hb7)) (fun Zjd=>?_)
      clear hK KQ Zjc
      have Zjc:=Zjd
      clear Zjd
      (try simp only[Act.put,ZA,ZB,ZC])
      refine tk 6 ⟨some 9,.assign (.tmp 39),181, "desk.go:32",#[⟨5,.data⟩,⟨2,.chain⟩,⟨0,.phase⟩,⟨1,.phase⟩,⟨2,.phase⟩,⟨3,.phase⟩,⟨4,.phase⟩,⟨5,.phase⟩],none⟩ ?_ rfl ?_ Zjc ?_
      rotate_left
      ·(intro U hSw;(try dsimp only at hSw);go_simp;first|done|with_reducible rfl)
      (try simp only[Act.put,ZA,ZB,ZC])
      refine wpAnyH_done (by kernel_rfl) ?_ _
      clear Zjc
      go_wp2_with fail
      go_meet
      case rel=>
       have s2:=(Za HB2).size
       have s5:=hbc.size
       have sV:=(Za HV2).size
       exact⟨w6.heap.size,w5.heap.size,(by first|rfl|rw[hs6]),⟨na',nc',ba',bc',pa',pc',Fa (V:=V) (B:=w2.drew.heap.size) (Za HKV) (Za HSK) (Zf (Za HV2) hbc) hF5 sn5 sb5 sp5 (Zf hb6 hb7) bx7 (hm6.keep hb7) (by omega) (by omega) (.inr (Nat.le_refl _)) (by omega) (by have:=(Za HB2).size;show w.heap.size≤w2.heap.size;omega) (Za HBV).size⟩,Zf (Zf (Za HB2) hbc) (Zf hb6 hb7),by omega,by omega⟩
     ·go_simp
      obtain⟨v6,hv6⟩:∃ v6,v6=(w2.alloc (.map #[] 0)).drew:=⟨_,rfl⟩
      rw[←hv6]
      have hb:Below w2.heap.size w2 v6:=by rw[hv6];exact Zf (Zi _ _) (Zj _)
      have hm6:BMap w2.heap.size 0 (fun _=>Dm) v6:=by rw[hv6];exact (BMap.made w2).heap rfl
      have hs6:v6.heap.size=w2.heap.size+1:=by rw[hv6];simp
      clear hv6
      refine hK.out _ _ ((Za KS) _ hb) (fun Zjd=>?_)
      clear hK KQ Zjc
      have Zjc:=Zjd
      clear Zjd
      (try simp only[Act.put,ZA,ZB,ZC])
      refine wpAnyH_ready (rs:=[2]) (by kernel_rfl) (by simp) ?_
      refine AllReadyH.cons (o:=⟨some 36,.call { callee:=Callee.value (.func 171),args:=#[.tmp 35],argTypes:=#[67] },67, "desk.go:32",#[⟨1,.data⟩],none⟩) rfl (fun KQ hK=>?_) AllReadyH.nil
      refine Zl (by kernel_rfl) 171 #[.agg #[.slice na bn nc,.slice ba bn bc,.slice pa pn pc,.int .i64 b]] (by kernel_rfl) ((Za CN) v6 (Zf (Za HB2) hb)) ?_
      rintro e w5 ⟨na',nc',ba',bc',pa',pc',rfl,hF5,sn5,sb5,sp5,hb5⟩
      refine⟨_,rfl,?_⟩
      have hbc:=Zf hb hb5
      refine hK.out _ _ ((Za KS) _ hbc) (fun Zjd=>?_)
      clear hK KQ Zjc
      have Zjc:=Zjd
      clear Zjd
      (try simp only[Act.put,ZA,ZB,ZC])
      refine tk 4 ⟨some 38,.build 254 #[(0,.tmp 34),(1,.tmp 36),(2,.tmp 37)],254, "desk.go:32",#[⟨0,.data⟩,⟨2,.data⟩,⟨3,.data⟩],none⟩ ?_ rfl ?_ Zjc ?_
      rotate_left
      ·(intro U hSw;(try dsimp only at hSw);go_simp;first|done|with_reducible rfl)
      (try simp only[Act.put,ZA,ZB,ZC])
      refine wpAnyH_ready (rs:=[5]) (by kernel_rfl) (by simp) ?_
      refine AllReadyH.cons (o:=⟨some 39,.box 254 (.tmp 38),181, "desk.go:32",#[⟨4,.data⟩],none⟩) rfl (fun KQ hK=>?_) AllReadyH.nil
      go_simp
      obtain⟨w7,hw7⟩:∃ w7,w7=w5.alloc (.cells #[.slice a' n' c',.slice na' bn nc',.slice ba' bn bc',.slice pa' pn pc',.int .i64 b,.map (some w2.heap.size)] 254):=⟨_,rfl⟩
      rw[←hw7]
      have hb7:Below w5.heap.size w5 w7:=by rw[hw7];exact Zi _ _
      have bx7:w7.heap[w5.heap.size]? = some (.cells [.slice a' n' c',.slice na' bn nc',.slice ba' bn bc',.slice pa' pn pc',.int .i64 b,.map (some w2.heap.size)].toArray 254 (0,0)):=by rw[hw7];exact heap_alloc_new _ _
      clear hw7
      refine hK.out _ _ ((Za KS) _ (Zf hbc hb7)) (fun Zjd=>?_)
      clear hK KQ Zjc
      have Zjc:=Zjd
      clear Zjd
      (try simp only[Act.put,ZA,ZB,ZC])
      refine tk 6 ⟨some 9,.assign (.tmp 39),181, "desk.go:32",#[⟨5,.data⟩,⟨2,.chain⟩,⟨0,.phase⟩,⟨1,.phase⟩,⟨2,.phase⟩,⟨3,.phase⟩,⟨4,.phase⟩,⟨5,.phase⟩],none⟩ ?_ rfl ?_ Zjc ?_
      rotate_left
      ·(intro U hSw;(try dsimp only at hSw);go_simp;first|done|with_reducible rfl)
      (try simp only[Act.put,ZA,ZB,ZC])
      refine wpAnyH_done (by kernel_rfl) ?_ _
      clear Zjc
      go_wp2_with fail
      go_meet
      case rel=>
       have s2:=(Za HB2).size
       have s5:=hb5.size
       have sV:=(Za HV2).size
       exact⟨w5.heap.size,w2.heap.size,rfl,⟨na',nc',ba',bc',pa',pc',Fa (V:=V) (B:=v6.heap.size) (Za HKV) (Za HSK) (Zf (Za HV2) hbc) hF5 sn5 sb5 sp5 hb7 bx7 ((hm6.keep hb5).keep hb7) (by omega) (Nat.le_refl _) (.inl (by omega)) (by omega) (by have:=(Za HB2).size;omega) (Za HBV).size⟩,Zf (Zf (Za HB2) hbc) hb7,by omega,by omega⟩
    case rest=>
     obtain⟨d,bm,rfl,hD,hL⟩:=hcut
     obtain⟨na',nc',ba',bc',pa',pc',hD⟩:=Za hD
     obtain⟨hbw,hd,hbm⟩:=Za hL
     have E1:=Zb (Bh hD w hbw hbm (Za HE) (Za HF1) (Za HF2) (Za HF3) (Za HF4) u γ (Za HU))
     have HBW:=Zb hbw
     have HD1:=Zb hd
     have HBM:=Zb hbm
     clear hD hL hbw hd hbm KS CN hmk
     go_wp2_with fail
     refine (Za E1).mono ?_
     rintro e w8 ⟨rfl,hg8,hD8⟩
     have hb8:Below w.heap.size w w8:=hg8.below (Za HBW) (Za HBW).size (fun q e=>by have e:q=bm:=e;have:=Za HBM;omega)
     have HB8:=Zb hb8
     clear hg8 E1
     by_cases u0:u=0
     ·subst u0
      obtain⟨f',hD9⟩:=hD8 rfl
      have hx2:=Za HX1E
      rw[if_neg (fun q=>q rfl)] at hx2
      have E2:=Zb (Zeb hD9 ((Za HE).later hb8) (Za HWT) (Za HF6).1 (Za HF6).2 x hx2)
      have HD9:=Zb hD9
      clear hD8 hD9 hb8 HX1E hx2
      go_wp2_with fail
      refine (Za E2).mono ?_
      rintro e w9 ⟨rfl,hb9⟩
      have HB9:=Zb (Zf (Za HB8) hb9)
      have HD10:=Zb ((Za HD9).later hb9)
      clear hb9 E2
      by_cases x0:x=0
      ·subst x0
       go_wp2
       go_ret2
       exact⟨Za HB9,.inr ⟨rfl,d,bm,_,rfl,⟨_,_,_,_,_,_,_,_,_,_,_,_,_,Za HD10⟩,Za HD1,Za HBM,Za HF2⟩⟩
      ·have gx:(x != 0)=true:=by simp[x0]
       go_wp2
       go_ret2
       exact⟨Za HB9,.inl ⟨x0,rfl⟩⟩
     ·have gu:(u != 0)=true:=by simp[u0]
      have HXE:Hid (x=u):=by have q:=Za HX1E;rw[if_pos u0] at q;exact q.symm
      clear HX1E hD8 hb8
      go_wp2
      go_ret2
      rw[Za HXE]
      exact⟨Za HB8,.inl ⟨u0,rfl⟩⟩
   ·have gt:(b != tip)=true:=by simp[t00]
    have HXE:Hid (x=4):=by have q:=Za HX;rw[if_neg (fun q=>q rfl),if_neg (fun q=>q rfl),if_pos t00] at q;exact q.symm
    clear HX
    go_wp2
    go_ret2
    rw[Za HXE]
    exact⟨Za HB2,.inl ⟨by decide,rfl⟩⟩
  ·have gy:(y != 0)=true:=by simp[y00]
   have HXE:Hid (x=y):=by have q:=Za HX;rw[if_neg (fun q=>q rfl),if_pos y00] at q;exact q.symm
   clear HX
   go_wp2
   go_ret2
   rw[Za HXE]
   exact⟨Za HB2,.inl ⟨y00,rfl⟩⟩
 ·have gz:(z != 0)=true:=by simp[z0]
  have HXE:Hid (x=z):=by have q:=Za HX;rw[if_pos z0] at q;exact q.symm
  have HVV:=Zb hV
  clear HX hV D2
  go_wp2
  rw[←Za HVV]
  go_ret2
  rw[Za HXE]
  exact⟨Za HBV,.inl ⟨z0,rfl⟩⟩
section
variable {Z : Nat → Prop} {w w' : World} {d bm m : Nat} {ka na ba pa ka' na' ba' pa' : Option Addr} {kn kc nn nc bn bc pn pc kn' kc' nn' nc' bn' bc' pn' pc' : Nat} {K K' : List ByteArray} {N N' : List Int} {T T' : List Zk} {P P' : List TxD} {tip tip' : Int} {f : Int → Value} {β : Int → List Zh}
theorem DeskAt.set(h:DeskAt Z w d bm m ka kn kc K na nn nc N ba bn bc T pa pn pc P tip f β)(g:Gr w w' (fun q=>q=d))
  (box:w'.heap[d]? = some (.cells [.slice ka' kn' kc',.slice na' nn' nc',.slice ba' bn' bc',.slice pa' pn' pc',.int .i64 tip',.map (some bm)].toArray 254 (0,0)))
  (D:∀ W,Gr w' W (fun q=>q=d∨q=bm∨Z q)→Ty W ka kn K na nn N ba bn T pa pn P→Bk.TextsAt W ka' kn' K'∧Tr.IntsAt W na' nn' N'∧Tr.BlksAt W ba' bn' T'∧TxsAt W pa' pn' P')
  (s1:SlOk ka' kn' kc') (s2:SlOk na' nn' nc') (s3:SlOk ba' bn' bc') (s4:SlOk pa' pn' pc'):DeskAt Z w' d bm m ka' kn' kc' K' na' nn' nc' N' ba' bn' bc' T' pa' pn' pc' P' tip' f β:=by
 refine⟨box,fun W gW=>?_,fun W gW=>h.coi W ((g.mono (fun q _ e=>.inl e)).trans gW),s1,s2,s3,s4,h.mp.gr g (fun e=>h.ne (by have e:bm=d:=e;exact e.symm)),h.ne,fun q e=>Nat.lt_of_lt_of_le (h.zb q e) g.size⟩
 have D0:=h.dat W ((g.mono (fun q _ e=>.inl e)).trans gW)
 obtain⟨h1,h2,h3,h4⟩:=D W gW D0
 exact⟨h1,h2,h3,h4⟩
theorem DeskAt.swept(h:DeskAt Z w d bm m ka kn kc K na nn nc N ba bn bc T pa pn pc P tip f β){V w1:World}(hv:Below w.heap.size w V)(h1:Below V.heap.size V w1)(hF:Fresh V.heap.size w1 (fun w2=>Bk.TextsAt w2 ka' kn' K'∧TxsAt w2 pa' pn' P'))(s1:SlOk ka' kn' kc')(s4:SlOk pa' pn' pc')
  (g:Gr w1 w' (fun q=>q=d)) (box:w'.heap[d]? = some (.cells [.slice ka' kn' kc',.slice na nn nc,.slice ba bn bc,.slice pa' pn' pc',.int .i64 tip,.map (some bm)].toArray 254 (0,0))) :
  DeskAt Z w' d bm m ka' kn' kc' K' na nn nc N ba bn bc T pa' pn' pc' P' tip f β∧Gr w w' (fun q=>q=d):=by
 have gw:Gr w w' (fun q=>q=d):=(Gr.of (Zf hv h1)).trans g
 have l1:=lt_of_block h.box
 have l2:=h.mp.lt
 have l3:=hv.size
 refine⟨h.set gw box (fun W gW D0=>?_) s1 h.sn h.sb s4,gw⟩
 have F:=hF W ((g.mono (fun q _ e=>by have e:q=d:=e;omega)).trans (gW.mono (fun q _ e=>e.elim (fun e=>by omega) (fun e=>e.elim (fun e=>by omega) (fun e=>Nat.lt_of_lt_of_le (h.zb q e) l3)))))
 exact⟨F.1,D0.n,D0.b,F.2⟩
end
def Pj(K:List ByteArray)(C:List Zh)(P:List TxD)(h:Int):List ByteArray×List TxD×Int:=
 if 1000<h then (K,P,0) else ((swF K C P h (swE K C P h)).1,(swF K C P h (swE K C P h)).2.1,swE K C P h)
def Zhb(Z:Nat→Prop)(w w':World)(d bm m:Nat)(K:List ByteArray)(na:Option Addr)(nn nc:Nat)(N:List Int)(ba:Option Addr)(bn bc:Nat)(T:List Zk)(P:List TxD)(tip:Int)(f:Int→Value)(β : Int→List Zh):Prop:=
 ∃ ka kn kc pa pn pc,DeskAt Z w' d bm m ka kn kc K na nn nc N ba bn bc T pa pn pc P tip f β∧Gr w w' (fun q=>q=d)
section
variable {Z : Nat → Prop} {w : World} {d bm m : Nat} {ka na ba pa : Option Addr} {kn kc nn nc bn bc pn pc : Nat} {K : List ByteArray} {N : List Int} {T : List Zk} {P : List TxD} {tip : Int} {f : Int → Value} {β : Int → List Zh}
theorem Zaw(h:DeskAt Z w d bm m ka kn kc K na nn nc N ba bn bc T pa pn pc P tip f β)(hE:Env w)(ht:(Lit.int .i64 tip).wf=true)(z:Int)(K1:List ByteArray)(P1:List TxD)(x:Int)(hx:Pj K (β tip) P z=(K1,P1,x)) :
  Calls Tryz.prog 164 #[.pointer (some ⟨d,0,none⟩),.int .i64 z] w fun e w'=>e = .returned (.int .i64 x)∧Zhb Z w w' d bm m K1 na nn nc N ba bn bc T P1 tip f β:=by
 unfold Pj at hx
 by_cases hz:1000<z
 ·rw[if_pos hz] at hx
  simp only[Prod.mk.injEq] at hx
  obtain⟨rfl,rfl,rfl⟩:=hx
  have H:=Zb h
  clear h hE ht
  go_enter Tryz.func164,Tryz.ntmps164
  go_wp2
  go_ret
  exact⟨rfl,ka,kn,kc,pa,pn,pc,Za H,Gr.refl _ _⟩
 ·rw[if_neg hz] at hx
  obtain⟨y,hy⟩:∃ y,swE K (β tip) P z=y:=⟨_,rfl⟩
  rw[hy] at hx
  obtain⟨⟨K2,P2,C2,F2⟩,hr⟩:∃ r,swF K (β tip) P z y=r:=⟨_,rfl⟩
  rw[hr] at hx
  simp only[Prod.mk.injEq] at hx
  obtain⟨rfl,rfl,rfl⟩:=hx
  obtain⟨ca,cn,cc,hfp,_,sC⟩:=h.c tip
  have CC:=Zb (fun V (hv:Below w.heap.size w V)=>Qb (h.later hv) ht)
  rw[hfp] at CC
  have CS:=Zb (fun V (hv:Below w.heap.size w V)=>Li ka kn kc K ca cn cc (β tip) pa pn pc P z y K2 P2 C2 F2 V (hE.later hv) (h.later hv).now.k (by obtain⟨a2,n2,c2,q1,q2,_⟩:=(h.later hv).c tip;rw[hfp] at q1;injection q1 with e1 e2 e3;subst e1 e2 e3;exact q2) sC (h.later hv).now.p hy hr)
  have c0:=Zd h.box 0 _ rfl
  have c3:=Zd h.box 3 _ rfl
  have dl:=lt_of_block h.box
  have KS:Hid (∀ U:World,w.heap.size≤U.heap.size→d<U.heap.size):=fun U hu=>Nat.lt_of_lt_of_le dl hu
  have KC:Hid (∀ U:World,Below w.heap.size w U→(U.cell? ⟨d,0,none⟩=some (.slice ka kn kc)∧U.cell? ⟨d,3,none⟩=some (.slice pa pn pc)∧d<U.heap.size)):=fun U hu=>⟨Ze hu c0,Ze hu c3,Nat.lt_of_lt_of_le dl hu.size⟩
  have H:=Zb h
  clear h hE ht hfp sC c0 c3 dl hy hr
  go_enter Tryz.func164,Tryz.ntmps164
  go_upto_region 3 with fail
  go_cut [4] from 7 to 32 (fun s4 wx=>s4 = .int .i64 y∧Hid (Zhb Z w wx d bm m K2 na nn nc N ba bn bc T P2 tip f β))
  case first=>
   refine wp_region_held_drew (S:=fun U=>d<U.heap.size) (by kernel_rfl) ((Za KS) _ (Nat.le_refl _)) (fun Zjc=>?_)
   refine tk 0 ⟨some 8,.move (.tmp 0),181, "desk.go:84",#[],none⟩ ?_ rfl ?_ Zjc ?_
   rotate_left
   ·(intro U hSw;(try dsimp only at hSw);go_simp;first|done|with_reducible rfl)
   (try simp only[Act.put,ZA,ZB,ZC])
   refine tk 1 ⟨some 9,.move (.tmp 0),181, "desk.go:84",#[⟨23,.gcOnly .lateStores⟩],none⟩ ?_ rfl ?_ Zjc ?_
   rotate_left
   ·(intro U hSw;(try dsimp only at hSw);go_simp;first|done|with_reducible rfl)
   (try simp only[Act.put,ZA,ZB,ZC])
   refine tk 2 ⟨some 10,.move (.tmp 0),181, "desk.go:84",#[],none⟩ ?_ rfl ?_ Zjc ?_
   rotate_left
   ·(intro U hSw;(try dsimp only at hSw);go_simp;first|done|with_reducible rfl)
   (try simp only[Act.put,ZA,ZB,ZC])
   refine tk 3 ⟨some 11,.nilCheck (.tmp 10),0, "desk.go:84",#[⟨2,.data⟩],none⟩ ?_ rfl ?_ Zjc ?_
   rotate_left
   ·(intro U hSw;(try dsimp only at hSw);go_simp;first|done|with_reducible rfl)
   (try simp only[Act.put,ZA,ZB,ZC])
   refine tk 4 ⟨some 12,.fieldAddr 254 (.tmp 11) 0,0, "desk.go:84",#[⟨3,.data⟩],none⟩ ?_ rfl ?_ Zjc ?_
   rotate_left
   ·(intro U hSw;(try dsimp only at hSw);go_simp;first|done|with_reducible rfl)
   (try simp only[Act.put,ZA,ZB,ZC])
   refine tk 6 ⟨some 14,.move (.tmp 0),181, "desk.go:84",#[],none⟩ ?_ rfl ?_ Zjc ?_
   rotate_left
   ·(intro U hSw;(try dsimp only at hSw);go_simp;first|done|with_reducible rfl)
   (try simp only[Act.put,ZA,ZB,ZC])
   refine tk 8 ⟨some 16,.move (.tmp 0),181, "desk.go:84",#[],none⟩ ?_ rfl ?_ Zjc ?_
   rotate_left
   ·(intro U hSw;(try dsimp only at hSw);go_simp;first|done|with_reducible rfl)
   (try simp only[Act.put,ZA,ZB,ZC])
   refine tk 9 ⟨some 17,.nilCheck (.tmp 16),0, "desk.go:84",#[⟨8,.data⟩],none⟩ ?_ rfl ?_ Zjc ?_
   rotate_left
   ·(intro U hSw;(try dsimp only at hSw);go_simp;first|done|with_reducible rfl)
   (try simp only[Act.put,ZA,ZB,ZC])
   refine tk 10 ⟨some 18,.fieldAddr 254 (.tmp 17) 1,0, "desk.go:84",#[⟨9,.data⟩],none⟩ ?_ rfl ?_ Zjc ?_
   rotate_left
   ·(intro U hSw;(try dsimp only at hSw);go_simp;first|done|with_reducible rfl)
   (try simp only[Act.put,ZA,ZB,ZC])
   refine tk 11 ⟨some 19,.fieldAddr 67 (.tmp 18) 1,0, "desk.go:84",#[⟨10,.data⟩],none⟩ ?_ rfl ?_ Zjc ?_
   rotate_left
   ·(intro U hSw;(try dsimp only at hSw);go_simp;first|done|with_reducible rfl)
   (try simp only[Act.put,ZA,ZB,ZC])
   refine tk 13 ⟨some 21,.move (.tmp 1),3, "desk.go:84",#[],none⟩ ?_ rfl ?_ Zjc ?_
   rotate_left
   ·(intro U hSw;(try dsimp only at hSw);go_simp;first|done|with_reducible rfl)
   (try simp only[Act.put,ZA,ZB,ZC])
   have hb:=Zj w
   refine wpAnyH_ready (rs:=[5,7,12]) (by kernel_rfl) (by simp) ?_
   refine AllReadyH.cons (o:=⟨some 13,.load 24 (.tmp 12),24, "desk.go:84",#[⟨4,.data⟩],none⟩) rfl (fun KQ hK=>?_) (AllReadyH.cons (o:=⟨some 15,.call { callee:=Callee.value (.func 108),args:=#[.tmp 14],argTypes:=#[181] },29, "desk.go:84",#[⟨6,.data⟩],none⟩) rfl (fun KQ hK=>?_) (AllReadyH.cons (o:=⟨some 20,.load 37 (.tmp 19),37, "desk.go:84",#[⟨11,.data⟩],none⟩) rfl (fun KQ hK=>?_) AllReadyH.nil))
   obtain⟨l0,l3,ll⟩:=(Za KC) w.drew hb
   go_simp
   clear l0 l3 ll
   refine hK.out _ _ ((Za KS) _ hb.size) (fun Zjd=>?_)
   clear hK KQ Zjc
   have Zjc:=Zjd
   clear Zjd
   (try simp only[Act.put,ZA,ZB,ZC])
   refine wpAnyH_ready (rs:=[7,12]) (by kernel_rfl) (by simp) ?_
   refine AllReadyH.cons (o:=⟨some 15,.call { callee:=Callee.value (.func 108),args:=#[.tmp 14],argTypes:=#[181] },29, "desk.go:84",#[⟨6,.data⟩],none⟩) rfl (fun KQ hK=>?_) (AllReadyH.cons (o:=⟨some 20,.load 37 (.tmp 19),37, "desk.go:84",#[⟨11,.data⟩],none⟩) rfl (fun KQ hK=>?_) AllReadyH.nil)
   refine Zl (by kernel_rfl) 108 #[.pointer (some ⟨d,0,none⟩)] (by kernel_rfl) ((Za CC) w.drew hb) ?_
   rintro e v1 ⟨rfl,hbn⟩
   refine⟨_,rfl,?_⟩
   have hb:=Zf hb hbn
   refine hK.out _ _ ((Za KS) _ hb.size) (fun Zjd=>?_)
   clear hK KQ Zjc
   have Zjc:=Zjd
   clear Zjd
   (try simp only[Act.put,ZA,ZB,ZC])
   refine wpAnyH_ready (rs:=[12]) (by kernel_rfl) (by simp) ?_
   refine AllReadyH.cons (o:=⟨some 20,.load 37 (.tmp 19),37, "desk.go:84",#[⟨11,.data⟩],none⟩) rfl (fun KQ hK=>?_) AllReadyH.nil
   obtain⟨l0,l3,ll⟩:=(Za KC) v1 hb
   go_simp
   clear l0 l3 ll
   refine hK.out _ _ ((Za KS) _ hb.size) (fun Zjd=>?_)
   clear hK KQ Zjc
   have Zjc:=Zjd
   clear Zjd
   (try simp only[Act.put,ZA,ZB,ZC])
   obtain⟨vz,hvz⟩:∃ z,z=v1:=⟨_,rfl⟩
   subst hvz
   rotate_left
   obtain⟨l0,l3,ll⟩:=(Za KC) w.drew hb
   go_simp
   clear l0 l3 ll
   refine hK.out _ _ ((Za KS) _ hb.size) (fun Zjd=>?_)
   clear hK KQ Zjc
   have Zjc:=Zjd
   clear Zjd
   (try simp only[Act.put,ZA,ZB,ZC])
   refine wpAnyH_ready (rs:=[7]) (by kernel_rfl) (by simp) ?_
   refine AllReadyH.cons (o:=⟨some 15,.call { callee:=Callee.value (.func 108),args:=#[.tmp 14],argTypes:=#[181] },29, "desk.go:84",#[⟨6,.data⟩],none⟩) rfl (fun KQ hK=>?_) AllReadyH.nil
   refine Zl (by kernel_rfl) 108 #[.pointer (some ⟨d,0,none⟩)] (by kernel_rfl) ((Za CC) w.drew hb) ?_
   rintro e v2 ⟨rfl,hbn⟩
   refine⟨_,rfl,?_⟩
   have hb:=Zf hb hbn
   refine hK.out _ _ ((Za KS) _ hb.size) (fun Zjd=>?_)
   clear hK KQ Zjc
   have Zjc:=Zjd
   clear Zjd
   (try simp only[Act.put,ZA,ZB,ZC])
   obtain⟨vz,hvz⟩:∃ z,z=v2:=⟨_,rfl⟩
   subst hvz
   rotate_left
   refine Zl (by kernel_rfl) 108 #[.pointer (some ⟨d,0,none⟩)] (by kernel_rfl) ((Za CC) w.drew hb) ?_
   rintro e v3 ⟨rfl,hbn⟩
   refine⟨_,rfl,?_⟩
   have hb:=Zf hb hbn
   refine hK.out _ _ ((Za KS) _ hb.size) (fun Zjd=>?_)
   clear hK KQ Zjc
   have Zjc:=Zjd
   clear Zjd
   (try simp only[Act.put,ZA,ZB,ZC])
   refine wpAnyH_ready (rs:=[5,12]) (by kernel_rfl) (by simp) ?_
   refine AllReadyH.cons (o:=⟨some 13,.load 24 (.tmp 12),24, "desk.go:84",#[⟨4,.data⟩],none⟩) rfl (fun KQ hK=>?_) (AllReadyH.cons (o:=⟨some 20,.load 37 (.tmp 19),37, "desk.go:84",#[⟨11,.data⟩],none⟩) rfl (fun KQ hK=>?_) AllReadyH.nil)
   obtain⟨l0,l3,ll⟩:=(Za KC) v3 hb
   go_simp
   clear l0 l3 ll
   refine hK.out _ _ ((Za KS) _ hb.size) (fun Zjd=>?_)
   clear hK KQ Zjc
   have Zjc:=Zjd
   clear Zjd
   (try simp only[Act.put,ZA,ZB,ZC])
   refine wpAnyH_ready (rs:=[12]) (by kernel_rfl) (by simp) ?_
   refine AllReadyH.cons (o:=⟨some 20,.load 37 (.tmp 19),37, "desk.go:84",#[⟨11,.data⟩],none⟩) rfl (fun KQ hK=>?_) AllReadyH.nil
   obtain⟨l0,l3,ll⟩:=(Za KC) v3 hb
   go_simp
   clear l0 l3 ll
   refine hK.out _ _ ((Za KS) _ hb.size) (fun Zjd=>?_)
   clear hK KQ Zjc
   have Zjc:=Zjd
   clear Zjd
   (try simp only[Act.put,ZA,ZB,ZC])
   obtain⟨vz,hvz⟩:∃ z,z=v3:=⟨_,rfl⟩
   subst hvz
   rotate_left
   obtain⟨l0,l3,ll⟩:=(Za KC) v3 hb
   go_simp
   clear l0 l3 ll
   refine hK.out _ _ ((Za KS) _ hb.size) (fun Zjd=>?_)
   clear hK KQ Zjc
   have Zjc:=Zjd
   clear Zjd
   (try simp only[Act.put,ZA,ZB,ZC])
   refine wpAnyH_ready (rs:=[5]) (by kernel_rfl) (by simp) ?_
   refine AllReadyH.cons (o:=⟨some 13,.load 24 (.tmp 12),24, "desk.go:84",#[⟨4,.data⟩],none⟩) rfl (fun KQ hK=>?_) AllReadyH.nil
   obtain⟨l0,l3,ll⟩:=(Za KC) v3 hb
   go_simp
   clear l0 l3 ll
   refine hK.out _ _ ((Za KS) _ hb.size) (fun Zjd=>?_)
   clear hK KQ Zjc
   have Zjc:=Zjd
   clear Zjd
   (try simp only[Act.put,ZA,ZB,ZC])
   obtain⟨vz,hvz⟩:∃ z,z=v3:=⟨_,rfl⟩
   subst hvz
   rotate_left
   obtain⟨l0,l3,ll⟩:=(Za KC) w.drew hb
   go_simp
   clear l0 l3 ll
   refine hK.out _ _ ((Za KS) _ hb.size) (fun Zjd=>?_)
   clear hK KQ Zjc
   have Zjc:=Zjd
   clear Zjd
   (try simp only[Act.put,ZA,ZB,ZC])
   refine wpAnyH_ready (rs:=[5,7]) (by kernel_rfl) (by simp) ?_
   refine AllReadyH.cons (o:=⟨some 13,.load 24 (.tmp 12),24, "desk.go:84",#[⟨4,.data⟩],none⟩) rfl (fun KQ hK=>?_) (AllReadyH.cons (o:=⟨some 15,.call { callee:=Callee.value (.func 108),args:=#[.tmp 14],argTypes:=#[181] },29, "desk.go:84",#[⟨6,.data⟩],none⟩) rfl (fun KQ hK=>?_) AllReadyH.nil)
   obtain⟨l0,l3,ll⟩:=(Za KC) w.drew hb
   go_simp
   clear l0 l3 ll
   refine hK.out _ _ ((Za KS) _ hb.size) (fun Zjd=>?_)
   clear hK KQ Zjc
   have Zjc:=Zjd
   clear Zjd
   (try simp only[Act.put,ZA,ZB,ZC])
   refine wpAnyH_ready (rs:=[7]) (by kernel_rfl) (by simp) ?_
   refine AllReadyH.cons (o:=⟨some 15,.call { callee:=Callee.value (.func 108),args:=#[.tmp 14],argTypes:=#[181] },29, "desk.go:84",#[⟨6,.data⟩],none⟩) rfl (fun KQ hK=>?_) AllReadyH.nil
   refine Zl (by kernel_rfl) 108 #[.pointer (some ⟨d,0,none⟩)] (by kernel_rfl) ((Za CC) w.drew hb) ?_
   rintro e v4 ⟨rfl,hbn⟩
   refine⟨_,rfl,?_⟩
   have hb:=Zf hb hbn
   refine hK.out _ _ ((Za KS) _ hb.size) (fun Zjd=>?_)
   clear hK KQ Zjc
   have Zjc:=Zjd
   clear Zjd
   (try simp only[Act.put,ZA,ZB,ZC])
   obtain⟨vz,hvz⟩:∃ z,z=v4:=⟨_,rfl⟩
   subst hvz
   rotate_left
   refine Zl (by kernel_rfl) 108 #[.pointer (some ⟨d,0,none⟩)] (by kernel_rfl) ((Za CC) w.drew hb) ?_
   rintro e v5 ⟨rfl,hbn⟩
   refine⟨_,rfl,?_⟩
   have hb:=Zf hb hbn
   refine hK.out _ _ ((Za KS) _ hb.size) (fun Zjd=>?_)
   clear hK KQ Zjc
   have Zjc:=Zjd
   clear Zjd
   (try simp only[Act.put,ZA,ZB,ZC])
   refine wpAnyH_ready (rs:=[5]) (by kernel_rfl) (by simp) ?_
   refine AllReadyH.cons (o:=⟨some 13,.load 24 (.tmp 12),24, "desk.go:84",#[⟨4,.data⟩],none⟩) rfl (fun KQ hK=>?_) AllReadyH.nil
   obtain⟨l0,l3,ll⟩:=(Za KC) v5 hb
   go_simp
   clear l0 l3 ll
   refine hK.out _ _ ((Za KS) _ hb.size) (fun Zjd=>?_)
   clear hK KQ Zjc
   have Zjc:=Zjd
   clear Zjd
   (try simp only[Act.put,ZA,ZB,ZC])
   obtain⟨vz,hvz⟩:∃ z,z=v5:=⟨_,rfl⟩
   subst hvz
   rotate_left
   all_goals
    refine wpAnyH_ready (rs:=[14]) (by kernel_rfl) (by simp) ?_
    refine AllReadyH.cons (o:=⟨some 22,.call { callee:=Callee.value (.func 23),args:=#[.tmp 13,.tmp 15,.tmp 20,.tmp 21],argTypes:=#[24,29,37,3] },49, "desk.go:84",#[⟨5,.data⟩,⟨7,.data⟩,⟨12,.data⟩,⟨13,.data⟩,⟨7,.chain⟩],none⟩) rfl (fun KQ hK=>?_) AllReadyH.nil
    refine Zl (by kernel_rfl) 23 #[.agg #[.slice ka kn kc],.slice ca cn cc,.slice pa pn pc,.int .i64 z] (by kernel_rfl) ((Za CS) vz hb) ?_
    rintro e vy ⟨k5,k5n,k5c,sa,sn,sc,oa,on,oc,rfl,hFn,sk5,ss5,-,hbn⟩
    refine⟨_,rfl,?_⟩
    have hb5:=Zf hb hbn
    refine hK.out _ _ ((Za KS) _ hb5.size) (fun Zjd=>?_)
    clear hK KQ Zjc
    have Zjc:=Zjd
    clear Zjd
    (try simp only[Act.put,ZA,ZB,ZC])
    refine tk 15 ⟨some 7,.move (.tmp 22),49, "desk.go:84",#[⟨14,.data⟩],none⟩ ?_ rfl ?_ Zjc ?_
    rotate_left
    ·(intro U hSw;(try dsimp only at hSw);go_simp;first|done|with_reducible rfl)
    (try simp only[Act.put,ZA,ZB,ZC])
    refine tk 16 ⟨some 23,.extract (.tmp 7) 0,24, "desk.go:84",#[⟨15,.data⟩],none⟩ ?_ rfl ?_ Zjc ?_
    rotate_left
    ·(intro U hSw;(try dsimp only at hSw);go_simp;first|done|with_reducible rfl)
    (try simp only[Act.put,ZA,ZB,ZC])
    refine tk 17 ⟨some 24,.extract (.tmp 7) 1,37, "desk.go:84",#[⟨15,.data⟩,⟨23,.gcOnly .lateStores⟩],none⟩ ?_ rfl ?_ Zjc ?_
    rotate_left
    ·(intro U hSw;(try dsimp only at hSw);go_simp;first|done|with_reducible rfl)
    (try simp only[Act.put,ZA,ZB,ZC])
    refine tk 18 ⟨some 25,.extract (.tmp 7) 2,29, "desk.go:84",#[⟨15,.data⟩,⟨27,.gcOnly .lateStores⟩],none⟩ ?_ rfl ?_ Zjc ?_
    rotate_left
    ·(intro U hSw;(try dsimp only at hSw);go_simp;first|done|with_reducible rfl)
    (try simp only[Act.put,ZA,ZB,ZC])
    refine tk 19 ⟨some 26,.extract (.tmp 7) 3,3, "desk.go:84",#[⟨15,.data⟩,⟨27,.gcOnly .lateStores⟩],none⟩ ?_ rfl ?_ Zjc ?_
    rotate_left
    ·(intro U hSw;(try dsimp only at hSw);go_simp;first|done|with_reducible rfl)
    (try simp only[Act.put,ZA,ZB,ZC])
    refine tk 20 ⟨some 27,.extract (.tmp 7) 4,30, "desk.go:84",#[⟨15,.data⟩,⟨27,.gcOnly .lateStores⟩],none⟩ ?_ rfl ?_ Zjc ?_
    rotate_left
    ·(intro U hSw;(try dsimp only at hSw);go_simp;first|done|with_reducible rfl)
    (try simp only[Act.put,ZA,ZB,ZC])
    refine tk 21 ⟨some 28,.nilCheck (.tmp 8),0, "desk.go:84",#[⟨0,.data⟩,⟨0,.phase⟩,⟨1,.textOnly .lateStores⟩,⟨2,.phase⟩,⟨3,.phase⟩,⟨4,.phase⟩,⟨5,.phase⟩,⟨6,.phase⟩,⟨7,.phase⟩,⟨8,.phase⟩,⟨9,.phase⟩,⟨10,.phase⟩,⟨11,.phase⟩,⟨12,.phase⟩,⟨13,.phase⟩,⟨14,.phase⟩,⟨15,.phase⟩,⟨16,.phase⟩,⟨17,.textOnly .lateStores⟩,⟨18,.textOnly .lateStores⟩,⟨19,.textOnly .lateStores⟩,⟨20,.textOnly .lateStores⟩],none⟩ ?_ rfl ?_ Zjc ?_
    rotate_left
    ·(intro U hSw;(try dsimp only at hSw);go_simp;first|done|with_reducible rfl)
    (try simp only[Act.put,ZA,ZB,ZC])
    refine tk 22 ⟨some 29,.fieldAddr 254 (.tmp 28) 0,0, "desk.go:84",#[⟨21,.data⟩,⟨0,.phase⟩,⟨1,.textOnly .lateStores⟩,⟨2,.phase⟩,⟨3,.phase⟩,⟨4,.phase⟩,⟨5,.phase⟩,⟨6,.phase⟩,⟨7,.phase⟩,⟨8,.phase⟩,⟨9,.phase⟩,⟨10,.phase⟩,⟨11,.phase⟩,⟨12,.phase⟩,⟨13,.phase⟩,⟨14,.phase⟩,⟨15,.phase⟩,⟨16,.phase⟩,⟨17,.textOnly .lateStores⟩,⟨18,.textOnly .lateStores⟩,⟨19,.textOnly .lateStores⟩,⟨20,.textOnly .lateStores⟩],none⟩ ?_ rfl ?_ Zjc ?_
    rotate_left
    ·(intro U hSw;(try dsimp only at hSw);go_simp;first|done|with_reducible rfl)
    (try simp only[Act.put,ZA,ZB,ZC])
    have hbx:=(hb5.block _ (lt_of_block (Za H).box)).trans (Za H).box
    have y0:=Zd hbx 0 _ rfl
    have y3:=Zd hbx 3 _ rfl
    have g0:=Zg hbx 0
    have g3:=Zg hbx 3
    have yl:=lt_of_block hbx
    refine wpAnyH_ready (rs:=[23]) (by kernel_rfl) (by simp) ?_
    refine AllReadyH.cons (o:=⟨none,.store 24 (.tmp 29) (.tmp 23),0, "desk.go:84",#[⟨22,.data⟩,⟨16,.data⟩,⟨14,.chain⟩,⟨0,.phase⟩,⟨1,.textOnly .lateStores⟩,⟨2,.phase⟩,⟨3,.phase⟩,⟨4,.phase⟩,⟨5,.phase⟩,⟨6,.phase⟩,⟨7,.phase⟩,⟨8,.phase⟩,⟨9,.phase⟩,⟨10,.phase⟩,⟨11,.phase⟩,⟨12,.phase⟩,⟨13,.phase⟩,⟨14,.phase⟩,⟨15,.phase⟩,⟨16,.phase⟩,⟨17,.textOnly .lateStores⟩,⟨18,.textOnly .lateStores⟩,⟨19,.textOnly .lateStores⟩,⟨20,.textOnly .lateStores⟩],none⟩) rfl (fun KQ hK=>?_) AllReadyH.nil
    go_simp
    refine hK.out _ _ ((Za KS) _ (by simpa[World.setCell] using hb5.size)) (fun Zjd=>?_)
    clear hK KQ Zjc
    have Zjc:=Zjd
    clear Zjd
    (try simp only[Act.put])
    refine tk 24 ⟨some 30,.nilCheck (.tmp 9),0, "desk.go:84",#[⟨1,.data⟩,⟨0,.phase⟩,⟨1,.phase⟩,⟨2,.phase⟩,⟨3,.phase⟩,⟨4,.phase⟩,⟨5,.phase⟩,⟨6,.phase⟩,⟨7,.phase⟩,⟨8,.phase⟩,⟨9,.phase⟩,⟨10,.phase⟩,⟨11,.phase⟩,⟨12,.phase⟩,⟨13,.phase⟩,⟨14,.phase⟩,⟨15,.phase⟩,⟨16,.phase⟩,⟨17,.phase⟩,⟨18,.textOnly .lateStores⟩,⟨19,.textOnly .lateStores⟩,⟨20,.textOnly .lateStores⟩,⟨21,.phase⟩,⟨22,.phase⟩,⟨23,.phase⟩],none⟩ ?_ rfl ?_ Zjc ?_
    rotate_left
    ·(intro U hSw;(try dsimp only at hSw);go_simp;first|done|with_reducible rfl)
    (try simp only[Act.put,ZA,ZB,ZC])
    refine tk 25 ⟨some 31,.fieldAddr 254 (.tmp 30) 1,0, "desk.go:84",#[⟨24,.data⟩,⟨0,.phase⟩,⟨1,.phase⟩,⟨2,.phase⟩,⟨3,.phase⟩,⟨4,.phase⟩,⟨5,.phase⟩,⟨6,.phase⟩,⟨7,.phase⟩,⟨8,.phase⟩,⟨9,.phase⟩,⟨10,.phase⟩,⟨11,.phase⟩,⟨12,.phase⟩,⟨13,.phase⟩,⟨14,.phase⟩,⟨15,.phase⟩,⟨16,.phase⟩,⟨17,.phase⟩,⟨18,.textOnly .lateStores⟩,⟨19,.textOnly .lateStores⟩,⟨20,.textOnly .lateStores⟩,⟨21,.phase⟩,⟨22,.phase⟩,⟨23,.phase⟩],none⟩ ?_ rfl ?_ Zjc ?_
    rotate_left
    ·(intro U hSw;(try dsimp only at hSw);go_simp;first|done|with_reducible rfl)
    (try simp only[Act.put,ZA,ZB,ZC])
    refine tk 26 ⟨some 32,.fieldAddr 67 (.tmp 31) 1,0, "desk.go:84",#[⟨25,.data⟩,⟨0,.phase⟩,⟨1,.phase⟩,⟨2,.phase⟩,⟨3,.phase⟩,⟨4,.phase⟩,⟨5,.phase⟩,⟨6,.phase⟩,⟨7,.phase⟩,⟨8,.phase⟩,⟨9,.phase⟩,⟨10,.phase⟩,⟨11,.phase⟩,⟨12,.phase⟩,⟨13,.phase⟩,⟨14,.phase⟩,⟨15,.phase⟩,⟨16,.phase⟩,⟨17,.phase⟩,⟨18,.textOnly .lateStores⟩,⟨19,.textOnly .lateStores⟩,⟨20,.textOnly .lateStores⟩,⟨21,.phase⟩,⟨22,.phase⟩,⟨23,.phase⟩],none⟩ ?_ rfl ?_ Zjc ?_
    rotate_left
    ·(intro U hSw;(try dsimp only at hSw);go_simp;first|done|with_reducible rfl)
    (try simp only[Act.put,ZA,ZB,ZC])
    refine wpAnyH_ready (rs:=[27]) (by kernel_rfl) (by simp) ?_
    refine AllReadyH.cons (o:=⟨none,.store 37 (.tmp 32) (.tmp 24),0, "desk.go:84",#[⟨26,.data⟩,⟨17,.data⟩,⟨23,.chain⟩,⟨0,.phase⟩,⟨1,.phase⟩,⟨2,.phase⟩,⟨3,.phase⟩,⟨4,.phase⟩,⟨5,.phase⟩,⟨6,.phase⟩,⟨7,.phase⟩,⟨8,.phase⟩,⟨9,.phase⟩,⟨10,.phase⟩,⟨11,.phase⟩,⟨12,.phase⟩,⟨13,.phase⟩,⟨14,.phase⟩,⟨15,.phase⟩,⟨16,.phase⟩,⟨17,.phase⟩,⟨18,.textOnly .lateStores⟩,⟨19,.textOnly .lateStores⟩,⟨20,.textOnly .lateStores⟩,⟨21,.phase⟩,⟨22,.phase⟩,⟨23,.phase⟩],none⟩) rfl (fun KQ hK=>?_) AllReadyH.nil
    go_simp
    refine hK.out _ _ ((Za KS) _ (by simpa[World.setCell] using hb5.size)) (fun Zjd=>?_)
    clear hK KQ Zjc
    have Zjc:=Zjd
    clear Zjd
    (try simp only[Act.put])
    refine tk 28 ⟨some 4,.assign (.tmp 27),30, "desk.go:84",#[⟨20,.data⟩,⟨27,.chain⟩,⟨0,.phase⟩,⟨1,.phase⟩,⟨2,.phase⟩,⟨3,.phase⟩,⟨4,.phase⟩,⟨5,.phase⟩,⟨6,.phase⟩,⟨7,.phase⟩,⟨8,.phase⟩,⟨9,.phase⟩,⟨10,.phase⟩,⟨11,.phase⟩,⟨12,.phase⟩,⟨13,.phase⟩,⟨14,.phase⟩,⟨15,.phase⟩,⟨16,.phase⟩,⟨17,.phase⟩,⟨18,.phase⟩,⟨19,.phase⟩,⟨20,.phase⟩,⟨21,.phase⟩,⟨22,.phase⟩,⟨23,.phase⟩,⟨24,.phase⟩,⟨25,.phase⟩,⟨26,.phase⟩,⟨27,.phase⟩],none⟩ ?_ rfl ?_ Zjc ?_
    rotate_left
    ·(intro U hSw;(try dsimp only at hSw);go_simp;first|done|with_reducible rfl)
    (try simp only[Act.put,ZA,ZB,ZC])
    refine wpAnyH_done (by kernel_rfl) ?_ _
    clear Zjc
    go_wp2_with fail
    go_meet
    case rel=>
     refine⟨rfl,k5,k5n,k5c,sa,sn,sc,?_⟩
     have F:Fresh vz.heap.size vy (fun w2=>Bk.TextsAt w2 k5 k5n K2∧TxsAt w2 sa sn P2):=fun W g=>⟨(hFn W g).1,(hFn W g).2.1⟩
     exact (Za H).swept hb hbn F sk5 ss5 (((Gr.refl vy (fun q=>q=d)).one d 0 (.inl rfl) (.slice k5 k5n k5c)).one d 3 (.inl rfl) (.slice sa sn sc)) (Tr.set_cells (Tr.set_cells hbx 0 _) 3 _)
  case rest=>
   obtain⟨rfl,HD⟩:=hcut
   clear KS KC CC CS H
   go_wp2
   go_ret
   exact⟨rfl,Za HD⟩
end
end Go.Proofs.YtmomfkikogbdeaaGreatDoor
