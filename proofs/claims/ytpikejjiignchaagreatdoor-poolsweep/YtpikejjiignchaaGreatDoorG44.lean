import Derived.Test.YtpikejjiignchaaGreatDoorG43
set_option maxHeartbeats 12800000
set_option maxRecDepth 10000
namespace Go.Proofs.YtpikejjiignchaaGreatDoor
open Go.RowKit
def Tt(w w':World)(x:Int)(K:List ByteArray)(P:List TxD)(e:Ending):Prop:=
 ∃ ka kn kc sa sn sc,e = .returned (.tuple #[.slice ka kn kc,.slice sa sn sc,.int .i64 x])∧Bk.TextsAt w' ka kn K∧Bk.SlOk ka kn kc∧TxsAt w' sa sn P∧SlOk sa sn sc∧Below w.heap.size w w'
theorem U5{w w':World}{x:Int}{K:List ByteArray}{P:List TxD}{y:Int}(h:(x,K,P)=(y,([]:List ByteArray),([]:List TxD)))(hb:Below w.heap.size w w'):Tt w w' x K P (.returned (.tuple #[.slice none 0 0,.slice none 0 0,.int .i64 y])):=by
 simp only[Prod.mk.injEq] at h
 obtain⟨h1,h2,h3⟩:=h
 subst h1 h2 h3
 exact⟨none,0,0,none,0,0,rfl,⟨rfl,fun h=>absurd h (by decide)⟩,⟨Nat.le_refl _,Nat.zero_le _,fun _=>⟨rfl,rfl⟩⟩,RowsAt.nil _ _,⟨Nat.le_refl _,Nat.zero_le _,fun _=>⟨rfl,rfl⟩⟩,hb⟩
theorem Zes{S:List TxD}{t:TxD}{k:Nat}(h:∀ j (hj:j<S.length),j<k→Xr S[j] t=false)(hk:S.length≤k):(S.any fun x=>Xr x t)=false:=by
 rw[List.any_eq_false]
 intro x hx
 obtain⟨j,hj,rfl⟩:=List.getElem_of_mem hx
 rw[h j hj (by omega)]
 decide
theorem Mh(ka:Option Addr)(kn kc:Nat)(K:List ByteArray)(la:Option Addr)(ln lc:Nat)(C0:List Zg)(a:Option Addr)(m c:Nat)(T:List TxD)(th:Int)(ai ao:Option Addr)(ni ci no co:Nat)(I:List InD)(O:List Zw)(ht:Int)(x:Int)(K1:List ByteArray)(P1:List TxD)(w:World)(hE:EnvF w)(hK:Bk.TextsAt w ka kn K)(sK:Bk.SlOk ka kn kc)(hC:CoinsAt w la ln C0)(sC:SlOk la ln lc)(hT:TxsAt w a m T)(hI:InsAt w ai ni I)(hO:OutsAt w ao no O)(sI:SlOk ai ni ci)(sO:SlOk ao no co)(h0:swE K C0 T ht=0)(hx:acE K C0 T (th,I,O) ht=(x,K1,P1)) :
  Calls Tryz.prog 27 #[.slice ka kn kc,.slice la ln lc,.slice a m c,.agg #[.int .i64 th,.slice ai ni ci,.slice ao no co],.int .i64 ht] w fun e w'=>Tt w w' x K1 P1 e:=by
 obtain⟨oz,hl8⟩:=Qu h0
 obtain⟨hR,hRC,_,_⟩:=Ud oz
 have hm:m≤8:=by rw[←hT.1];exact hl8
 obtain⟨⟨S,K2,C2⟩,hs⟩:∃ r,Yh ht T (K,C0)=r:=⟨_,rfl⟩
 obtain⟨hR2,_⟩:=Rs T K C0 hR (h:=ht)
 obtain⟨hRC2,_,_⟩:=Rt T K C0 hR hRC (h:=ht)
 rw[hs] at hR2 hRC2
 have hSl:S.length≤8:=by
  have e2:=congrArg List.length (Jh ht T (K,C0))
  have:=P6 ht T (K,C0)
  rw[List.length_map,hs] at e2
  have e2:(swT ht T (K,C0)).length=S.length:=e2
  omega
 have HX:Hid ((x,K1,P1)=if (S.any fun y=>Xr y (th,I,O))=true then ((6:Int),([]:List ByteArray),([]:List TxD)) else if (doD ht (K2,C2) (th,I,O)).1≠0 then ((doD ht (K2,C2) (th,I,O)).1,[],[]) else if S.length=8 then (12,[],[]) else (0,(doD ht (K2,C2) (th,I,O)).2.1,S++[(th,I,O)])):=by
  show _=_
  rw[←hx]
  unfold acE
  rw[if_neg (by rw[h0];decide),hs]
 obtain⟨X,hX⟩:∃ X,X=w.alloc (.cells #[.int .i64 th,.slice ai ni ci,.slice ao no co] 52):=⟨_,rfl⟩
 have hbX:Below w.heap.size w X:=by rw[hX];exact Zf _ _
 have X0:Hid (X.heap[w.heap.size]? = some (.cells [.int .i64 th,.slice ai ni ci,.slice ao no co].toArray 52 (0,0))):=by show _=_;rw[hX];exact Zk _ _ _ _ _
 have CW:=Zb (Ld ka kn kc K la ln lc C0 a m c T ht K2 S C2 X (hE.later hbX) (hK.later hbX) sK hR (hC.later hbX) sC hRC (hT.later hbX) hm hs)
 have HD:Hid (∀ V,Below X.heap.size X V→EnvF V∧InsAt V ai ni I∧OutsAt V ao no O):=fun V hv=>⟨hE.later (Ze hbX hv),hI.later (Ze hbX hv),hO.later (Ze hbX hv)⟩
 have HSI:=Zb (And.intro sI sO)
 have HR2:=Zb (And.intro hR2 hRC2)
 have HBX:=Zb hbX
 have HSL:=Zb hSl
 have hni:I.length=ni:=hI.1
 have HNI:=Zb hni
 have li:=sI.len
 have lo:=sO.len
 obtain⟨i1,ii,iz0,iz1,iz2⟩:=info_parts Tryz.infoTx9
 clear hE hK sK hR hC sC hRC hT hI hO sI sO h0 hx oz hl8 hm hs hR2 hRC2 hSl hbX hni
 go_enter Tryz.func27,Tryz.ntmps27
 go_wp2_with fail
 rw[←hX]
 clear hX
 (try go_wp2_with fail)
 refine (Za CW).mono ?_
 rintro e w1 ⟨b1,b1n,b1c,sa,sn,sc,oa,on,oc,rfl,hT1,sT1,hS1,sS1,hC1,sC1,hb1⟩
 have HT1:=Zb (And.intro hT1 sT1)
 have HS1:=Zb (And.intro hS1 sS1)
 have HC1:=Zb (And.intro hC1 sC1)
 have HB1:=Zb hb1
 have ZS:=Zb hS1.1
 have X1:Hid (w1.heap[w.heap.size]? = some (.cells [.int .i64 th,.slice ai ni ci,.slice ao no co].toArray 52 (0,0))):=(hb1.block _ (lt_of_block (Za X0))).trans (Za X0)
 have hsn8:sn≤8:=by rw[←hS1.1];exact Za HSL
 clear CW hT1 sT1 hS1 sS1 hC1 sC1 hb1 X0 HSL
 have HN0:Hid (∀ j (hj:j<S.length),j<0→Xr S[j] (th,I,O)=false):=fun j hj h=>absurd h (by omega)
 have HB0:Hid (Below w1.heap.size w1 w1):=Below.refl _ _
 go_wp2_with fail
 go_loopw [37] (fun iv V=>∃ k:Nat,k≤sn∧iv = .int .i64 (k:Int)∧Hid (∀ j (hj:j<S.length),j<k→Xr S[j] (th,I,O)=false)∧Hid (Below w1.heap.size w1 V)) (fun iv _=>sn - (intOf iv).toNat)
 case atStart=>exact⟨0,Nat.zero_le _,rfl,HN0,HB0⟩
 case round=>
  obtain⟨k,hk,rfl,HN,HB⟩:=hrel
  clear HN0 HB0
  by_cases hlt:k<sn
  ·have hkI:(k:Int)<(sn:Int):=by omega
   have hkS:k<S.length:=by rw[Za ZS];exact hlt
   have hw1:IntKind.i64.wrap ((k:Int)+1)=((k:Int)+1):=by rw[IntKind.wrap_i64];omega
   obtain⟨tb,tof,rfl,_,htc⟩:=(Za HS1).1.2 (by omega)
   obtain⟨th2,I2,O2,htx⟩:∃ th2 I2 O2,S[k]=(th2,I2,O2):=⟨_,_,_,rfl⟩
   have tc:=TxAt.kept _ _ _ _ _ (Za HB) (htc k hkS)
   rw[htx] at tc
   obtain⟨c0,⟨ai2,ni2,ci2,c1,hIn,sIn⟩,ao2,no2,co2,c2,hOut,sOut⟩:=tc
   simp only at c0 c1 c2 hIn hOut
   obtain⟨o,hso⟩:∃ o,Xr (th2,I2,O2) (th,I,O)=o:=⟨_,rfl⟩
   obtain⟨Y,hY⟩:∃ Y,Y=wr.alloc (.cells #[.int .i64 th2,.slice ai2 ni2 ci2,.slice ao2 no2 co2] 52):=⟨_,rfl⟩
   have hbY:Below wr.heap.size wr Y:=by rw[hY];exact Zf _ _
   have Y0:Hid (Y.heap[wr.heap.size]? = some (.cells [.int .i64 th2,.slice ai2 ni2 ci2,.slice ao2 no2 co2].toArray 52 (0,0))):=by show _=_;rw[hY];exact Zk _ _ _ _ _
   have hd:=(Za HD) Y (Ze (Za HB1) (Ze (Za HB) hbY))
   have CS:=Zb (Gs th2 th ai2 ao2 ai ao ni2 ci2 no2 co2 ni ci no co I2 I O2 O o Y sIn.len sOut.len (hIn.later hbY) (hOut.later hbY) hd.2.1 hd.2.2 hso)
   have XY:Hid (Y.heap[w.heap.size]? = some (.cells [.int .i64 th,.slice ai ni ci,.slice ao no co].toArray 52 (0,0))):=((Ze (Za HB) hbY).block _ (lt_of_block (Za X1))).trans (Za X1)
   have HSO:=Zb hso
   have HBY:=Zb (Ze (Za HB) hbY)
   have HTX:=Zb htx
   have cl:=World.block_lt_of_cell? _ _ c0
   have XR:Hid (wr.heap[w.heap.size]? = some (.cells [.int .i64 th,.slice ai ni ci,.slice ao no co].toArray 52 (0,0))):=((Za HB).block _ (lt_of_block (Za X1))).trans (Za X1)
   have q0:=Zd (Za XR) 0 _ rfl
   have q1:=Zd (Za XR) 1 _ rfl
   have q2:=Zd (Za XR) 2 _ rfl
   have ql:=lt_of_block (Za XR)
   clear hIn hOut sIn sOut htc hd hbY hso htx XR
   go_upto_region 5 with fail
   rw[←hY]
   clear hY c0 c1 c2 cl q0 q1 q2 ql
   have m0:=Zd (Za XY) 0 _ rfl
   have m1:=Zd (Za XY) 1 _ rfl
   have m2:=Zd (Za XY) 2 _ rfl
   have ml:=lt_of_block (Za XY)
   have n0:=Zd (Za Y0) 0 _ rfl
   have n1:=Zd (Za Y0) 1 _ rfl
   have n2:=Zd (Za Y0) 2 _ rfl
   have nl:=lt_of_block (Za Y0)
   (try go_wp2_with fail)
   refine (Za CS).mono ?_
   rintro e w2 ⟨rfl,hb2⟩
   have HB2:=Zb (Ze (Za HBY) hb2)
   clear hb2 CS m0 m1 m2 ml n0 n1 n2 nl Y0 XY
   cases o
   ·have HN2:Hid (∀ j (hj:j<S.length),j<k+1→Xr S[j] (th,I,O)=false):=fun j hj h=>by
     rcases Nat.lt_or_ge j k with q|q
     ·exact (Za HN) j hj q
     ·obtain rfl:j=k:=by omega
      rw[Za HTX]
      exact Za HSO
    clear HN
    go_wp2_with fail
    go_roundw
    case rel=>exact⟨k+1,by omega,by push_cast;rfl,HN2,HB2⟩
    case measure=>simp[intOf];omega
   ·have HF:Hid (Tt w w2 x K1 P1 (.returned (.tuple #[.slice none 0 0,.slice none 0 0,.int .i64 6]))):=by
     refine U5 ?_ (Ze (Za HBX) (Ze (Za HB1) (Za HB2)))
     rw[Za HX,if_pos]
     rw[List.any_eq_true]
     exact⟨S[k],List.getElem_mem hkS,by rw[Za HTX];exact Za HSO⟩
    clear HX
    go_wp2
    (try simp only[Exit.inBlock,Exit.then])
    refine bodyPost_ret (v:=.tuple #[.slice none 0 0,.slice none 0 0,.int .i64 6]) ?_ rfl (Za HF)
    simp[results,Tryz.f27,go_sem]
  ·obtain rfl:k=sn:=by omega
   have hkn:¬((k:Int)<(k:Int)):=by omega
   have HX2:=Za HX
   rw[if_neg (by rw[Zes (Za HN) (by rw[Za ZS];exact Nat.le_refl _)];decide)] at HX2
   have HX2:=Zb HX2
   have XW:Hid (wr.heap[w.heap.size]? = some (.cells [.int .i64 th,.slice ai ni ci,.slice ao no co].toArray 52 (0,0))):=((Za HB).block _ (lt_of_block (Za X1))).trans (Za X1)
   have HBW:=Zb (Ze (Za HB1) (Za HB))
   have HT2:=Zb (And.intro ((Za HT1).1.later (Za HB)) (Za HT1).2)
   have HS2:=Zb (And.intro ((Za HS1).1.later (Za HB)) (Za HS1).2)
   have HC2:=Zb (And.intro ((Za HC1).1.later (Za HB)) (Za HC1).2)
   obtain⟨z,hz⟩:∃ z,Zp (th,I,O)=z:=⟨_,rfl⟩
   have hd:=(Za HD) wr (Za HBW)
   have CK:=Zb (R5 th ai ao ni ci no co I O wr hd.2.1 hd.2.2)
   rw[hz] at CK
   have m0:=Zd (Za XW) 0 _ rfl
   have m1:=Zd (Za XW) 1 _ rfl
   have m2:=Zd (Za XW) 2 _ rfl
   have ml:=lt_of_block (Za XW)
   clear HX HN HB HB1 HT1 HS1 HC1 X1 hd
   go_wp2_with fail
   refine (Za CK).mono ?_
   rintro e w2 ⟨rfl,hb2⟩
   have HB2:=Zb (Ze (Za HBW) hb2)
   have X2:Hid (w2.heap[w.heap.size]? = some (.cells [.int .i64 th,.slice ai ni ci,.slice ao no co].toArray 52 (0,0))):=(hb2.block _ (lt_of_block (Za XW))).trans (Za XW)
   have HR:=Zb hb2
   clear CK hb2 XW m0 m1 m2 ml HBW
   by_cases hz0:z=0
   ·subst hz0
    have m0:=Zd (Za X2) 0 _ rfl
    have m1:=Zd (Za X2) 1 _ rfl
    have m2:=Zd (Za X2) 2 _ rfl
    have ml:=lt_of_block (Za X2)
    by_cases hn0:ni=0
    ·subst hn0
     have HF:Hid (Tt w w2 x K1 P1 (.returned (.tuple #[.slice none 0 0,.slice none 0 0,.int .i64 4]))):=by
      refine U5 ?_ (Ze (Za HBX) (Za HB2))
      have e:(doD ht (K2,C2) (th,I,O)).1=4:=by unfold doD;rw[if_neg (fun q=>q hz),if_pos (Za HNI)]
      rw[Za HX2,e,if_pos (by decide)]
     clear HX2
     go_wp2
     (try simp only[Exit.inBlock,Exit.then])
     refine bodyPost_ret (v:=.tuple #[.slice none 0 0,.slice none 0 0,.int .i64 4]) ?_ rfl (Za HF)
     simp[results,Tryz.f27,go_sem]
    ·have hnI:((ni:Int) == 0)=false:=by simp;omega
     have hnJ:¬((ni:Int)=0):=by omega
     obtain⟨K3,n3,x3,hnm⟩:∃ K3 n3 x3,Bk.nm K2 (Ub (th,I,O))=(K3,n3,x3):=⟨_,_,_,rfl⟩
     have DN:=Fh (h:=ht) (C:=C2) (Za HR2).1 hz (by show I.length≠0;rw[Za HNI];exact hn0) hnm
     have hd:=(Za HD) w2 (Za HB2)
     have CT:=Zb (K7 th ai ao ni ci no co I O w2 hd.1 hd.2.1 hd.2.2 hz)
     have CN:=Zb (fun V (hv:Below wr.heap.size wr V)=>Bk.named_is b1 b1n b1c K2 K3 (Ub (th,I,O)) n3 x3 V (Za HR2).1.1 ((Za HT2).1.later hv) (Za HT2).2 hnm)
     have e3:x3≠0→(doD ht (K2,C2) (th,I,O)).1=x3:=fun q=>by
      have e:Bk.nameR K2 (txT (th,I,O))=(K3,n3,x3):=by unfold Bk.nameR;rw[if_pos ((Bk.right_iff K2).2 (Za HR2).1),L7 hz];exact hnm
      unfold doD
      rw[if_neg (fun q=>q hz),if_neg (by show ¬I.length=0;rw[Za HNI];exact hn0)]
      simp only[e]
      rw[if_pos q]
     have HE3:=Zb e3
     have HNM:=Zb hnm
     have HDN:=Zb DN
     have HZ:=Zb hz
     clear hd hnm DN hz e3
     go_wp2_with fail
     refine (Za CT).mono ?_
     rintro e w3 ⟨rfl,hb3⟩
     have HB3:=Zb (Ze (Za HB2) hb3)
     have HR3:=Zb (Ze (Za HR) hb3)
     have X3:Hid (w3.heap[w.heap.size]? = some (.cells [.int .i64 th,.slice ai ni ci,.slice ao no co].toArray 52 (0,0))):=(hb3.block _ (lt_of_block (Za X2))).trans (Za X2)
     have C4:=Zb ((Za CN) w3 (Za HR3))
     clear CT CN hb3 X2 HR m0 m1 m2 ml HB2
     go_wp2_with fail
     refine (Za C4).mono ?_
     rintro e w4 ⟨⟨b4,b4n,b4c,rfl,hT4,sT4,-⟩,hb4⟩
     have HB4:=Zb (Ze (Za HB3) hb4)
     have HR4:=Zb (Ze (Za HR3) hb4)
     have X4:Hid (w4.heap[w.heap.size]? = some (.cells [.int .i64 th,.slice ai ni ci,.slice ao no co].toArray 52 (0,0))):=(hb4.block _ (lt_of_block (Za X3))).trans (Za X3)
     have HT4:=Zb (And.intro hT4 sT4)
     clear hb4 C4 X3 HB3 HR3 hT4 sT4
     have m0:=Zd (Za X4) 0 _ rfl
     have m1:=Zd (Za X4) 1 _ rfl
     have m2:=Zd (Za X4) 2 _ rfl
     have ml:=lt_of_block (Za X4)
     by_cases hx3:x3=0
     ·subst hx3
      obtain⟨y,M,s,hap⟩:∃ y M s,apD C2 (th,I,O) n3 ht=(y,M,s):=⟨_,_,_,rfl⟩
      have DA:=(Za HDN).2 rfl y M s hap
      have hd:=(Za HD) w4 (Za HB4)
      have CA:=Zb (Ps oa on oc C2 th ai ao ni ci no co I O n3 ht y M s w4 ((Za HC2).1.later (Za HR4)) (Za HC2).2 hd.2.1 hd.2.2 (Za HR2).2 (Za HZ) hap)
      have ey:y≠0→(doD ht (K2,C2) (th,I,O)).1=y:=fun q=>by
       have hnm:Bk.nameR K2 (txT (th,I,O))=(K3,n3,0):=by
        have h1:=(Za HE3)
        unfold Bk.nameR
        rw[if_pos ((Bk.right_iff K2).2 (Za HR2).1),L7 (Za HZ)]
        exact Za HNM
       unfold doD
       rw[if_neg (fun q=>q (Za HZ)),if_neg (by show ¬I.length=0;rw[Za HNI];exact hn0)]
       simp only[hnm,hap]
       rw[if_neg (fun q=>q rfl),if_pos q]
      have HDA:=Zb DA
      have HEY:=Zb ey
      clear DA hap hd ey
      go_wp2_with fail
      refine (Za CA).mono ?_
      rintro e w5 ⟨am,mn,mc,ra,rn,rc,rfl,-,-,-,-,hb5⟩
      obtain⟨Y,hY⟩:∃ Y,Y=w5.alloc (.cells #[.slice ra rn rc] 130):=⟨_,rfl⟩
      have hbY:Below w5.heap.size w5 Y:=by rw[hY];exact Zf _ _
      have hb5Y:=Ze hb5 hbY
      have HBY:=Zb (Ze (Za HB4) hb5Y)
      have HRY:=Zb (Ze (Za HR4) hb5Y)
      have XY:Hid (Y.heap[w.heap.size]? = some (.cells [.int .i64 th,.slice ai ni ci,.slice ao no co].toArray 52 (0,0))):=(hb5Y.block _ (lt_of_block (Za X4))).trans (Za X4)
      have HT5:=Zb (⟨(Za HT4).1.later hb5Y,(Za HT4).2⟩:Bk.TextsAt Y b4 b4n K3∧Bk.SlOk b4 b4n b4c)
      clear hb5 hbY hb5Y CA X4 HT4 HB4 HR4 m0 m1 m2 ml
      go_upto_region 17 with fail
      rw[←hY]
      clear hY
      have m0:=Zd (Za XY) 0 _ rfl
      have m1:=Zd (Za XY) 1 _ rfl
      have m2:=Zd (Za XY) 2 _ rfl
      have ml:=lt_of_block (Za XY)
      by_cases hy:y=0
      ·subst hy
       have DO:=(Za HDA).2 rfl
       by_cases h8:k=8
       ·have h8I:(8:Int)≤(k:Int):=by omega
        have HF:Hid (Tt w Y x K1 P1 (.returned (.tuple #[.slice none 0 0,.slice none 0 0,.int .i64 12]))):=by
         refine U5 ?_ (Ze (Za HBX) (Za HBY))
         rw[Za HX2,DO,if_neg (by simp),if_pos (by rw[Za ZS];exact h8)]
        clear HX2 DO
        go_wp2
        (try simp only[Exit.inBlock,Exit.then])
        refine bodyPost_ret (v:=.tuple #[.slice none 0 0,.slice none 0 0,.int .i64 12]) ?_ rfl (Za HF)
        simp[results,Tryz.f27,go_sem]
       ·have h8I:¬((8:Int)≤(k:Int)):=by omega
        have HOK:Hid (x=0∧K1=K3∧P1=S++[(th,I,O)]):=by
         have q:=Za HX2
         rw[DO,if_neg (by simp),if_neg (by rw[Za ZS];exact h8)] at q
         obtain⟨q1,q2⟩:=Prod.mk.inj q
         obtain⟨q2,q3⟩:=Prod.mk.inj q2
         exact⟨q1,q2,q3⟩
        have CL:=Zb (fun V (hv:Below Y.heap.size Y V)=>Tr.cloneTx_any sa k sc S wr V (by omega) (Za HS2).1 (Ze (Za HRY) hv) (Za HS2).2)
        have HTX:Hid (∀ V,Below Y.heap.size Y V→Tr.txR.C V [.int .i64 th,.slice ai ni ci,.slice ao no co] (th,I,O)):=fun V hv=>⟨ai,ni,ci,ao,no,co,rfl,((Za HD) V (Ze (Za HBY) hv)).2.1,(Za HSI).1,((Za HD) V (Ze (Za HBY) hv)).2.2,(Za HSI).2⟩
        clear DO HX2
        go_upto_region 21 with fail
        have KS:Hid (∀ U,Below Y.heap.size Y U→U.cell? ⟨w.heap.size,0,none⟩=some (.int .i64 th)∧U.cell? ⟨w.heap.size,1,none⟩=some (.slice ai ni ci)∧U.cell? ⟨w.heap.size,2,none⟩=some (.slice ao no co)∧w.heap.size<U.heap.size):=fun U hu=>⟨Zc hu (Zd (Za XY) 0 _ rfl),Zc hu (Zd (Za XY) 1 _ rfl),Zc hu (Zd (Za XY) 2 _ rfl),Nat.lt_of_lt_of_le (lt_of_block (Za XY)) hu.size⟩
        clear m0 m1 m2 ml
        refine wp_region_held_drew (S:=fun U=>U.cell? ⟨w.heap.size,0,none⟩=some (.int .i64 th)∧U.cell? ⟨w.heap.size,1,none⟩=some (.slice ai ni ci)∧U.cell? ⟨w.heap.size,2,none⟩=some (.slice ao no co)∧w.heap.size<U.heap.size) (by kernel_rfl) ((Za KS) _ (Zi _)) (fun Zih=>?_)
        refine tk 0 ⟨some 80,.move (.tmp 13),22, "second.go:524",#[],none⟩ ?_ rfl ?_ Zih ?_
        rotate_left
        ·(intro U hSw;obtain⟨e1,e2,e3,e4⟩:=hSw;go_simp;first|done|with_reducible rfl)
        (try simp only[Act.put,List.setIfInBounds_toArray,List.set_cons_zero,List.set_cons_succ])
        refine tk 1 ⟨some 81,.move (.tmp 14),48, "second.go:524",#[],none⟩ ?_ rfl ?_ Zih ?_
        rotate_left
        ·(intro U hSw;obtain⟨e1,e2,e3,e4⟩:=hSw;go_simp;first|done|with_reducible rfl)
        (try simp only[Act.put,List.setIfInBounds_toArray,List.set_cons_zero,List.set_cons_succ])
        refine tk 3 ⟨some 83,.load 52 (.tmp 8),52, "second.go:524",#[],none⟩ ?_ rfl ?_ Zih ?_
        rotate_left
        ·(intro U hSw;obtain⟨e1,e2,e3,e4⟩:=hSw;go_simp;first|done|with_reducible rfl)
        (try simp only[Act.put,List.setIfInBounds_toArray,List.set_cons_zero,List.set_cons_succ])
        refine wpAnyH_ready (rs:=[2,4]) (by kernel_rfl) (by simp) ?_
        refine AllReadyH.cons (o:=⟨some 82,.call { callee:=Callee.value (.func 64),args:=#[.tmp 81],argTypes:=#[48] },48, "second.go:524",#[⟨1,.data⟩],none⟩) rfl (fun KQ hK=>?_) (AllReadyH.cons (o:=⟨some 84,.buildSlice 48 1 #[(0,.tmp 83)],48, "second.go:524",#[⟨3,.data⟩],none⟩) rfl (fun KQ hK=>?_) AllReadyH.nil)
        refine Z5 (by kernel_rfl) 64 #[.slice sa k sc] (by kernel_rfl) ((Za CL) _ (Zi _)) ?_
        rintro e v6 ⟨v,Kl,rfl,hall,hown,hbc⟩
        refine⟨_,rfl,?_⟩
        have hb6:=Ze (Zi Y) hbc
        refine hK.out _ _ ((Za KS) _ hb6) (fun Zii=>?_)
        clear hK KQ Zih
        have Zih:=Zii
        clear Zii
        (try simp only[Act.put,List.setIfInBounds_toArray,List.set_cons_zero,List.set_cons_succ])
        refine wpAnyH_ready (rs:=[4]) (by kernel_rfl) (by simp) ?_
        refine AllReadyH.cons (o:=⟨some 84,.buildSlice 48 1 #[(0,.tmp 83)],48, "second.go:524",#[⟨3,.data⟩],none⟩) rfl (fun KQ hK=>?_) AllReadyH.nil
        go_simp
        obtain⟨VZ,hVZ⟩:∃ VZ,VZ=v6.alloc (.cells #[.int .i64 th,.slice ai ni ci,.slice ao no co] 52):=⟨_,rfl⟩
        rw[←hVZ]
        obtain⟨g10,hg10⟩:∃ g,g=v6.heap.size:=⟨_,rfl⟩
        rw[←hg10]
        have h10:VZ.heap[g10]? = some (.cells [.int .i64 th,.slice ai ni ci,.slice ao no co].toArray 52 (0,0)):=by rw[hVZ,hg10];exact Zk _ _ _ _ _
        have hbZ:Below Y.heap.size Y VZ:=by rw[hVZ];exact Ze hb6 (Zf _ _)
        have OWZ:VZ.ownsRow Y.heap.size 52 3 v k Kl.flatten:=by rw[hVZ];exact hown.alloc _
        clear hVZ hg10 hb6 hbc hown
        refine hK.out _ _ ((Za KS) _ hbZ) (fun Zii=>?_)
        clear hK KQ Zih
        have Zih:=Zii
        clear Zii
        (try simp only[Act.put,List.setIfInBounds_toArray,List.set_cons_zero,List.set_cons_succ])
        rotate_left
        go_simp
        obtain⟨WA,hWA⟩:∃ WA,WA=Y.drew.alloc (.cells #[.int .i64 th,.slice ai ni ci,.slice ao no co] 52):=⟨_,rfl⟩
        (first|rw[←hWA]|(rw[show (Y.alloc (.cells #[.int .i64 th,.slice ai ni ci,.slice ao no co] 52)).drew=WA from hWA.symm]))
        obtain⟨g10,hg10⟩:∃ g,g=Y.heap.size:=⟨_,rfl⟩
        rw[←hg10]
        have h10a:WA.heap[g10]? = some (.cells [.int .i64 th,.slice ai ni ci,.slice ao no co].toArray 52 (0,0)):=by rw[hWA,hg10];exact Zk Y.drew _ _ _ _
        have hbA:Below Y.heap.size Y WA:=by rw[hWA];exact Ze (Zi Y) (Zf _ _)
        clear hWA hg10
        refine hK.out _ _ ((Za KS) _ hbA) (fun Zii=>?_)
        clear hK KQ Zih
        have Zih:=Zii
        clear Zii
        (try simp only[Act.put,List.setIfInBounds_toArray,List.set_cons_zero,List.set_cons_succ])
        refine wpAnyH_ready (rs:=[2]) (by kernel_rfl) (by simp) ?_
        refine AllReadyH.cons (o:=⟨some 82,.call { callee:=Callee.value (.func 64),args:=#[.tmp 81],argTypes:=#[48] },48, "second.go:524",#[⟨1,.data⟩],none⟩) rfl (fun KQ hK=>?_) AllReadyH.nil
        refine Z5 (by kernel_rfl) 64 #[.slice sa k sc] (by kernel_rfl) ((Za CL) _ hbA) ?_
        rintro e VZ ⟨v,Kl,rfl,hall,hown,hbc⟩
        refine⟨_,rfl,?_⟩
        have hbZ:=Ze hbA hbc
        have h10:=(hbc.block _ (lt_of_block h10a)).trans h10a
        have OWZ:VZ.ownsRow Y.heap.size 52 3 v k Kl.flatten:=by
         obtain⟨q1,q2⟩:=hown
         refine⟨q1,q2.imp id ?_⟩
         rintro ⟨g,cap,cur,r1,r2,r3⟩
         exact⟨g,cap,cur,r1,Nat.le_trans hbA.size r2,r3⟩
        clear h10a hbA hbc hown
        refine hK.out _ _ ((Za KS) _ hbZ) (fun Zii=>?_)
        clear hK KQ Zih
        have Zih:=Zii
        clear Zii
        (try simp only[Act.put,List.setIfInBounds_toArray,List.set_cons_zero,List.set_cons_succ])
        rotate_left
        all_goals
         refine wpAnyH_ready (rs:=[5]) (by kernel_rfl) (by simp) ?_
         refine AllReadyH.cons (o:=⟨some 85,.call { callee:=Callee.builtin Builtin.append,args:=#[.tmp 82,.tmp 84],argTypes:=#[48,48] },48, "second.go:524",#[⟨2,.data⟩,⟨4,.data⟩,⟨2,.chain⟩],none⟩) rfl (fun KQ hK=>?_) AllReadyH.nil
         refine step_append_lies _ (by rfl) _ _ _ (by rfl) Y.heap.size 52 i1 _ 3 56 Tryz.underlying48 ii iz0 iz1 iz2 rfl (by decide) v k Kl.flatten (by rfl) OWZ ⟨g10,0,none⟩ 1 1 [.int .i64 th,.slice ai ni ci,.slice ao no co] (by rfl) (by rfl) (World.news_of_block (cs:=#[.int .i64 th,.slice ai ni ci,.slice ao no co]) (t:=52) (fr:=(0,0)) h10) (by simp[Value.oneCell']) (by decide) (by unfold maxLen;omega) (by omega) hbZ.size VZ.heap.size rfl ?_
         intro gb7 cap7 w7 hown7 hgrow7 hor7 _
         have hb7:Below Y.heap.size Y w7:=hbZ.grown hgrow7 hbZ.size (fun q e=>(OWZ.lt q e).1)
         refine hK.out _ _ ((Za KS) _ hb7) (fun Zii=>?_)
         clear hK KQ Zih
         have Zih:=Zii
         clear Zii
         (try simp only[Act.put,List.setIfInBounds_toArray,List.set_cons_zero,List.set_cons_succ])
         refine tk 6 ⟨some 10,.assign (.tmp 80),22, "second.go:524",#[⟨0,.data⟩,⟨5,.chain⟩,⟨0,.phase⟩,⟨1,.textOnly .lateStores⟩,⟨2,.textOnly .lateStoresUnsure⟩,⟨3,.textOnly .lateStores⟩,⟨4,.textOnly .lateStores⟩,⟨5,.textOnly .lateStoresUnsure⟩],none⟩ ?_ rfl ?_ Zih ?_
         rotate_left
         ·(intro U hSw;obtain⟨e1,e2,e3,e4⟩:=hSw;go_simp;first|done|with_reducible rfl)
         (try simp only[Act.put,List.setIfInBounds_toArray,List.set_cons_zero,List.set_cons_succ])
         refine tk 7 ⟨some 11,.assign (.tmp 85),48, "second.go:524",#[⟨5,.data⟩,⟨6,.chain⟩,⟨0,.phase⟩,⟨1,.phase⟩,⟨2,.phase⟩,⟨3,.phase⟩,⟨4,.phase⟩,⟨5,.phase⟩,⟨6,.phase⟩],none⟩ ?_ rfl ?_ Zih ?_
         rotate_left
         ·(intro U hSw;obtain⟨e1,e2,e3,e4⟩:=hSw;go_simp;first|done|with_reducible rfl)
         (try simp only[Act.put,List.setIfInBounds_toArray,List.set_cons_zero,List.set_cons_succ])
         refine tk 8 ⟨some 12,.assign (.const (Value.int IntKind.i64 0)),30, "second.go:524",#[⟨7,.chain⟩,⟨0,.phase⟩,⟨1,.phase⟩,⟨2,.phase⟩,⟨3,.phase⟩,⟨4,.phase⟩,⟨5,.phase⟩,⟨6,.phase⟩,⟨7,.phase⟩],none⟩ ?_ rfl ?_ Zih ?_
         rotate_left
         ·(intro U hSw;obtain⟨e1,e2,e3,e4⟩:=hSw;go_simp;first|done|with_reducible rfl)
         (try simp only[Act.put,List.setIfInBounds_toArray,List.set_cons_zero,List.set_cons_succ])
         refine wpAnyH_done (by kernel_rfl) ?_ _
         have HF:Hid (Tt w w7 x K1 P1 (.returned (.tuple #[.slice b4 b4n b4c,.slice (some ⟨gb7,0,none⟩) (k+1) cap7,.int .i64 0]))):=by
          obtain⟨e1,e2,e3⟩:=Za HOK
          subst e1 e2 e3
          have hA7:Tr.AllC Tr.txR w7 (Kl++[[.int .i64 th,.slice ai ni ci,.slice ao no co]]) (S++[(th,I,O)]):=Tr.AllC.snoc (hall.later (Ze (Za HRY) hb7)) ((Za HTX) w7 hb7)
          have hO7:w7.ownsRow Y.heap.size 52 3 (.slice (some ⟨gb7,0,none⟩) (k+1) cap7) (k+1) (Kl++([[.int .i64 th,.slice ai ni ci,.slice ao no co]]:List (List Value))).flatten:=by rw[List.flatten_append,List.flatten_singleton];exact hown7
          obtain⟨pa,pc,e,hp,sp⟩:=Tr.rows_of_own Tr.txR hO7 hA7 (by rw[List.length_append,List.length_singleton,Za ZS])
          cases e
          exact⟨b4,b4n,b4c,_,_,_,rfl,(Za HT5).1.later hb7,(Za HT5).2,hp,sp,Ze (Za HBX) (Ze (Za HBY) hb7)⟩
         clear Zih
         go_wp2
         (try simp only[Exit.inBlock,Exit.then])
         refine bodyPost_ret (v:=.tuple #[.slice b4 b4n b4c,.slice (some ⟨gb7,0,none⟩) (k+1) cap7,.int .i64 0]) ?_ rfl (Za HF)
         simp[results,Tryz.f27,go_sem]
      ·have hyb:(y != 0)=true:=by simp[hy]
       have HF:Hid (Tt w Y x K1 P1 (.returned (.tuple #[.slice none 0 0,.slice none 0 0,.int .i64 y]))):=by
        refine U5 ?_ (Ze (Za HBX) (Za HBY))
        rw[Za HX2,(Za HEY) hy,if_pos hy]
       clear HX2
       go_wp2
       (try simp only[Exit.inBlock,Exit.then])
       refine bodyPost_ret (v:=.tuple #[.slice none 0 0,.slice none 0 0,.int .i64 y]) ?_ rfl (Za HF)
       simp[results,Tryz.f27,go_sem]
     ·have hxb:(x3 != 0)=true:=by simp[hx3]
      have HF:Hid (Tt w w4 x K1 P1 (.returned (.tuple #[.slice none 0 0,.slice none 0 0,.int .i64 x3]))):=by
       refine U5 ?_ (Ze (Za HBX) (Za HB4))
       rw[Za HX2,(Za HE3) hx3,if_pos hx3]
      clear HX2
      go_wp2
      (try simp only[Exit.inBlock,Exit.then])
      refine bodyPost_ret (v:=.tuple #[.slice none 0 0,.slice none 0 0,.int .i64 x3]) ?_ rfl (Za HF)
      simp[results,Tryz.f27,go_sem]
   ·have hzb:(z != 0)=true:=by simp[hz0]
    have HF:Hid (Tt w w2 x K1 P1 (.returned (.tuple #[.slice none 0 0,.slice none 0 0,.int .i64 z]))):=by
     refine U5 ?_ (Ze (Za HBX) (Za HB2))
     have e:(doD ht (K2,C2) (th,I,O)).1=z:=by unfold doD;rw[if_pos (by rw[hz];exact hz0)];exact hz
     rw[Za HX2,e,if_pos hz0]
    clear HX2
    go_wp2
    (try simp only[Exit.inBlock,Exit.then])
    refine bodyPost_ret (v:=.tuple #[.slice none 0 0,.slice none 0 0,.int .i64 z]) ?_ rfl (Za HF)
    simp[results,Tryz.f27,go_sem]
theorem Gu(ka:Option Addr)(kn kc:Nat)(K:List ByteArray)(la:Option Addr)(ln lc:Nat)(C:List Zg)(a:Option Addr)(m c:Nat)(T:List TxD)(h x:Int)(w:World)(hK:Bk.TextsAt w ka kn K)(hC:CoinsAt w la ln C)(hT:T.length=m)(hx:swE K C T h=x) :
  Calls Tryz.prog 21 #[.agg #[.slice ka kn kc],.slice la ln lc,.slice a m c,.int .i64 h] w fun e w'=>e = .returned (.int .i64 x)∧Below w.heap.size w w':=by
 obtain⟨X,hX⟩:∃ X,X=w.alloc (.cells #[.slice ka kn kc] 24):=⟨_,rfl⟩
 have hbX:Below w.heap.size w X:=by rw[hX];exact Zf _ _
 have hX0:X.heap[w.heap.size]? = some (.cells [.slice ka kn kc].toArray 24 (0,0)):=by rw[hX];exact heap_alloc_new _ _
 obtain⟨y,hy⟩:∃ y,Bk.bkChk K=y:=⟨_,rfl⟩
 obtain⟨z,hz⟩:∃ z,Yi C=z:=⟨_,rfl⟩
 have C1:=Zb (Bk.rcheck_is ka kn kc K X (hK.later hbX) y hy)
 have C2:=Zb (fun V (hv:Below X.heap.size X V)=>Re la ln lc C z V (hC.later (Ze hbX hv)) hz)
 have HX:Hid (x=if (if y≠0 then y else if z≠0 then z else if (decide (1≤h) && decide (h≤1000))=false then 3 else 0)≠0 then (if y≠0 then y else if z≠0 then z else if (decide (1≤h) && decide (h≤1000))=false then 3 else 0) else if 8<m then 2 else 0):=by
  show _=_
  rw[←hx]
  unfold swE Tb
  rw[hy,hz,hT]
 have HB:=Zb hbX
 have c0:=Zd hX0 0 _ rfl
 have cl:=lt_of_block hX0
 clear hx hK hC hT hy hz hbX hX0
 go_enter Tryz.func21,Tryz.ntmps21
 go_wp2_with fail
 rw[←hX]
 clear hX
 (try go_wp2_with fail)
 refine (Za C1).mono ?_
 rintro e w1 ⟨rfl,hb1⟩
 have HB1:=Zb (Ze (Za HB) hb1)
 have D2:=Zb ((Za C2) w1 hb1)
 clear C1 C2 hb1 c0 cl HB
 by_cases y0:y=0
 ·subst y0
  go_wp2_with fail
  refine (Za D2).mono ?_
  rintro e w2 ⟨rfl,hb2⟩
  have HB2:=Zb (Ze (Za HB1) hb2)
  clear D2 hb2
  by_cases z0:z=0
  ·subst z0
   by_cases h1:h<1
   ·have HE:Hid (x=3):=by have q:=Za HX;show x=_;simpa[show ¬(1≤h) by omega] using q
    clear HX
    go_wp2
    go_ret
    exact⟨by rw[Za HE];rfl,Za HB2⟩
   ·by_cases h2:1000<h
    ·have HE:Hid (x=3):=by have q:=Za HX;show x=_;simpa[show ¬(h≤1000) by omega] using q
     clear HX
     go_wp2
     go_ret
     exact⟨by rw[Za HE];rfl,Za HB2⟩
    ·by_cases m8:8<m
     ·have hmi:(8:Int)<(m:Int):=by omega
      have HE:Hid (x=2):=by have q:=Za HX;show x=_;simpa[show 1≤h by omega,show h≤1000 by omega,m8] using q
      clear HX
      go_wp2
      go_ret
      exact⟨by rw[Za HE];rfl,Za HB2⟩
     ·have hmi:¬((8:Int)<(m:Int)):=by omega
      have HE:Hid (x=0):=by have q:=Za HX;show x=_;simpa[show 1≤h by omega,show h≤1000 by omega,m8] using q
      clear HX
      go_wp2
      go_ret
      exact⟨by rw[Za HE];rfl,Za HB2⟩
  ·have HE:Hid (x=z):=by have q:=Za HX;simp only[z0,ne_eq,not_true_eq_false,not_false_eq_true,if_true,if_false] at q;exact q
   have zb:(z != 0)=true:=by simp[z0]
   clear HX
   go_wp2
   go_ret
   exact⟨by rw[Za HE];rfl,Za HB2⟩
 ·have HE:Hid (x=y):=by have q:=Za HX;simp only[y0,ne_eq,not_false_eq_true,if_true] at q;exact q
  have yb:(y != 0)=true:=by simp[y0]
  clear HX
  go_wp2
  go_ret
  exact⟨by rw[Za HE];rfl,Za HB1⟩
instance decTx:DecidableEq TxD:=fun a b=>decidable_of_iff (Xr a b=true) (Tx a b)
theorem Em(t u:TxD):Xr t u=decide (t=u):=by
 by_cases h:t=u
 ·rw[decide_eq_true h];exact (Tx t u).2 h
 ·rw[decide_eq_false h]
  cases q:Xr t u with
  | false=>rfl
  | true=>exact absurd ((Tx t u).1 q) h
theorem Nz(b1 o1 b2 o2 n c d:Nat)(l k:List TxD)(o:Bool)(w:World)(hn:n≤maxLen)(z1:l.length=n)(z2:k.length=n)
  (h1:∀ i (h:i<l.length),TxAt w b1 (o1+i*3) l[i]) (h2:∀ i (h:i<k.length),TxAt w b2 (o2+i*3) k[i]) (ho:decide (l=k)=o) :
  Calls Tryz.prog 25 #[.slice (some ⟨b1,o1,none⟩) n c,.slice (some ⟨b2,o2,none⟩) n d,.func (.func 26) #[] #[]] w fun e w'=>e = .returned (.bool o)∧Below w.heap.size w w':=by
 subst ho
 unfold maxLen at hn
 have H1:=Zb h1
 have H2:=Zb h2
 have Z1:=Zb z1
 have Z2:=Zb z2
 clear h1 h2 z1 z2
 go_enter Tryz.func25,Tryz.ntmps25
 go_wp2
 go_loopw [17] (fun i wr=>∃ j:Nat,j≤n∧i = .int .i64 j∧Below w.heap.size w wr∧Hid (l.take j=k.take j)) (fun i _=>n - (intOf i).toNat)
 case atStart=>exact⟨0,Nat.zero_le _,rfl,Below.refl _ _,rfl⟩
 case round=>
  obtain⟨j,hk,rfl,hb,A⟩:=hrel
  have HB:=Zb hb
  by_cases hlt:j<n
  ·have hl1:j<l.length:=by rw[Za Z1];exact hlt
   have hl2:j<k.length:=by rw[Za Z2];exact hlt
   have g:=TxAt.kept _ _ _ _ _ hb ((Za H1) j hl1)
   have f:=TxAt.kept _ _ _ _ _ hb ((Za H2) j hl2)
   have TS:=Zb (Va hl1 hl2 (Za A))
   have TU:=Zb (Xv hl1 hl2)
   obtain⟨q,hq⟩:∃ q,l[j]=q:=⟨_,rfl⟩
   obtain⟨r,hr⟩:∃ r,k[j]=r:=⟨_,rfl⟩
   rw[hq] at g
   rw[hr] at f
   rw[hq,hr] at TS TU
   obtain⟨q1,qI,qO⟩:=q
   obtain⟨r1,rI,rO⟩:=r
   obtain⟨g1,⟨qa,qn,qc,g2,gh4,gh5⟩,qb,qm,qd,g3,gh6,gh7⟩:=g
   obtain⟨f1,⟨ra,rn,rc,f2,fh4,fh5⟩,rb,rm,rd,f3,fh6,fh7⟩:=f
   simp only at g1 g2 g3 gh4 gh6 gh5 gh7 f1 f2 f3 fh4 fh6 fh5 fh7
   have lt2:b2<wr.heap.size:=World.block_lt_of_cell? _ _ f1
   have hb2:=Ze (Zf wr (.cells #[.int .i64 q1,.slice qa qn qc,.slice qb qm qd] 52)) (Zf _ (.cells #[.int .i64 r1,.slice ra rn rc,.slice rb rm rd] 52))
   have HB2:=Zb hb2
   have C:Hid (∀ o,decide (((q1,qI,qO):TxD)=(r1,rI,rO))=o→Calls Tryz.prog 26 #[.agg #[.int .i64 q1,.slice qa qn qc,.slice qb qm qd],.agg #[.int .i64 r1,.slice ra rn rc,.slice rb rm rd]] ((wr.alloc (.cells #[.int .i64 q1,.slice qa qn qc,.slice qb qm qd] 52)).alloc (.cells #[.int .i64 r1,.slice ra rn rc,.slice rb rm rd] 52)) fun e w'=>e = .returned (.bool o)∧Below _ _ w'):=
    fun o ho=>Gs q1 r1 qa qb ra rb qn qc qm qd rn rc rm rd qI rI qO rO o _ gh5.len gh7.len (gh4.later hb2) (gh6.later hb2) (fh4.later hb2) (fh6.later hb2) ((Em _ _).trans ho)
   clear hq hr A hb hb2 gh4 gh6 gh5 gh7 fh4 fh6 fh5 fh7
   by_cases he:((q1,qI,qO):TxD)=(r1,rI,rO)
   ·have T:=Zb ((Za TS) he)
    have C2:=Zb ((Za C) true (decide_eq_true he))
    clear TS TU C he
    go_wp2_with fail
    refine (Za C2).mono ?_
    rintro e w3 ⟨rfl,hb3⟩
    have HB3:=Zb (Ze (Ze (Za HB) (Za HB2)) hb3)
    clear hb3
    go_wp2
    go_roundw
    case rel=>exact⟨j+1,by omega,by go_num,Za HB3,T⟩
    case measure=>simp[intOf];omega
   ·have U:Hid (decide (l=k)=false):=decide_eq_false ((Za TU) he)
    have C2:=Zb ((Za C) false (decide_eq_false he))
    clear TS TU C he
    go_wp2_with fail
    refine (Za C2).mono ?_
    rintro e w3 ⟨rfl,hb3⟩
    have HB3:=Zb (Ze (Ze (Za HB) (Za HB2)) hb3)
    clear hb3
    go_wp2
    go_ret
    exact⟨by rw[Za U];rfl,Za HB3⟩
  ·have U:Hid (decide (l=k)=true):=by
    have h:=Za A
    rw[List.take_of_length_le (by rw[Za Z1];omega),List.take_of_length_le (by rw[Za Z2];omega)] at h
    exact decide_eq_true h
   clear A hb
   go_wp2
   go_ret
   exact⟨by rw[Za U];rfl,Za HB⟩
theorem N6(a b:Option Addr)(n m c d:Nat)(v:Value)(w:World)(h:n≠m) :
  Calls Tryz.prog 25 #[.slice a n c,.slice b m d,v] w fun e w'=>e = .returned (.bool false)∧w=w':=by
 have g:((n:Int) != (m:Int))=true:=by simp;omega
 clear h
 go_enter Tryz.func25,Tryz.ntmps25
 go_wp2
 go_ret
 exact⟨rfl,rfl⟩
theorem N5(a b:Option Addr)(c d:Nat)(v:Value)(w:World) :
  Calls Tryz.prog 25 #[.slice a 0 c,.slice b 0 d,v] w fun e w'=>e = .returned (.bool true)∧w=w':=by
 go_enter Tryz.func25,Tryz.ntmps25
 go_wp2
 refine wp_loop_rounds 1 ?_
 rw[rounds_succ]
 go_wp2
 go_ret
 exact⟨rfl,rfl⟩
theorem Le(a b:Option Addr)(n m c d:Nat)(l k:List TxD)(o:Bool)(w:World)(hn:n≤maxLen)(hA:RowsAt TxAt 3 w a n l)(hB:RowsAt TxAt 3 w b m k)(ho:decide (l=k)=o) :
  Calls Tryz.prog 25 #[.slice a n c,.slice b m d,.func (.func 26) #[] #[]] w fun e w'=>e = .returned (.bool o)∧Below w.heap.size w w':=by
 by_cases h:n=m
 ·subst h
  by_cases h0:n=0
  ·subst h0
   have e1:l=[]:=List.length_eq_zero_iff.1 hA.1
   have e2:k=[]:=List.length_eq_zero_iff.1 hB.1
   subst e1 e2
   rw[decide_eq_true rfl] at ho
   subst ho
   exact (N5 a b c d _ w).mono fun e w' ⟨h1,h2⟩=>⟨h1,h2 ▸ Below.refl _ _⟩
  ·obtain⟨b1,o1,rfl,_,h1⟩:=hA.2 (by omega)
   obtain⟨b2,o2,rfl,_,h2⟩:=hB.2 (by omega)
   exact Nz b1 o1 b2 o2 n c d l k o w hn hA.1 hB.1 h1 h2 ho
 ·have e:l≠k:=fun e=>h (by rw[←hA.1,←hB.1,e])
  rw[decide_eq_false e] at ho
  subst ho
  exact (N6 a b n m c d _ w h).mono fun e w' ⟨h1,h2⟩=>⟨h1,h2 ▸ Below.refl _ _⟩
end Go.Proofs.YtpikejjiignchaaGreatDoor
