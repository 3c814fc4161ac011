import Derived.Test.YtpikejjiignchaaGreatDoorG36
import Derived.Test.YtpikejjiignchaaGreatDoorG37
namespace Go.Proofs.YtpikejjiignchaaGreatDoor
open Go.RowKit
theorem Zkx{h r:Int}(e:rwD h=(r,0)):0≤r∧r≤64:=by
 unfold rwD at e
 split at e
 ·injection e with e _
  have:=Pg ((h - 1).toNat / 8)
  omega
 ·injection e with _ e
  exact absurd e (by decide)
def upL(k:Nat):List Int:=(List.range k).map fun j=>((j+1:Nat):Int)
theorem Do(k:Nat):(upL k).length=k:=by simp[upL]
theorem Zey(k:Nat):upL (k+1)=upL k++[(k:Int)+1]:=by simp[upL,List.range_succ]
theorem Zkr{m i:Nat}(h:i<m):(upL (m - 1)++[0]).getD i 0=(((i+1) % m:Nat):Int):=by
 rw[List.getD_eq_getElem?_getD]
 by_cases q:i<m - 1
 ·rw[List.getElem?_append_left (by rw[Do];exact q)]
  rw[Nat.mod_eq_of_lt (by omega)]
  simp[upL,q]
 ·obtain rfl:i=m - 1:=by omega
  rw[List.getElem?_append_right (by rw[Do];exact Nat.le_refl _),Do,Nat.sub_self,show m - 1+1=m by omega,Nat.mod_self]
  rfl
set_option maxRecDepth 10000 in
set_option maxHeartbeats 12800000 in
theorem Zde(ka:Option Addr)(kn kc:Nat)(K:List ByteArray)(la:Option Addr)(ln lc:Nat)(C0:List Zf)(p ht k0 n:Int)(a:Option Addr)(m c:Nat)(T:List TxD)(X1:List ByteArray)(nm1:Int)(N:List Int)(r:Int)(x:Int)(C':List Zf)(S':List (List Zf))(w:World)(hE:EnvF w)(hK:Bk.TextsAt w ka kn K)(sK:Bk.SlOk ka kn kc)(hR:Bk.Right K)(hC:CoinsAt w la ln C0)(sC:SlOk la ln lc)(hRC:Ye C0)(hT:TxsAt w a m T)(sT:SlOk a m c)(hnm:Qt K (p,ht,k0,n,T)=(X1,nm1,N,0))(hr:rwD ht=(r,0))(hx:Wg ht r T N m 0 C0 (List.replicate m [])=(x,C',S')) :
  Calls Tryz.prog 41 #[.slice ka kn kc,.slice la ln lc,.agg #[.int .i64 p,.int .i64 ht,.int .i64 k0,.int .i64 n,.slice a m c]] w fun e w'=>Zir w w' x C' S' e:=by
 obtain⟨X,hX⟩:∃ X,X=w.alloc (.cells #[.int .i64 p,.int .i64 ht,.int .i64 k0,.int .i64 n,.slice a m c] 68):=⟨_,rfl⟩
 have hbX:Below w.heap.size w X:=by rw[hX];exact Zg _ _
 have hXb:X.heap[w.heap.size]? = some (.cells [.int .i64 p,.int .i64 ht,.int .i64 k0,.int .i64 n,.slice a m c].toArray 68 (0,0)):=by rw[hX];exact Yd _ _ _ _ _ _ _
 have NF:=Zb (Nh ka kn kc K p ht k0 n a m c T X1 nm1 N 0 X (hE.later hbX) (hK.later hbX) sK hR (hT.later hbX) hnm)
 have hb0:=(Sk hnm).1
 obtain⟨hm0,hm4,hh1,hh2⟩:=Pb hb0
 have zT:T.length=m:=hT.1
 rw[show (p,ht,k0,n,T).2.2.2.2=T from rfl,zT] at hm0 hm4
 have zN:N.length=m:=by rw[(Sk hnm).2.2.2.2.1];simpa using zT
 have hck:∀ t∈T,Zo t=0:=(Un hb0).2.2.2.2
 obtain⟨i0,hi,hz0,hz1,hz2⟩:=info_parts Tryz.infoInt
 obtain⟨i1,ii,iz0,iz1,iz2⟩:=info_parts Tryz.infoUndo
 obtain⟨tb,tof,rfl,_,htc0⟩:=hT.2 hm0
 have x0:=Zd hXb 0 _ rfl
 have x1:=Zd hXb 1 _ rfl
 have x2:=Zd hXb 2 _ rfl
 have x3:=Zd hXb 3 _ rfl
 have x4:=Zd hXb 4 _ rfl
 have xl:=lt_of_block hXb
 have HBX:=Zb hbX
 have HXB:=Zb hXb
 have HC:=Zb (hC.later hbX)
 have HT:=Zb (hT.later hbX)
 have HCK:=Zb hck
 have HRC:=Zb hRC
 have HX:=Zb hx
 have ZT:=Zb zT
 have ZN:=Zb zN
 have HRW:=Zb hr
 have hmc:m≤c:=sT.1
 have hcm:c≤maxLen:=sT.2.1
 have HH:=Zb (And.intro hh1 hh2)
 clear hE hK sK hR hC hRC hT hnm hx hbX hXb hb0 hck zT zN hr hh1 hh2 htc0 sT
 go_enter Tryz.func41,Tryz.ntmps41
 go_wp2_with fail
 rw[←hX]
 clear hX
 (try go_wp2_with fail)
 refine (Za NF).mono ?_
 rintro e w1 ⟨a',n',c',na,nn,nc,rfl,_,_,hN,hb1⟩
 have y4:=Zc hb1 x4
 have yl:=World.block_lt_of_cell? _ _ y4
 have HN:=Zb hN
 have HB1:=Zb hb1
 have mi1:((1:Int)≤(m:Int)):=by omega
 clear hN hb1 NF x0 x1 x2 x3 x4 xl
 go_wp2_with (at_make;refine wpList_make_full _ rfl _ _ 79 rfl w1.heap.size 130 i1 (.agg #[.slice none 0 0]) 1 Tryz.underlying79 ii iz0 iz1 .i64 .i64 _ _ m rfl rfl rfl rfl (by rw[iz2];omega) (by unfold maxLen;omega) (Nat.le_refl _) ?_;intro w2 hown2 hgrow2;have hb2:Below w1.heap.size w1 w2:=(Below.refl _ _).grown hgrow2 (Nat.le_refl _) (fun k h=>by cases h);have z4:=Zc hb2 y4;have zl:=World.block_lt_of_cell? _ _ z4;have HB2:=Zb hb2;have HU2:Hid (UsAt 130 w1.heap.size (List.replicate m []) w2):=Zex (base:=w1.heap.size) (by rw[←Nr];exact hown2);clear hown2 hgrow2 hb2)
 all_goals
  obtain⟨V3,hV3⟩:∃ V,V=w2.alloc (.cells #[] 3):=⟨_,rfl⟩
  rw[←hV3]
  have hb3:Below w2.heap.size w2 V3:=by rw[hV3];exact Zg _ _
  have hYs:V3.heap[w2.heap.size]? = some (.cells #[] 3 (0,0)):=by rw[hV3];exact heap_alloc_new _ _
  have OW:Hid (V3.ownsRow w2.heap.size 3 1 (.slice (some ⟨w2.heap.size,0,none⟩) 0 0) 0 ((upL 0).map (Value.int .i64))):=by
   show World.ownsRow _ _ _ _ _ _ _
   exact⟨rfl,.inr ⟨w2.heap.size,0,_,rfl,Nat.le_refl _,hYs,Nat.le_refl _,by unfold maxLen;omega,rfl,rfl⟩⟩
  have HB3:=Zb hb3
  clear hV3 hYs hb3 z4 zl y4 yl mi1
  go_loopw [15,45] (fun ov iv wr=>∃ (k:Nat) (oc:Nat) (g:Nat),k≤m - 1∧ov = .slice (some ⟨g,0,none⟩) k oc∧iv = .int .i64 (k:Int)∧Hid (wr.ownsRow w2.heap.size 3 1 (.slice (some ⟨g,0,none⟩) k oc) k ((upL k).map (Value.int .i64)))∧Hid (Below w2.heap.size w2 wr)) (fun _ iv _=>m - 1 - (intOf iv).toNat)
  case atStart=>exact⟨0,0,w2.heap.size,Nat.zero_le _,rfl,rfl,OW,HB3⟩
  case round=>
   obtain⟨k,oc,g,hk,rfl,rfl,HO,HB⟩:=hrel
   clear OW HB3
   by_cases hlt:k<m - 1
   ·first
    | (exfalso;omega)
    |skip
     have hkI:(k:Int)<((m - 1:Nat):Int):=by omega
     have hbn:=Zg wr (.cells #[.int .i64 ((k:Int)+1)] 3)
     have OWN5:=Zb ((Gr.of (S:=fun _=>False) hbn).own (Za HO) (fun _ _ q=>q))
     have NEWS:=Zb (World.news_of_block (heap_alloc_new wr (.cells #[.int .i64 ((k:Int)+1)] 3)))
     have HB6:=Zb (Ze (Za HB) hbn)
     have hw1:IntKind.i64.wrap ((k:Int)+1)=((k:Int)+1):=by rw[IntKind.wrap_i64];omega
     clear hbn
     go_wp2_with (at_builtin;refine wpList_append_lies _ rfl _ _ 25 rfl w2.heap.size 3 i0 (.int .i64 0) 1 8 Tryz.underlying25 hi hz0 hz1 hz2 rfl (by decide) _ _ _ rfl (Za OWN5) ⟨wr.heap.size,0,none⟩ 1 1 [.int .i64 ((k:Int)+1)] rfl rfl (Za NEWS) (fun u hu=>by simp at hu;subst hu;rfl) (by decide) (by unfold maxLen;omega) (by omega) (Za HB6).size _ rfl ?_;intro g7 cap7 w7 hown7 hgrow7 hor7 _)
     have OWN7:Hid (w7.ownsRow w2.heap.size 3 1 (.slice (some ⟨g7,0,none⟩) (k+1) cap7) (k+1) ((upL (k+1)).map (Value.int .i64))):=by
      show World.ownsRow _ _ _ _ _ _ _
      rw[Zey,List.map_append]
      exact hown7
     have HB7:=Zb ((Za HB6).grown hgrow7 (Za HB6).size (fun k hk=>((Za OWN5).lt k hk).1))
     clear hown7 hgrow7 hor7
     go_wp2
     go_roundw
     case rel=>exact⟨k+1,cap7,g7,by omega,rfl,by go_num,OWN7,HB7⟩
     case measure=>simp[intOf];omega
   ·obtain rfl:k=m - 1:=by omega
    clear hk hlt
    have hbn:=Zg wr (.cells #[.int .i64 0] 3)
    have OWN5:=Zb ((Gr.of (S:=fun _=>False) hbn).own (Za HO) (fun _ _ q=>q))
    have NEWS:=Zb (World.news_of_block (heap_alloc_new wr (.cells #[.int .i64 0] 3)))
    have HB6:=Zb (Ze (Za HB) hbn)
    have hme:m - 1+1=m:=by omega
    clear hbn
    go_wp2_with (at_builtin;refine wpList_append_lies _ rfl _ _ 25 rfl w2.heap.size 3 i0 (.int .i64 0) 1 8 Tryz.underlying25 hi hz0 hz1 hz2 rfl (by decide) _ _ _ rfl (Za OWN5) ⟨wr.heap.size,0,none⟩ 1 1 [.int .i64 0] rfl rfl (Za NEWS) (fun u hu=>by simp at hu;subst hu;rfl) (by decide) (by unfold maxLen;omega) (by omega) (Za HB6).size _ rfl ?_;intro g7 cap7 Z hown7 hgrow7 hor7 _;rw[hme] at hown7 ⊢)
    have OWN7:Z.ownsRow w2.heap.size 3 1 (.slice (some ⟨g7,0,none⟩) m cap7) m ((upL (m - 1)++[0]).map (Value.int .i64)):=by
     rw[List.map_append]
     exact hown7
    have hbZ:Below w2.heap.size w2 Z:=(Za HB6).grown hgrow7 (Za HB6).size (fun k hk=>((Za OWN5).lt k hk).1)
    obtain⟨ra,rcap,hre,hrow⟩:=Kf OWN7
    cases hre
    obtain⟨rb,ro,hre,hrc⟩:=hrow.2.2 hm0
    cases hre
    have g0l:w1.heap.size<w2.heap.size:=(Za HU2).ok.lt
    have g7b:w2.heap.size≤g7:=by
     obtain⟨_,_,e,_,q⟩:=Kr OWN7
     cases e
     obtain⟨g,e,q,_⟩:=q hm0
     cases e
     exact q
    have ROWC:Hid (∀ V,Gr Z V (fun q=>q=w1.heap.size)→∀ i,i<m→V.cell? ⟨g7,i,none⟩=some (.int .i64 (((i+1) % m:Nat):Int))):=fun V hg i hi=>by
     have q:=hrc i hi
     rw[Nat.zero_add,Zkr hi] at q
     exact (World.cell?_of_block (a:=⟨g7,i,none⟩) (hg.block g7 (World.block_lt_of_cell? _ _ q) (by omega))).trans q
    have HU3:=Zb ((Za HU2).later hbZ)
    have GB:Hid (∀ V,Gr Z V (fun q=>q=w1.heap.size)→Below w1.heap.size w1 V):=fun V g=>g.below (Ze (Za HB2) hbZ) (by have:=hbZ.size;omega) (fun q e=>by rw[e];exact Nat.le_refl _)
    have FE0:=Zb (Zai (Za ZT))
    have HC3:Hid (CoinsAt Z la ln C0):=(Za HC).later (Ze (Za HB1) ((Za GB) Z (Gr.refl _ _)))
    have FEW0:Hid (∀ s∈List.replicate m ([]:List Zf),s.length≤6∧∀ x∈s,0≤cv x∧cv x≤1000000000):=fun s hs=>by rw[(List.mem_replicate.1 hs).2];exact⟨by simp,fun x hx=>by cases hx⟩
    clear hown7 OWN7 hgrow7 hor7 hrow hrc hbZ OWN5 NEWS HB6 HB HO HU2 hi hz0 hz1 hz2 ii iz0 iz1 iz2 hme HC
    go_loopw [1,14,58] (fun lv fv iv V=>∃ (k:Nat) (oa:Option Addr) (oon oc:Nat) (C:List Zf) (S:List (List Zf)) (F:Int),k≤m∧lv = .slice oa oon oc∧fv = .int .i64 F∧iv = .int .i64 k∧Hid (CoinsAt V oa oon C∧SlOk oa oon oc∧Ye C)∧Hid (UsAt 130 w1.heap.size S V)∧Hid (S.length=m)∧Hid (Uz T S m k F)∧Hid (Wg ht r T N (m - k) k C S=(x,C',S'))∧Hid (Gr Z V (fun q=>q=w1.heap.size))) (fun _ _ iv _=>m - (intOf iv).toNat)
    case atStart=>exact⟨0,la,ln,lc,C0,List.replicate m [],0,Nat.zero_le _,rfl,rfl,rfl,(⟨Za HC3,sC,Za HRC⟩:CoinsAt Z la ln C0∧SlOk la ln lc∧Ye C0),HU3,(List.length_replicate:(List.replicate m ([]:List Zf)).length=m),FE0,HX,(Gr.refl _ _:Gr Z Z (fun q=>q=w1.heap.size))⟩
    case round=>
     obtain⟨k,oa,oon,oc,C,S,F,hk,rfl,rfl,rfl,HO,HU,HSL,HF,HQ,HG⟩:=hrel
     clear HX HU3 HC3 HRC FE0 FEW0
     by_cases hlt:k<m
     ·have hil:(k+1) % m<m:=Nat.mod_lt _ hm0
      have hkI:(k:Int)<(m:Int):=by omega
      have ok:=(Za ROWC) wr (Za HG) k hlt
      have okl:=World.block_lt_of_cell? _ _ ok
      obtain⟨i,hi⟩:∃ i,(k+1) % m=i:=⟨_,rfl⟩
      rw[hi] at hil ok
      have hmk:m - k=(m - (k+1))+1:=by omega
      have hiT:i<T.length:=by rw[Za ZT];exact hil
      have hiN:i<N.length:=by rw[Za ZN];exact hil
      obtain⟨t1,I,O,htx⟩:∃ t1 I O,T[i]=(t1,I,O):=⟨_,_,_,rfl⟩
      obtain⟨nm,hnm⟩:∃ nm,N[i]=nm:=⟨_,rfl⟩
      obtain⟨y,M,s,hap⟩:∃ y M s,apD C (t1,I,O) nm ht=(y,M,s):=⟨_,_,_,rfl⟩
      have HTG:Hid (T.getD i Uc=(t1,I,O)):=by show _=_;rw[List.getD_eq_getElem?_getD,List.getElem?_eq_getElem hiT];exact htx
      have HEQ:=Za HQ
      rw[hmk,Lv (i:=i) (by rw[Za ZT];exact hi) (t:=(t1,I,O)) (Za HTG) (nm:=nm) (by rw[List.getD_eq_getElem?_getD,List.getElem?_eq_getElem hiN];exact hnm) hap,Za ZT] at HEQ
      have HEQ:=Zb HEQ
      have HBV:Hid (∀ V,Gr Z V (fun q=>q=w1.heap.size)→Below X.heap.size X V):=fun V g=>Ze (Za HB1) ((Za GB) V g)
      have hBw:=(Za HBV) wr (Za HG)
      obtain⟨tb',tof',e,_,htc⟩:=(Za HT).2 hm0
      cases e
      have tc:=TxAt.kept _ _ _ _ _ hBw (htc i hiT)
      have hck:=(Za HCK) T[i] (List.getElem_mem hiT)
      rw[htx] at tc hck
      obtain⟨c0,⟨ai,ni,ci,c1,hIn,sIn⟩,ao,no2,co,c2,hOut,sOut⟩:=tc
      have hnn:nn=m:=(Za HN).1.symm.trans (Za ZN)
      obtain⟨nb,no,rfl,hcn⟩:=(Za HN).2 (by omega)
      have c4:=Zc ((Za GB) wr (Za HG)) (hcn i hiN)
      rw[hnm] at c4
      simp only at c0 c1 c2 hIn hOut
      have hxb:=(hBw.block _ (lt_of_block (Za HXB))).trans (Za HXB)
      have v1:=Zd hxb 1 _ rfl
      have v4:=Zd hxb 4 _ rfl
      have HAP:=Zb hap
      have HCK2:=Zb hck
      have HI:=Zb hi
      have HIN:Hid (InsAt wr ai ni I):=hIn
      have HOUT:Hid (OutsAt wr ao no2 O):=hOut
      have hiI:(i:Int)<(m:Int):=by omega
      have hi0:¬((i:Int)<0):=by omega
      have g0w:w1.heap.size<wr.heap.size:=(Za HU).ok.lt
      subst hnn
      clear hap hck hi hIn hOut hBw htc hcn hxb htx hnm sIn sOut HQ hmk
      by_cases hi1:i=0
      ·have hie:((i:Int) == 0)=true:=by simp[hi1]
       have hiN0:¬((0:Int)<(i:Int)):=by omega
       have hm0I:(0:Int)<(nn:Int):=by omega
       have d2:wr.cell? ⟨tb,tof+2,none⟩=some (.slice ao no2 co):=by have:=c2;rw[hi1,Nat.zero_mul,Nat.add_zero] at this;exact this
       have tbl:=World.block_lt_of_cell? _ _ d2
       have vl:=World.block_lt_of_cell? _ _ v4
       have HI1:=Zb hi1
       have HT0:Hid ((T.getD 0 Uc).2.2=O):=by show _=_;have:=Za HTG;rw[hi1] at this;rw[this]
       have HCS:=Zb (And.intro c0 (And.intro c1 (And.intro c2 (And.intro c4 (And.intro v1 v4)))))
       have HZO:Hid (O.length=no2):=(Za HOUT).1
       have HOB:Hid (∀ j,0≤Yi (O.take j)∧Yi (O.take j)≤6000000000):=fun j=>Af (Nat.le_trans (by rw[List.length_take];exact Nat.min_le_right _ _) (Xa (Za HCK2)).2.1) (fun x hx=>Ja (Za HCK2) x (List.mem_of_mem_take hx))
       have ho6:no2≤6:=by rw[←Za HZO];exact (Xa (Za HCK2)).2.1
       clear hi1 c0 c1 c2 c4
       obtain⟨V0,hV0⟩:∃ V0,V0=wr:=⟨_,rfl⟩
       subst hV0
       go_wp2
       go_loopw [19,70] (fun sv iv V=>∃ (j:Nat) (d:Int),j≤no2∧sv = .int .i64 d∧iv = .int .i64 j∧Hid (d=Yi (O.take j))∧Hid (Below V0.heap.size V0 V)) (fun _ iv _=>no2 - (intOf iv).toNat)
       case atStart=>exact⟨0,0,Nat.zero_le _,rfl,rfl,rfl,(Below.refl _ _:Below V0.heap.size V0 V0)⟩
       case round=>
        obtain⟨j,d,hj,rfl,rfl,D,HD⟩:=hrel
        have hbd:=Za HD
        by_cases hjl:j<no2
        ·have hlk:j<O.length:=by rw[Za HZO];exact hjl
         obtain⟨b,off,rfl,hbl,hcell⟩:=(Za HOUT).2 (by omega)
         have hin:=OutAt.kept _ _ _ _ _ hbd (hcell j hlk)
         have d1:=(Za HOB) j
         have d3:=(Za HOB) (j+1)
         have hst:=Rf O j hlk
         obtain⟨o,hc⟩:∃ o,O[j]=o:=⟨_,rfl⟩
         rw[hc] at hin hst
         obtain⟨q1,q2⟩:=o
         obtain⟨g0,la',ln',lc',g1,_,_⟩:=hin
         simp only at g0 g1 hst
         have hd:d=Yi (O.take j):=Za D
         have A3:Hid (d+q1=Yi (O.take (j+1))):=by show _=_;rw[hst];omega
         have HB2':=Zb (Ze (Za HD) (Zg wr (.cells #[.int .i64 q1,.slice la' ln' lc'] 101)))
         have hw1:IntKind.i64.wrap (d+q1)=d+q1:=by rw[IntKind.wrap_i64];omega
         clear hc hst D HD hd d1 d3 hbd hcell
         go_wp2
         go_roundw
         case rel=>exact⟨j+1,d+q1,by omega,rfl,by go_num,A3,HB2'⟩
         case measure=>simp[intOf];omega
        ·have e:no2=j:=by omega
         subst e
         have hd:d=Yi O:=by
          have:=Za D
          rw[List.take_of_length_le (by rw[Za HZO];exact Nat.le_refl _)] at this
          exact this
         have hdb:=(Za HOB) no2
         rw[←Za D] at hdb
         have e1:=Zc hbd v1
         have el:=World.block_lt_of_cell? _ _ e1
         have RW:=Zb (Em ht r wr (Za HH).1 (Za HH).2 (Za HRW))
         have hrb:0≤r∧r≤64:=Zkx (Za HRW)
         have hFb:=Zcg (Za HF) hlt hm4
         have hw2:IntKind.i64.wrap (r+F)=r+F:=by rw[IntKind.wrap_i64];omega
         have hk1:k+1=nn:=by
          have e:=Za HI
          by_cases q:k+1<nn
          ·rw[Nat.mod_eq_of_lt q] at e;have:=Za HI1;omega
          ·omega
         have hiff:Y5 r T S nn<0↔r+F<d:=by rw[Zhr (Za HF) hk1,Za HT0,hd]
         have HIFF:=Zb hiff
         clear hd hdb hrb hFb hiff hk1 D v1 v4 tbl vl d2 hbd
         go_wp2_with fail
         refine (Za RW).mono ?_
         rintro e V2 ⟨rfl,hb2⟩
         have HB2':=Zb (Ze (Za HD) hb2)
         clear RW hb2 e1 el HD
         by_cases hq:r+F<d
         ·have HE2:Hid (((9:Int),([]:List Zf),([]:List (List Zf)))=(x,C',S')):=by have e:=Za HEQ;rw[if_pos ⟨Za HI1,(Za HIFF).2 hq⟩] at e;exact e
          have HWW:=Zb (Ze (Za HBX) (Ze ((Za HBV) V0 (Za HG)) (Za HB2')))
          clear HEQ HIFF
          go_wp2
          (try simp only[Exit.inBlock,Exit.then])
          refine bodyPost_ret (v:=.tuple #[.slice none 0 0,.slice none 0 0,.int .i64 9]) ?_ rfl (Jl (Za HE2) (Za HWW))
          simp[results,Tryz.f41,go_sem]
         ·have NEG:Hid (¬(i=0∧Y5 r T S nn<0)):=fun q=>hq ((Za HIFF).1 q.2)
          have HOx:Hid (CoinsAt V2 oa oon C∧SlOk oa oon oc∧Ye C):=⟨(Za HO).1.later (Za HB2'),(Za HO).2⟩
          have HUx:=Zb ((Za HU).later (Za HB2'))
          have HGx:Hid (Gr Z V2 (fun q=>q=w1.heap.size)):=(Za HG).on (Za HB2')
          have HINx:=Zb ((Za HIN).later (Za HB2'))
          have HOUTx:=Zb ((Za HOUT).later (Za HB2'))
          have G0W:Hid (w1.heap.size<V2.heap.size):=Nat.lt_of_lt_of_le g0w (Za HB2').size
          have c0:=Zc (Za HB2') (Za HCS).1
          have c1:=Zc (Za HB2') (Za HCS).2.1
          have c2:=Zc (Za HB2') (Za HCS).2.2.1
          have c4:=Zc (Za HB2') (Za HCS).2.2.2.1
          have v1:=Zc (Za HB2') (Za HCS).2.2.2.2.1
          have v4:=Zc (Za HB2') (Za HCS).2.2.2.2.2
          clear HIFF HCS
          have AP:Hid (∀ U,Below V2.heap.size V2 U→Calls Tryz.prog 60 #[.slice oa oon oc,.agg #[.int .i64 t1,.slice ai ni ci,.slice ao no2 co],.int .i64 nm,.int .i64 ht] U fun e w'=>ApR U w' y M s e):=fun U hb=>
           G5 oa oon oc C t1 ai ao ni ci no2 co I O nm ht y M s U ((Za HOx).1.later hb) (Za HOx).2.1 ((Za HINx).later hb) ((Za HOUTx).later hb) (Za HOx).2.2 (Za HCK2) (Za HAP)
          have KS:Hid (∀ U,Below V2.heap.size V2 U→Below V2.heap.size V2 U∧U.cell? ⟨w.heap.size,1,none⟩=some (.int .i64 ht)∧U.cell? ⟨w.heap.size,4,none⟩=some (.slice (some ⟨tb,tof,none⟩) nn c)∧U.cell? ⟨tb,tof+i*3,none⟩=some (.int .i64 t1)∧U.cell? ⟨tb,tof+i*3+1,none⟩=some (.slice ai ni ci)∧U.cell? ⟨tb,tof+i*3+2,none⟩=some (.slice ao no2 co)∧U.cell? ⟨nb,no+i,none⟩=some (.int .i64 nm)):=fun U hb=>
           ⟨hb,Zc hb v1,Zc hb v4,Zc hb c0,Zc hb c1,Zc hb c2,Zc hb c4⟩
          clear c0 c1 c2 c4 v1 v4
          go_wp2_with fail
          refine wp_region_held_drew (S:=fun U=>Below V2.heap.size V2 U∧U.cell? ⟨w.heap.size,1,none⟩=some (.int .i64 ht)∧U.cell? ⟨w.heap.size,4,none⟩=some (.slice (some ⟨tb,tof,none⟩) nn c)∧U.cell? ⟨tb,tof+i*3,none⟩=some (.int .i64 t1)∧U.cell? ⟨tb,tof+i*3+1,none⟩=some (.slice ai ni ci)∧U.cell? ⟨tb,tof+i*3+2,none⟩=some (.slice ao no2 co)∧U.cell? ⟨nb,no+i,none⟩=some (.int .i64 nm)) (by kernel_rfl) ((Za KS) _ (Zh _)) (fun Zlz=>?_)
          refine Zt 0 ⟨some 87,.move (.tmp 1),29, "second.go:274",#[],none⟩ ?_ rfl ?_ Zlz ?_
          rotate_left
          ·(intro W hSw;(try dsimp only at hSw);go_simp;first|done|with_reducible rfl)
          (try simp only[Act.put,ZA,ZB,ZC])
          refine Zt 1 ⟨some 88,.fieldAddr 68 (.tmp 5) 4,0, "second.go:274",#[],none⟩ ?_ rfl ?_ Zlz ?_
          rotate_left
          ·(intro W hSw;(try dsimp only at hSw);go_simp;first|done|with_reducible rfl)
          (try simp only[Act.put,ZA,ZB,ZC])
          refine Zt 2 ⟨some 89,.load 48 (.tmp 88),48, "second.go:274",#[⟨1,.data⟩],none⟩ ?_ rfl ?_ Zlz ?_
          rotate_left
          ·(intro W hSw;(try dsimp only at hSw);go_simp;first|done|with_reducible rfl)
          (try simp only[Act.put,ZA,ZB,ZC])
          refine Zt 3 ⟨some 90,.move (.tmp 18),3, "second.go:274",#[],none⟩ ?_ rfl ?_ Zlz ?_
          rotate_left
          ·(intro W hSw;(try dsimp only at hSw);go_simp;first|done|with_reducible rfl)
          (try simp only[Act.put,ZA,ZB,ZC])
          refine Zt 4 ⟨some 91,.indexAddr 48 (.tmp 89) (.tmp 90),0, "second.go:274",#[⟨2,.data⟩,⟨3,.data⟩],none⟩ ?_ rfl ?_ Zlz ?_
          rotate_left
          ·(intro W hSw;(try dsimp only at hSw);go_simp;first|done|with_reducible rfl)
          (try simp only[Act.put,ZA,ZB,ZC])
          refine Zt 5 ⟨some 92,.load 52 (.tmp 91),52, "second.go:274",#[⟨4,.data⟩],none⟩ ?_ rfl ?_ Zlz ?_
          rotate_left
          ·(intro W hSw;(try dsimp only at hSw);go_simp;first|done|with_reducible rfl)
          (try simp only[Act.put,ZA,ZB,ZC])
          refine Zt 6 ⟨some 93,.move (.tmp 11),25, "second.go:274",#[],none⟩ ?_ rfl ?_ Zlz ?_
          rotate_left
          ·(intro W hSw;(try dsimp only at hSw);go_simp;first|done|with_reducible rfl)
          (try simp only[Act.put,ZA,ZB,ZC])
          refine Zt 7 ⟨some 94,.move (.tmp 18),3, "second.go:274",#[],none⟩ ?_ rfl ?_ Zlz ?_
          rotate_left
          ·(intro W hSw;(try dsimp only at hSw);go_simp;first|done|with_reducible rfl)
          (try simp only[Act.put,ZA,ZB,ZC])
          refine Zt 8 ⟨some 95,.indexAddr 25 (.tmp 93) (.tmp 94),0, "second.go:274",#[⟨6,.data⟩,⟨7,.data⟩],none⟩ ?_ rfl ?_ Zlz ?_
          rotate_left
          ·(intro W hSw;(try dsimp only at hSw);go_simp;first|done|with_reducible rfl)
          (try simp only[Act.put,ZA,ZB,ZC])
          refine Zt 9 ⟨some 96,.load 3 (.tmp 95),3, "second.go:274",#[⟨8,.data⟩],none⟩ ?_ rfl ?_ Zlz ?_
          rotate_left
          ·(intro W hSw;(try dsimp only at hSw);go_simp;first|done|with_reducible rfl)
          (try simp only[Act.put,ZA,ZB,ZC])
          refine Zt 10 ⟨some 97,.fieldAddr 68 (.tmp 5) 1,0, "second.go:274",#[],none⟩ ?_ rfl ?_ Zlz ?_
          rotate_left
          ·(intro W hSw;(try dsimp only at hSw);go_simp;first|done|with_reducible rfl)
          (try simp only[Act.put,ZA,ZB,ZC])
          refine Zt 11 ⟨some 98,.load 3 (.tmp 97),3, "second.go:274",#[⟨10,.data⟩],none⟩ ?_ rfl ?_ Zlz ?_
          rotate_left
          ·(intro W hSw;(try dsimp only at hSw);go_simp;first|done|with_reducible rfl)
          (try simp only[Act.put,ZA,ZB,ZC])
          refine wpAnyH_ready (rs:=[12,17]) (by kernel_rfl) (by simp) ?_
          refine AllReadyH.cons (o:=⟨some 99,.call { callee:=Callee.value (.func 60),args:=#[.tmp 87,.tmp 92,.tmp 96,.tmp 98],argTypes:=#[29,52,3,3] },131, "second.go:274",#[⟨0,.data⟩,⟨5,.data⟩,⟨9,.data⟩,⟨11,.data⟩],none⟩) rfl (fun K hK=>?_) (AllReadyH.cons (o:=⟨some 23,.alloc 130,0, "second.go:274",#[],none⟩) rfl (fun K hK=>?_) AllReadyH.nil)
          focus
           refine Vq (by kernel_rfl) 60 #[.slice oa oon oc,.agg #[.int .i64 t1,.slice ai ni ci,.slice ao no2 co],.int .i64 nm,.int .i64 ht] (by kernel_rfl) ((Za AP) _ Zlz.1) ?_
           rintro e w6 ⟨am,nm6,cm,sa,ns,cs,rfl,hM6,sM6,hS6,sS6,hbc⟩
           refine⟨_,rfl,?_⟩
           have HB6:=Zb (Ze Zlz.1 hbc)
           have HM5:=Zb hM6
           have HS5:=Zb hS6
           have SM6:=Zb sM6
           have SS6:=Zb sS6
           clear hM6 hS6 sM6 sS6 hbc
           refine hK.out _ _ ((Za KS) _ (Za HB6)) (fun Zma=>?_)
           clear hK K Zlz
           have Zlz:=Zma
           clear Zma
           (try simp only[Act.put,ZA,ZB,ZC])
           refine Zt 13 ⟨some 86,.move (.tmp 99),131, "second.go:274",#[⟨12,.data⟩],none⟩ ?_ rfl ?_ Zlz ?_
           rotate_left
           ·(intro W hSw;(try dsimp only at hSw);go_simp;first|done|with_reducible rfl)
           (try simp only[Act.put,ZA,ZB,ZC])
           refine Zt 14 ⟨some 100,.extract (.tmp 86) 0,29, "second.go:274",#[⟨13,.data⟩],none⟩ ?_ rfl ?_ Zlz ?_
           rotate_left
           ·(intro W hSw;(try dsimp only at hSw);go_simp;first|done|with_reducible rfl)
           (try simp only[Act.put,ZA,ZB,ZC])
           refine Zt 15 ⟨some 101,.extract (.tmp 86) 1,130, "second.go:274",#[⟨13,.data⟩,⟨18,.gcOnly .lateStores⟩],none⟩ ?_ rfl ?_ Zlz ?_
           rotate_left
           ·(intro W hSw;(try dsimp only at hSw);go_simp;first|done|with_reducible rfl)
           (try simp only[Act.put,ZA,ZB,ZC])
           refine Zt 16 ⟨some 102,.extract (.tmp 86) 2,30, "second.go:274",#[⟨13,.data⟩,⟨19,.gcOnly .lateStores⟩],none⟩ ?_ rfl ?_ Zlz ?_
           rotate_left
           ·(intro W hSw;(try dsimp only at hSw);go_simp;first|done|with_reducible rfl)
           (try simp only[Act.put,ZA,ZB,ZC])
           refine wpAnyH_ready (rs:=[17]) (by kernel_rfl) (by simp) ?_
           refine AllReadyH.cons (o:=⟨some 23,.alloc 130,0, "second.go:274",#[],none⟩) rfl (fun K hK=>?_) AllReadyH.nil
           go_simp
           obtain⟨WZ,hWZ⟩:∃ WZ,WZ=w6.alloc (.cells #[.slice none 0 0] 130):=⟨_,rfl⟩
           rw[←hWZ]
           obtain⟨bx,hbx⟩:∃ bx,bx=w6.heap.size:=⟨_,rfl⟩
           have MZ:Hid (WZ.heap[bx]? = some (.cells [.slice none 0 0].toArray 130 (0,0))):=by show _=_;rw[hWZ,hbx];exact heap_alloc_new _ _
           have hbz:Below w6.heap.size w6 WZ:=by rw[hWZ];exact Zg _ _
           have BZ:=Zb (Ze (Za HB6) hbz)
           have HM6:=Zb ((Za HM5).later hbz)
           have HS6:=Zb ((Za HS5).later hbz)
           have HBX2:Hid (V2.heap.size≤bx):=by show _≤_;rw[hbx];exact (Za HB6).size
           rw[←hbx]
           clear hbz hWZ hbx HB6 HM5 HS5
           refine hK.out _ _ ((Za KS) _ (Za BZ)) (fun Zma=>?_)
           clear hK K Zlz
           have Zlz:=Zma
           clear Zma
          rotate_left
          focus
           go_simp
           obtain⟨WA,hWA⟩:∃ WA,WA=V2.drew.alloc (.cells #[.slice none 0 0] 130):=⟨_,rfl⟩
           (first|rw[←hWA]|(rw[show (V2.alloc (.cells #[.slice none 0 0] 130)).drew=WA from hWA.symm]))
           have hbA:Below V2.heap.size V2 WA:=by rw[hWA];exact Ze (Zh V2) (Zg _ _)
           obtain⟨bx,hbx⟩:∃ bx,bx=V2.heap.size:=⟨_,rfl⟩
           have MA:Hid (WA.heap[bx]? = some (.cells [.slice none 0 0].toArray 130 (0,0))):=by show _=_;rw[hWA,hbx];exact heap_alloc_new V2.drew _
           have HBX2:Hid (V2.heap.size≤bx):=by show _≤_;rw[hbx];exact Nat.le_refl _
           rw[←hbx]
           have HBA:=Zb hbA
           clear hWA hbx hbA
           refine hK.out _ _ ((Za KS) _ (Za HBA)) (fun Zma=>?_)
           clear hK K Zlz
           have Zlz:=Zma
           clear Zma
           (try simp only[Act.put,ZA,ZB,ZC])
           refine wpAnyH_ready (rs:=[12]) (by kernel_rfl) (by simp) ?_
           refine AllReadyH.cons (o:=⟨some 99,.call { callee:=Callee.value (.func 60),args:=#[.tmp 87,.tmp 92,.tmp 96,.tmp 98],argTypes:=#[29,52,3,3] },131, "second.go:274",#[⟨0,.data⟩,⟨5,.data⟩,⟨9,.data⟩,⟨11,.data⟩],none⟩) rfl (fun K hK=>?_) AllReadyH.nil
           refine Vq (by kernel_rfl) 60 #[.slice oa oon oc,.agg #[.int .i64 t1,.slice ai ni ci,.slice ao no2 co],.int .i64 nm,.int .i64 ht] (by kernel_rfl) ((Za AP) _ Zlz.1) ?_
           rintro e WZ ⟨am,nm6,cm,sa,ns,cs,rfl,hM6,sM6,hS6,sS6,hbc⟩
           refine⟨_,rfl,?_⟩
           have BZ:=Zb (Ze (Za HBA) hbc)
           have HM6:=Zb hM6
           have HS6:=Zb hS6
           have SM6:=Zb sM6
           have SS6:=Zb sS6
           have MZ:=Zb ((hbc.block _ (lt_of_block (Za MA))).trans (Za MA))
           clear hM6 hS6 sM6 sS6 hbc MA HBA
           refine hK.out _ _ ((Za KS) _ (Za BZ)) (fun Zma=>?_)
           clear hK K Zlz
           have Zlz:=Zma
           clear Zma
           (try simp only[Act.put,ZA,ZB,ZC])
           refine Zt 13 ⟨some 86,.move (.tmp 99),131, "second.go:274",#[⟨12,.data⟩],none⟩ ?_ rfl ?_ Zlz ?_
           rotate_left
           ·(intro W hSw;(try dsimp only at hSw);go_simp;first|done|with_reducible rfl)
           (try simp only[Act.put,ZA,ZB,ZC])
           refine Zt 14 ⟨some 100,.extract (.tmp 86) 0,29, "second.go:274",#[⟨13,.data⟩],none⟩ ?_ rfl ?_ Zlz ?_
           rotate_left
           ·(intro W hSw;(try dsimp only at hSw);go_simp;first|done|with_reducible rfl)
           (try simp only[Act.put,ZA,ZB,ZC])
           refine Zt 15 ⟨some 101,.extract (.tmp 86) 1,130, "second.go:274",#[⟨13,.data⟩,⟨18,.gcOnly .lateStores⟩],none⟩ ?_ rfl ?_ Zlz ?_
           rotate_left
           ·(intro W hSw;(try dsimp only at hSw);go_simp;first|done|with_reducible rfl)
           (try simp only[Act.put,ZA,ZB,ZC])
           refine Zt 16 ⟨some 102,.extract (.tmp 86) 2,30, "second.go:274",#[⟨13,.data⟩,⟨19,.gcOnly .lateStores⟩],none⟩ ?_ rfl ?_ Zlz ?_
           rotate_left
           ·(intro W hSw;(try dsimp only at hSw);go_simp;first|done|with_reducible rfl)
          all_goals
           (try simp only[Act.put,ZA,ZB,ZC])
           refine Zt 18 ⟨some 22,.assign (.tmp 100),29, "second.go:274",#[⟨14,.data⟩,⟨12,.chain⟩,⟨0,.phase⟩,⟨1,.phase⟩,⟨2,.phase⟩,⟨3,.phase⟩,⟨4,.phase⟩,⟨5,.phase⟩,⟨6,.phase⟩,⟨7,.phase⟩,⟨8,.phase⟩,⟨9,.phase⟩,⟨10,.phase⟩,⟨11,.phase⟩,⟨12,.phase⟩,⟨13,.phase⟩,⟨14,.phase⟩,⟨15,.textOnly .lateStores⟩,⟨16,.textOnly .lateStores⟩,⟨17,.phase⟩],none⟩ ?_ rfl ?_ Zlz ?_
           rotate_left
           ·(intro W hSw;(try dsimp only at hSw);go_simp;first|done|with_reducible rfl)
           (try simp only[Act.put,ZA,ZB,ZC])
           have z6:=Zd (Za MZ) 0 _ rfl
           have zf6:=Zi (Za MZ) 0
           have zl6:=lt_of_block (Za MZ)
           refine wpAnyH_ready (rs:=[19]) (by kernel_rfl) (by simp) ?_
           refine AllReadyH.cons (o:=⟨none,.store 130 (.tmp 23) (.tmp 101),0, "second.go:274",#[⟨17,.data⟩,⟨15,.data⟩,⟨18,.chain⟩,⟨0,.phase⟩,⟨1,.phase⟩,⟨2,.phase⟩,⟨3,.phase⟩,⟨4,.phase⟩,⟨5,.phase⟩,⟨6,.phase⟩,⟨7,.phase⟩,⟨8,.phase⟩,⟨9,.phase⟩,⟨10,.phase⟩,⟨11,.phase⟩,⟨12,.phase⟩,⟨13,.phase⟩,⟨14,.phase⟩,⟨15,.phase⟩,⟨16,.textOnly .lateStores⟩,⟨17,.phase⟩,⟨18,.phase⟩],none⟩) rfl (fun K hK=>?_) AllReadyH.nil
           go_simp
           refine hK.out _ _ ((Za KS) _ ((Za BZ).setCell (Za HBX2) _)) (fun Zma=>?_)
           clear hK K Zlz
           have Zlz:=Zma
           clear Zma
           (try simp only[Act.put,ZA,ZB,ZC])
           refine Zt 20 ⟨some 24,.assign (.tmp 102),30, "second.go:274",#[⟨16,.data⟩,⟨19,.chain⟩,⟨0,.phase⟩,⟨1,.phase⟩,⟨2,.phase⟩,⟨3,.phase⟩,⟨4,.phase⟩,⟨5,.phase⟩,⟨6,.phase⟩,⟨7,.phase⟩,⟨8,.phase⟩,⟨9,.phase⟩,⟨10,.phase⟩,⟨11,.phase⟩,⟨12,.phase⟩,⟨13,.phase⟩,⟨14,.phase⟩,⟨15,.phase⟩,⟨16,.phase⟩,⟨17,.phase⟩,⟨18,.phase⟩,⟨19,.phase⟩],none⟩ ?_ rfl ?_ Zlz ?_
           rotate_left
           ·(intro W hSw;(try dsimp only at hSw);go_simp;first|done|with_reducible rfl)
           (try simp only[Act.put,ZA,ZB,ZC])
           refine wpAnyH_done (by kernel_rfl) ?_ _
           have CS:=Zb (Cj (g0:=w1.heap.size) (Za BZ) (Za HBX2) (Za G0W) (Za MZ) (Za HM6) (Za SM6) (Za HS6) (Za SS6))
           obtain⟨Y,hY⟩:∃ Y,Y=WZ.setCell ⟨bx,0,none⟩ (.slice sa ns cs):=⟨_,rfl⟩
           rw[←hY] at CS ⊢
           have HKY:=Zb ((Za KS) Y (Za CS).1)
           clear hY Zlz KS AP z6 zf6 zl6 BZ HBX2 MZ HM6 SM6 HS6 SS6
           by_cases ey:y=0
           ·subst ey
            have few:=F3 (Za HAP)
            have HR2:=Zb (Mh (Za HAP)).2.1
            have ho6:no2≤6:=by rw[←(Za HOUT).1];exact (Xa (Za HCK2)).2.1
            have hs6:ns≤6:=by rw[←(Za CS).2.2.2.1.1];exact few.1
            obtain⟨Y2,hY2⟩:∃ Y2,Y2=Y:=⟨_,rfl⟩
            have HBY2:Hid (Below Y.heap.size Y Y2):=by rw[hY2];exact Below.refl _ _
            rw[←hY2]
            clear hY2
            have hk1:k+1=nn:=by
             have e:=Za HI
             by_cases q:k+1<nn
             ·rw[Nat.mod_eq_of_lt q] at e;omega
             ·omega
            have HF2:Hid (Uz T (S.set i s) nn (k+1) F):=by show Uz _ _ _ _ _;rw[hk1];exact Zef
            have HQ2:Hid (Wg ht r T N (nn - (k+1)) (k+1) M (S.set i s)=(x,C',S')):=by
             have e:=Za HEQ
             rw[if_neg (Za NEG),if_neg (by decide)] at e
             exact e
            clear few hs6 ho6 hk1 HEQ
            have HBW2:=Zb (Ze (Za CS).1 (Za HBY2))
            have HM2:=Zb ((Za CS).2.1.later (Za HBY2))
            have HS2:=Zb ((Za CS).2.2.2.1.later (Za HBY2))
            have HU2:=Zb ((Za HUx).later (Za HBW2))
            have UO:Hid (UsOk 130 w1.heap.size nn Y2):=by have:=(Za HU2).ok;rw[Za HSL] at this;exact this
            have KS9:Hid (∀ U,Gr Y2 U (fun q=>q=w1.heap.size)→UsOk 130 w1.heap.size nn U→Gr Y2 U (fun q=>q=w1.heap.size)∧U.cell? ⟨bx,0,none⟩=some (.slice sa ns cs)∧UsOk 130 w1.heap.size nn U):=fun U hg ho=>
             have hb:=((Za HBY2).block _ (lt_of_block (Za CS).2.2.2.2.2.2)).trans (Za CS).2.2.2.2.2.2
             ⟨hg,Zd ((hg.block bx (lt_of_block hb) (Za CS).2.2.2.2.2.1).trans hb) 0 _ rfl,ho⟩
            obtain⟨zz,z6⟩:=(Za UO).cell hil
            have zf6:=(Za UO).free i
            have zl6:=(Za UO).lt
            go_wp2_with fail
            refine wp_region_held_drew (S:=fun U=>Gr Y2 U (fun q=>q=w1.heap.size)∧U.cell? ⟨bx,0,none⟩=some (.slice sa ns cs)∧UsOk 130 w1.heap.size nn U) (by kernel_rfl) ((Za KS9) _ (Gr.refl _ _).draw ((Za UO).later (Zh _))) (fun Zlz=>?_)
            refine Zt 0 ⟨some 118,.move (.tmp 13),79, "second.go:281",#[⟨4,.gcOnly .lateStores⟩],none⟩ ?_ rfl ?_ Zlz ?_
            rotate_left
            ·(intro W hSw;(try dsimp only at hSw);go_simp;first|done|with_reducible rfl)
            (try simp only[Act.put,ZA,ZB,ZC])
            refine Zt 1 ⟨some 119,.move (.tmp 18),3, "second.go:281",#[⟨4,.gcOnly .lateStores⟩],none⟩ ?_ rfl ?_ Zlz ?_
            rotate_left
            ·(intro W hSw;(try dsimp only at hSw);go_simp;first|done|with_reducible rfl)
            (try simp only[Act.put,ZA,ZB,ZC])
            refine Zt 2 ⟨some 120,.move (.tmp 22),29, "second.go:281",#[],none⟩ ?_ rfl ?_ Zlz ?_
            rotate_left
            ·(intro W hSw;(try dsimp only at hSw);go_simp;first|done|with_reducible rfl)
            (try simp only[Act.put,ZA,ZB,ZC])
            refine Zt 3 ⟨some 121,.load 130 (.tmp 23),130, "second.go:281",#[⟨4,.gcOnly .lateStores⟩],none⟩ ?_ rfl ?_ Zlz ?_
            rotate_left
            ·(intro W hSw;(try dsimp only at hSw);go_simp;first|done|with_reducible rfl)
            (try simp only[Act.put,ZA,ZB,ZC])
            refine Zt 4 ⟨some 1,.assign (.tmp 120),29, "second.go:281",#[⟨2,.data⟩,⟨0,.textOnly .lateStores⟩,⟨1,.textOnly .lateStores⟩,⟨2,.phase⟩,⟨3,.textOnly .lateStores⟩],none⟩ ?_ rfl ?_ Zlz ?_
            rotate_left
            ·(intro W hSw;(try dsimp only at hSw);go_simp;first|done|with_reducible rfl)
            (try simp only[Act.put,ZA,ZB,ZC])
            refine Zt 5 ⟨some 122,.indexAddr 79 (.tmp 118) (.tmp 119),0, "second.go:281",#[⟨0,.data⟩,⟨1,.data⟩,⟨0,.phase⟩,⟨1,.phase⟩,⟨2,.phase⟩,⟨3,.phase⟩,⟨4,.phase⟩],none⟩ ?_ rfl ?_ Zlz ?_
            rotate_left
            ·(intro W hSw;(try dsimp only at hSw);go_simp;first|done|with_reducible rfl)
            (try simp only[Act.put,ZA,ZB,ZC])
            refine wpAnyH_ready (rs:=[6]) (by kernel_rfl) (by simp) ?_
            refine AllReadyH.cons (o:=⟨none,.store 130 (.tmp 122) (.tmp 121),0, "second.go:281",#[⟨5,.data⟩,⟨3,.data⟩,⟨4,.chain⟩,⟨0,.phase⟩,⟨1,.phase⟩,⟨2,.phase⟩,⟨3,.phase⟩,⟨4,.phase⟩],none⟩) rfl (fun K hK=>?_) AllReadyH.nil
            go_simp
            refine hK.out _ _ ((Za KS9) _ ((Gr.refl Y2 (fun q=>q=w1.heap.size)).draw.one w1.heap.size i (.inl rfl) _) (UsOk.put ((Za UO).later (Zh _)) i _ _ _)) (fun Zma=>?_)
            clear hK K Zlz
            have Zlz:=Zma
            clear Zma
            (try simp only[Act.put,ZA,ZB,ZC])
            refine wpAnyH_done (by kernel_rfl) ?_ _
            clear Zlz KS9 z6 zf6 zl6
            have HBD:=Zb (Zh Y2)
            have HU3:=Zb (((Za HU2).later (Za HBD)).put i ((Za HS2).later (Za HBD)) (Za CS).2.2.2.2.1)
            have HM3:=Zb (Wh ((Za HM2).later (Za HBD)) ((Za UO).later (Za HBD)) ((Gr.refl Y2.drew (fun q=>q=w1.heap.size)).one w1.heap.size i (.inl rfl) (.slice sa ns cs)))
            have HG3:=Zb ((((Za HGx).trans (Gr.of (Za HBW2))).draw).one w1.heap.size i (.inl rfl) (.slice sa ns cs))
            have HSL2:Hid ((S.set i s).length=nn):=by show _=_;rw[List.length_set];exact Za HSL
            obtain⟨Q,hQ⟩:∃ Q,Q=Y2.drew.setCell ⟨w1.heap.size,i,none⟩ (.slice sa ns cs):=⟨_,rfl⟩
            rw[←hQ] at HM3 HU3 HG3
            (first|rw[←hQ]|(rw[show (Y2.setCell ⟨w1.heap.size,i,none⟩ (.slice sa ns cs)).drew=Q from hQ.symm]))
            have SM3:=Zb (Za CS).2.2.1
            clear hQ HBD HM2 HS2 HU2 UO CS HKY HBW2 HBY2
            go_wp2
            go_roundw
            case rel=>exact⟨k+1,am,nm6,cm,M,S.set i s,F,by omega,rfl,rfl,by go_num,(⟨Za HM3,Za SM3,Za HR2⟩:CoinsAt Q am nm6 M∧SlOk am nm6 cm∧Ye M),HU3,HSL2,HF2,HQ2,HG3⟩
            case measure=>simp[intOf];omega
           ·have g:(y != 0)=true:=by simp[ey]
            have HE2:Hid ((y,([]:List Zf),([]:List (List Zf)))=(x,C',S')):=by have e:=Za HEQ;rw[if_neg (Za NEG),if_pos ey] at e;exact e
            have HWW:=Zb (Ze (Za HBX) (Ze ((Za HBV) V2 (Za HGx)) (Za CS).1))
            clear CS HKY HEQ
            go_wp2
            (try simp only[Exit.inBlock,Exit.then])
            refine bodyPost_ret (v:=.tuple #[.slice none 0 0,.slice none 0 0,.int .i64 y]) ?_ rfl (Jl (Za HE2) (Za HWW))
            simp[results,Tryz.f41,go_sem]
      ·first
       | (exfalso;omega)
       |skip
        have hiP:(0:Int)<(i:Int):=by omega
        have G0W:=Zb g0w
        have HOx:=HO
        have HUx:=HU
        have HGx:=HG
        have HINx:=HIN
        have HOUTx:=HOUT
        have AP:Hid (∀ U,Below wr.heap.size wr U→Calls Tryz.prog 60 #[.slice oa oon oc,.agg #[.int .i64 t1,.slice ai ni ci,.slice ao no2 co],.int .i64 nm,.int .i64 ht] U fun e w'=>ApR U w' y M s e):=fun U hb=>
         G5 oa oon oc C t1 ai ao ni ci no2 co I O nm ht y M s U ((Za HOx).1.later hb) (Za HOx).2.1 ((Za HINx).later hb) ((Za HOUTx).later hb) (Za HOx).2.2 (Za HCK2) (Za HAP)
        have KS:Hid (∀ U,Below wr.heap.size wr U→Below wr.heap.size wr U∧U.cell? ⟨w.heap.size,1,none⟩=some (.int .i64 ht)∧U.cell? ⟨w.heap.size,4,none⟩=some (.slice (some ⟨tb,tof,none⟩) nn c)∧U.cell? ⟨tb,tof+i*3,none⟩=some (.int .i64 t1)∧U.cell? ⟨tb,tof+i*3+1,none⟩=some (.slice ai ni ci)∧U.cell? ⟨tb,tof+i*3+2,none⟩=some (.slice ao no2 co)∧U.cell? ⟨nb,no+i,none⟩=some (.int .i64 nm)):=fun U hb=>
         ⟨hb,Zc hb v1,Zc hb v4,Zc hb c0,Zc hb c1,Zc hb c2,Zc hb c4⟩
        clear c0 c1 c2 c4 v1 v4
        go_wp2_with fail
        refine wp_region_held_drew (S:=fun U=>Below wr.heap.size wr U∧U.cell? ⟨w.heap.size,1,none⟩=some (.int .i64 ht)∧U.cell? ⟨w.heap.size,4,none⟩=some (.slice (some ⟨tb,tof,none⟩) nn c)∧U.cell? ⟨tb,tof+i*3,none⟩=some (.int .i64 t1)∧U.cell? ⟨tb,tof+i*3+1,none⟩=some (.slice ai ni ci)∧U.cell? ⟨tb,tof+i*3+2,none⟩=some (.slice ao no2 co)∧U.cell? ⟨nb,no+i,none⟩=some (.int .i64 nm)) (by kernel_rfl) ((Za KS) _ (Zh _)) (fun Zlz=>?_)
        refine Zt 0 ⟨some 87,.move (.tmp 1),29, "second.go:274",#[],none⟩ ?_ rfl ?_ Zlz ?_
        rotate_left
        ·(intro W hSw;(try dsimp only at hSw);go_simp;first|done|with_reducible rfl)
        (try simp only[Act.put,ZA,ZB,ZC])
        refine Zt 1 ⟨some 88,.fieldAddr 68 (.tmp 5) 4,0, "second.go:274",#[],none⟩ ?_ rfl ?_ Zlz ?_
        rotate_left
        ·(intro W hSw;(try dsimp only at hSw);go_simp;first|done|with_reducible rfl)
        (try simp only[Act.put,ZA,ZB,ZC])
        refine Zt 2 ⟨some 89,.load 48 (.tmp 88),48, "second.go:274",#[⟨1,.data⟩],none⟩ ?_ rfl ?_ Zlz ?_
        rotate_left
        ·(intro W hSw;(try dsimp only at hSw);go_simp;first|done|with_reducible rfl)
        (try simp only[Act.put,ZA,ZB,ZC])
        refine Zt 3 ⟨some 90,.move (.tmp 18),3, "second.go:274",#[],none⟩ ?_ rfl ?_ Zlz ?_
        rotate_left
        ·(intro W hSw;(try dsimp only at hSw);go_simp;first|done|with_reducible rfl)
        (try simp only[Act.put,ZA,ZB,ZC])
        refine Zt 4 ⟨some 91,.indexAddr 48 (.tmp 89) (.tmp 90),0, "second.go:274",#[⟨2,.data⟩,⟨3,.data⟩],none⟩ ?_ rfl ?_ Zlz ?_
        rotate_left
        ·(intro W hSw;(try dsimp only at hSw);go_simp;first|done|with_reducible rfl)
        (try simp only[Act.put,ZA,ZB,ZC])
        refine Zt 5 ⟨some 92,.load 52 (.tmp 91),52, "second.go:274",#[⟨4,.data⟩],none⟩ ?_ rfl ?_ Zlz ?_
        rotate_left
        ·(intro W hSw;(try dsimp only at hSw);go_simp;first|done|with_reducible rfl)
        (try simp only[Act.put,ZA,ZB,ZC])
        refine Zt 6 ⟨some 93,.move (.tmp 11),25, "second.go:274",#[],none⟩ ?_ rfl ?_ Zlz ?_
        rotate_left
        ·(intro W hSw;(try dsimp only at hSw);go_simp;first|done|with_reducible rfl)
        (try simp only[Act.put,ZA,ZB,ZC])
        refine Zt 7 ⟨some 94,.move (.tmp 18),3, "second.go:274",#[],none⟩ ?_ rfl ?_ Zlz ?_
        rotate_left
        ·(intro W hSw;(try dsimp only at hSw);go_simp;first|done|with_reducible rfl)
        (try simp only[Act.put,ZA,ZB,ZC])
        refine Zt 8 ⟨some 95,.indexAddr 25 (.tmp 93) (.tmp 94),0, "second.go:274",#[⟨6,.data⟩,⟨7,.data⟩],none⟩ ?_ rfl ?_ Zlz ?_
        rotate_left
        ·(intro W hSw;(try dsimp only at hSw);go_simp;first|done|with_reducible rfl)
        (try simp only[Act.put,ZA,ZB,ZC])
        refine Zt 9 ⟨some 96,.load 3 (.tmp 95),3, "second.go:274",#[⟨8,.data⟩],none⟩ ?_ rfl ?_ Zlz ?_
        rotate_left
        ·(intro W hSw;(try dsimp only at hSw);go_simp;first|done|with_reducible rfl)
        (try simp only[Act.put,ZA,ZB,ZC])
        refine Zt 10 ⟨some 97,.fieldAddr 68 (.tmp 5) 1,0, "second.go:274",#[],none⟩ ?_ rfl ?_ Zlz ?_
        rotate_left
        ·(intro W hSw;(try dsimp only at hSw);go_simp;first|done|with_reducible rfl)
        (try simp only[Act.put,ZA,ZB,ZC])
        refine Zt 11 ⟨some 98,.load 3 (.tmp 97),3, "second.go:274",#[⟨10,.data⟩],none⟩ ?_ rfl ?_ Zlz ?_
        rotate_left
        ·(intro W hSw;(try dsimp only at hSw);go_simp;first|done|with_reducible rfl)
        (try simp only[Act.put,ZA,ZB,ZC])
        refine wpAnyH_ready (rs:=[12,17]) (by kernel_rfl) (by simp) ?_
        refine AllReadyH.cons (o:=⟨some 99,.call { callee:=Callee.value (.func 60),args:=#[.tmp 87,.tmp 92,.tmp 96,.tmp 98],argTypes:=#[29,52,3,3] },131, "second.go:274",#[⟨0,.data⟩,⟨5,.data⟩,⟨9,.data⟩,⟨11,.data⟩],none⟩) rfl (fun K hK=>?_) (AllReadyH.cons (o:=⟨some 23,.alloc 130,0, "second.go:274",#[],none⟩) rfl (fun K hK=>?_) AllReadyH.nil)
        focus
         refine Vq (by kernel_rfl) 60 #[.slice oa oon oc,.agg #[.int .i64 t1,.slice ai ni ci,.slice ao no2 co],.int .i64 nm,.int .i64 ht] (by kernel_rfl) ((Za AP) _ Zlz.1) ?_
         rintro e w6 ⟨am,nm6,cm,sa,ns,cs,rfl,hM6,sM6,hS6,sS6,hbc⟩
         refine⟨_,rfl,?_⟩
         have HB6:=Zb (Ze Zlz.1 hbc)
         have HM5:=Zb hM6
         have HS5:=Zb hS6
         have SM6:=Zb sM6
         have SS6:=Zb sS6
         clear hM6 hS6 sM6 sS6 hbc
         refine hK.out _ _ ((Za KS) _ (Za HB6)) (fun Zma=>?_)
         clear hK K Zlz
         have Zlz:=Zma
         clear Zma
         (try simp only[Act.put,ZA,ZB,ZC])
         refine Zt 13 ⟨some 86,.move (.tmp 99),131, "second.go:274",#[⟨12,.data⟩],none⟩ ?_ rfl ?_ Zlz ?_
         rotate_left
         ·(intro W hSw;(try dsimp only at hSw);go_simp;first|done|with_reducible rfl)
         (try simp only[Act.put,ZA,ZB,ZC])
         refine Zt 14 ⟨some 100,.extract (.tmp 86) 0,29, "second.go:274",#[⟨13,.data⟩],none⟩ ?_ rfl ?_ Zlz ?_
         rotate_left
         ·(intro W hSw;(try dsimp only at hSw);go_simp;first|done|with_reducible rfl)
         (try simp only[Act.put,ZA,ZB,ZC])
         refine Zt 15 ⟨some 101,.extract (.tmp 86) 1,130, "second.go:274",#[⟨13,.data⟩,⟨18,.gcOnly .lateStores⟩],none⟩ ?_ rfl ?_ Zlz ?_
         rotate_left
         ·(intro W hSw;(try dsimp only at hSw);go_simp;first|done|with_reducible rfl)
         (try simp only[Act.put,ZA,ZB,ZC])
         refine Zt 16 ⟨some 102,.extract (.tmp 86) 2,30, "second.go:274",#[⟨13,.data⟩,⟨19,.gcOnly .lateStores⟩],none⟩ ?_ rfl ?_ Zlz ?_
         rotate_left
         ·(intro W hSw;(try dsimp only at hSw);go_simp;first|done|with_reducible rfl)
         (try simp only[Act.put,ZA,ZB,ZC])
         refine wpAnyH_ready (rs:=[17]) (by kernel_rfl) (by simp) ?_
         refine AllReadyH.cons (o:=⟨some 23,.alloc 130,0, "second.go:274",#[],none⟩) rfl (fun K hK=>?_) AllReadyH.nil
         go_simp
         obtain⟨WZ,hWZ⟩:∃ WZ,WZ=w6.alloc (.cells #[.slice none 0 0] 130):=⟨_,rfl⟩
         rw[←hWZ]
         obtain⟨bx,hbx⟩:∃ bx,bx=w6.heap.size:=⟨_,rfl⟩
         have MZ:Hid (WZ.heap[bx]? = some (.cells [.slice none 0 0].toArray 130 (0,0))):=by show _=_;rw[hWZ,hbx];exact heap_alloc_new _ _
         have hbz:Below w6.heap.size w6 WZ:=by rw[hWZ];exact Zg _ _
         have BZ:=Zb (Ze (Za HB6) hbz)
         have HM6:=Zb ((Za HM5).later hbz)
         have HS6:=Zb ((Za HS5).later hbz)
         have HBX2:Hid (wr.heap.size≤bx):=by show _≤_;rw[hbx];exact (Za HB6).size
         rw[←hbx]
         clear hbz hWZ hbx HB6 HM5 HS5
         refine hK.out _ _ ((Za KS) _ (Za BZ)) (fun Zma=>?_)
         clear hK K Zlz
         have Zlz:=Zma
         clear Zma
        rotate_left
        focus
         go_simp
         obtain⟨WA,hWA⟩:∃ WA,WA=wr.drew.alloc (.cells #[.slice none 0 0] 130):=⟨_,rfl⟩
         (first|rw[←hWA]|(rw[show (wr.alloc (.cells #[.slice none 0 0] 130)).drew=WA from hWA.symm]))
         have hbA:Below wr.heap.size wr WA:=by rw[hWA];exact Ze (Zh wr) (Zg _ _)
         obtain⟨bx,hbx⟩:∃ bx,bx=wr.heap.size:=⟨_,rfl⟩
         have MA:Hid (WA.heap[bx]? = some (.cells [.slice none 0 0].toArray 130 (0,0))):=by show _=_;rw[hWA,hbx];exact heap_alloc_new wr.drew _
         have HBX2:Hid (wr.heap.size≤bx):=by show _≤_;rw[hbx];exact Nat.le_refl _
         rw[←hbx]
         have HBA:=Zb hbA
         clear hWA hbx hbA
         refine hK.out _ _ ((Za KS) _ (Za HBA)) (fun Zma=>?_)
         clear hK K Zlz
         have Zlz:=Zma
         clear Zma
         (try simp only[Act.put,ZA,ZB,ZC])
         refine wpAnyH_ready (rs:=[12]) (by kernel_rfl) (by simp) ?_
         refine AllReadyH.cons (o:=⟨some 99,.call { callee:=Callee.value (.func 60),args:=#[.tmp 87,.tmp 92,.tmp 96,.tmp 98],argTypes:=#[29,52,3,3] },131, "second.go:274",#[⟨0,.data⟩,⟨5,.data⟩,⟨9,.data⟩,⟨11,.data⟩],none⟩) rfl (fun K hK=>?_) AllReadyH.nil
         refine Vq (by kernel_rfl) 60 #[.slice oa oon oc,.agg #[.int .i64 t1,.slice ai ni ci,.slice ao no2 co],.int .i64 nm,.int .i64 ht] (by kernel_rfl) ((Za AP) _ Zlz.1) ?_
         rintro e WZ ⟨am,nm6,cm,sa,ns,cs,rfl,hM6,sM6,hS6,sS6,hbc⟩
         refine⟨_,rfl,?_⟩
         have BZ:=Zb (Ze (Za HBA) hbc)
         have HM6:=Zb hM6
         have HS6:=Zb hS6
         have SM6:=Zb sM6
         have SS6:=Zb sS6
         have MZ:=Zb ((hbc.block _ (lt_of_block (Za MA))).trans (Za MA))
         clear hM6 hS6 sM6 sS6 hbc MA HBA
         refine hK.out _ _ ((Za KS) _ (Za BZ)) (fun Zma=>?_)
         clear hK K Zlz
         have Zlz:=Zma
         clear Zma
         (try simp only[Act.put,ZA,ZB,ZC])
         refine Zt 13 ⟨some 86,.move (.tmp 99),131, "second.go:274",#[⟨12,.data⟩],none⟩ ?_ rfl ?_ Zlz ?_
         rotate_left
         ·(intro W hSw;(try dsimp only at hSw);go_simp;first|done|with_reducible rfl)
         (try simp only[Act.put,ZA,ZB,ZC])
         refine Zt 14 ⟨some 100,.extract (.tmp 86) 0,29, "second.go:274",#[⟨13,.data⟩],none⟩ ?_ rfl ?_ Zlz ?_
         rotate_left
         ·(intro W hSw;(try dsimp only at hSw);go_simp;first|done|with_reducible rfl)
         (try simp only[Act.put,ZA,ZB,ZC])
         refine Zt 15 ⟨some 101,.extract (.tmp 86) 1,130, "second.go:274",#[⟨13,.data⟩,⟨18,.gcOnly .lateStores⟩],none⟩ ?_ rfl ?_ Zlz ?_
         rotate_left
         ·(intro W hSw;(try dsimp only at hSw);go_simp;first|done|with_reducible rfl)
         (try simp only[Act.put,ZA,ZB,ZC])
         refine Zt 16 ⟨some 102,.extract (.tmp 86) 2,30, "second.go:274",#[⟨13,.data⟩,⟨19,.gcOnly .lateStores⟩],none⟩ ?_ rfl ?_ Zlz ?_
         rotate_left
         ·(intro W hSw;(try dsimp only at hSw);go_simp;first|done|with_reducible rfl)
        all_goals
         (try simp only[Act.put,ZA,ZB,ZC])
         refine Zt 18 ⟨some 22,.assign (.tmp 100),29, "second.go:274",#[⟨14,.data⟩,⟨12,.chain⟩,⟨0,.phase⟩,⟨1,.phase⟩,⟨2,.phase⟩,⟨3,.phase⟩,⟨4,.phase⟩,⟨5,.phase⟩,⟨6,.phase⟩,⟨7,.phase⟩,⟨8,.phase⟩,⟨9,.phase⟩,⟨10,.phase⟩,⟨11,.phase⟩,⟨12,.phase⟩,⟨13,.phase⟩,⟨14,.phase⟩,⟨15,.textOnly .lateStores⟩,⟨16,.textOnly .lateStores⟩,⟨17,.phase⟩],none⟩ ?_ rfl ?_ Zlz ?_
         rotate_left
         ·(intro W hSw;(try dsimp only at hSw);go_simp;first|done|with_reducible rfl)
         (try simp only[Act.put,ZA,ZB,ZC])
         have z6:=Zd (Za MZ) 0 _ rfl
         have zf6:=Zi (Za MZ) 0
         have zl6:=lt_of_block (Za MZ)
         refine wpAnyH_ready (rs:=[19]) (by kernel_rfl) (by simp) ?_
         refine AllReadyH.cons (o:=⟨none,.store 130 (.tmp 23) (.tmp 101),0, "second.go:274",#[⟨17,.data⟩,⟨15,.data⟩,⟨18,.chain⟩,⟨0,.phase⟩,⟨1,.phase⟩,⟨2,.phase⟩,⟨3,.phase⟩,⟨4,.phase⟩,⟨5,.phase⟩,⟨6,.phase⟩,⟨7,.phase⟩,⟨8,.phase⟩,⟨9,.phase⟩,⟨10,.phase⟩,⟨11,.phase⟩,⟨12,.phase⟩,⟨13,.phase⟩,⟨14,.phase⟩,⟨15,.phase⟩,⟨16,.textOnly .lateStores⟩,⟨17,.phase⟩,⟨18,.phase⟩],none⟩) rfl (fun K hK=>?_) AllReadyH.nil
         go_simp
         refine hK.out _ _ ((Za KS) _ ((Za BZ).setCell (Za HBX2) _)) (fun Zma=>?_)
         clear hK K Zlz
         have Zlz:=Zma
         clear Zma
         (try simp only[Act.put,ZA,ZB,ZC])
         refine Zt 20 ⟨some 24,.assign (.tmp 102),30, "second.go:274",#[⟨16,.data⟩,⟨19,.chain⟩,⟨0,.phase⟩,⟨1,.phase⟩,⟨2,.phase⟩,⟨3,.phase⟩,⟨4,.phase⟩,⟨5,.phase⟩,⟨6,.phase⟩,⟨7,.phase⟩,⟨8,.phase⟩,⟨9,.phase⟩,⟨10,.phase⟩,⟨11,.phase⟩,⟨12,.phase⟩,⟨13,.phase⟩,⟨14,.phase⟩,⟨15,.phase⟩,⟨16,.phase⟩,⟨17,.phase⟩,⟨18,.phase⟩,⟨19,.phase⟩],none⟩ ?_ rfl ?_ Zlz ?_
         rotate_left
         ·(intro W hSw;(try dsimp only at hSw);go_simp;first|done|with_reducible rfl)
         (try simp only[Act.put,ZA,ZB,ZC])
         refine wpAnyH_done (by kernel_rfl) ?_ _
         have CS:=Zb (Cj (g0:=w1.heap.size) (Za BZ) (Za HBX2) (Za G0W) (Za MZ) (Za HM6) (Za SM6) (Za HS6) (Za SS6))
         obtain⟨Y,hY⟩:∃ Y,Y=WZ.setCell ⟨bx,0,none⟩ (.slice sa ns cs):=⟨_,rfl⟩
         rw[←hY] at CS ⊢
         have HKY:=Zb ((Za KS) Y (Za CS).1)
         clear hY Zlz KS AP z6 zf6 zl6 BZ HBX2 MZ HM6 SM6 HS6 SS6
         by_cases ey:y=0
         ·subst ey
          have few:=F3 (Za HAP)
          have HR2:=Zb (Mh (Za HAP)).2.1
          have ho6:no2≤6:=by rw[←(Za HOUT).1];exact (Xa (Za HCK2)).2.1
          have hs6:ns≤6:=by rw[←(Za CS).2.2.2.1.1];exact few.1
          obtain⟨f,hf⟩:∃ f,Z6 s - Yi O=f:=⟨_,rfl⟩
          have hfb : -6000000000≤f∧f≤6000000000:=by
           have q1:=Zfj few.1 few.2
           have q2:=Af (Xa (Za HCK2)).2.1 (Ja (Za HCK2))
           simp only at q2
           omega
          have hFb:=Zcg (Za HF) hlt hm4
          have hw:IntKind.i64.wrap (F+f)=F+f:=by rw[IntKind.wrap_i64];omega
          have hik:k+1=i:=by
           have e:=Za HI
           by_cases q:k+1<nn
           ·rw[Nat.mod_eq_of_lt q] at e;exact e
           ·rw[show k+1=nn by omega,Nat.mod_self] at e;omega
          have HF2:Hid (Uz T (S.set i s) nn (k+1) (F+f)):=by
           have q:=Zee (s:=s) (Za HF) (by omega) (Za ZT) (Za HSL) (t:=(t1,I,O)) (by rw[hik];exact Za HTG) (by simp only;omega) (by simp only;omega)
           rw[hik] at q
           simp only at q
           rw[hf] at q
           show Uz _ _ _ _ _
           rw[hik]
           exact q
          have HQ2:Hid (Wg ht r T N (nn - (k+1)) (k+1) M (S.set i s)=(x,C',S')):=by
           have e:=Za HEQ
           rw[if_neg (fun q=>hi1 q.1),if_neg (by decide)] at e
           exact e
          have FE:Hid (∀ U,Below Y.heap.size Y U→Calls Tryz.prog 61 #[.agg #[.int .i64 t1,.slice ai ni ci,.slice ao no2 co],.slice sa ns cs] U fun e w'=>e = .returned (.int .i64 f)∧Below U.heap.size U w'):=fun U hb=>
           Zbq sa ns cs s t1 ai ao ni ci no2 co O f U hs6 ho6 ((Za CS).2.2.2.1.later hb) ((Za HOUTx).later (Ze (Za CS).1 hb)) few.2 (Ja (Za HCK2)) hf
          have KS8:Hid (∀ U,Below Y.heap.size Y U→Below Y.heap.size Y U∧U.cell? ⟨w.heap.size,4,none⟩=some (.slice (some ⟨tb,tof,none⟩) nn c)∧U.cell? ⟨tb,tof+i*3,none⟩=some (.int .i64 t1)∧U.cell? ⟨tb,tof+i*3+1,none⟩=some (.slice ai ni ci)∧U.cell? ⟨tb,tof+i*3+2,none⟩=some (.slice ao no2 co)∧U.cell? ⟨bx,0,none⟩=some (.slice sa ns cs)):=fun U hb=>
           ⟨hb,Zc hb (Za HKY).2.2.1,Zc hb (Za HKY).2.2.2.1,Zc hb (Za HKY).2.2.2.2.1,Zc hb (Za HKY).2.2.2.2.2.1,Zc hb (Zd (Za CS).2.2.2.2.2.2 0 _ rfl)⟩
          clear few hs6 ho6 hFb hfb hik HEQ hf
          go_wp2_with fail
          refine wp_region_held_drew (S:=fun U=>Below Y.heap.size Y U∧U.cell? ⟨w.heap.size,4,none⟩=some (.slice (some ⟨tb,tof,none⟩) nn c)∧U.cell? ⟨tb,tof+i*3,none⟩=some (.int .i64 t1)∧U.cell? ⟨tb,tof+i*3+1,none⟩=some (.slice ai ni ci)∧U.cell? ⟨tb,tof+i*3+2,none⟩=some (.slice ao no2 co)∧U.cell? ⟨bx,0,none⟩=some (.slice sa ns cs)) (by kernel_rfl) ((Za KS8) _ (Zh _)) (fun Zlz=>?_)
          refine Zt 0 ⟨some 108,.move (.tmp 14),3, "second.go:279",#[],none⟩ ?_ rfl ?_ Zlz ?_
          rotate_left
          ·(intro W hSw;(try dsimp only at hSw);go_simp;first|done|with_reducible rfl)
          (try simp only[Act.put,ZA,ZB,ZC])
          refine Zt 1 ⟨some 109,.fieldAddr 68 (.tmp 5) 4,0, "second.go:279",#[],none⟩ ?_ rfl ?_ Zlz ?_
          rotate_left
          ·(intro W hSw;(try dsimp only at hSw);go_simp;first|done|with_reducible rfl)
          (try simp only[Act.put,ZA,ZB,ZC])
          refine Zt 2 ⟨some 110,.load 48 (.tmp 109),48, "second.go:279",#[⟨1,.data⟩],none⟩ ?_ rfl ?_ Zlz ?_
          rotate_left
          ·(intro W hSw;(try dsimp only at hSw);go_simp;first|done|with_reducible rfl)
          (try simp only[Act.put,ZA,ZB,ZC])
          refine Zt 3 ⟨some 111,.move (.tmp 18),3, "second.go:279",#[],none⟩ ?_ rfl ?_ Zlz ?_
          rotate_left
          ·(intro W hSw;(try dsimp only at hSw);go_simp;first|done|with_reducible rfl)
          (try simp only[Act.put,ZA,ZB,ZC])
          refine Zt 4 ⟨some 112,.indexAddr 48 (.tmp 110) (.tmp 111),0, "second.go:279",#[⟨2,.data⟩,⟨3,.data⟩],none⟩ ?_ rfl ?_ Zlz ?_
          rotate_left
          ·(intro W hSw;(try dsimp only at hSw);go_simp;first|done|with_reducible rfl)
          (try simp only[Act.put,ZA,ZB,ZC])
          refine Zt 5 ⟨some 113,.load 52 (.tmp 112),52, "second.go:279",#[⟨4,.data⟩],none⟩ ?_ rfl ?_ Zlz ?_
          rotate_left
          ·(intro W hSw;(try dsimp only at hSw);go_simp;first|done|with_reducible rfl)
          (try simp only[Act.put,ZA,ZB,ZC])
          refine Zt 6 ⟨some 114,.fieldAddr 130 (.tmp 23) 0,0, "second.go:279",#[],none⟩ ?_ rfl ?_ Zlz ?_
          rotate_left
          ·(intro W hSw;(try dsimp only at hSw);go_simp;first|done|with_reducible rfl)
          (try simp only[Act.put,ZA,ZB,ZC])
          refine Zt 7 ⟨some 115,.load 29 (.tmp 114),29, "second.go:279",#[⟨6,.data⟩],none⟩ ?_ rfl ?_ Zlz ?_
          rotate_left
          ·(intro W hSw;(try dsimp only at hSw);go_simp;first|done|with_reducible rfl)
          (try simp only[Act.put,ZA,ZB,ZC])
          refine wpAnyH_ready (rs:=[8]) (by kernel_rfl) (by simp) ?_
          refine AllReadyH.cons (o:=⟨some 116,.call { callee:=Callee.value (.func 61),args:=#[.tmp 113,.tmp 115],argTypes:=#[52,29] },3, "second.go:279",#[⟨5,.data⟩,⟨7,.data⟩],none⟩) rfl (fun K hK=>?_) AllReadyH.nil
          refine Vq (by kernel_rfl) 61 #[.agg #[.int .i64 t1,.slice ai ni ci,.slice ao no2 co],.slice sa ns cs] (by kernel_rfl) ((Za FE) _ Zlz.1) ?_
          rintro e Y2 ⟨rfl,hbc⟩
          refine⟨_,rfl,?_⟩
          have HBY2:=Zb (Ze Zlz.1 hbc)
          clear hbc
          refine hK.out _ _ ((Za KS8) _ (Za HBY2)) (fun Zma=>?_)
          clear hK K Zlz
          have Zlz:=Zma
          clear Zma
          (try simp only[Act.put,ZA,ZB,ZC])
          refine Zt 9 ⟨some 117,.binOp BinOp.add 3 (.tmp 108) (.tmp 116) 3,3, "second.go:279",#[⟨0,.data⟩,⟨8,.data⟩],none⟩ ?_ rfl ?_ Zlz ?_
          rotate_left
          ·(intro W hSw;(try dsimp only at hSw);go_simp;first|done|with_reducible rfl)
          (try simp only[Act.put,ZA,ZB,ZC])
          refine Zt 10 ⟨some 14,.assign (.tmp 117),3, "second.go:279",#[⟨9,.data⟩,⟨8,.chain⟩,⟨0,.phase⟩,⟨1,.phase⟩,⟨2,.phase⟩,⟨3,.phase⟩,⟨4,.phase⟩,⟨5,.phase⟩,⟨6,.phase⟩,⟨7,.phase⟩,⟨8,.phase⟩,⟨9,.phase⟩],none⟩ ?_ rfl ?_ Zlz ?_
          rotate_left
          ·(intro W hSw;(try dsimp only at hSw);go_simp;first|done|with_reducible rfl)
          (try simp only[Act.put,ZA,ZB,ZC])
          refine wpAnyH_done (by kernel_rfl) ?_ _
          clear Zlz KS8 FE
          have HBW2:=Zb (Ze (Za CS).1 (Za HBY2))
          have HM2:=Zb ((Za CS).2.1.later (Za HBY2))
          have HS2:=Zb ((Za CS).2.2.2.1.later (Za HBY2))
          have HU2:=Zb ((Za HUx).later (Za HBW2))
          have UO:Hid (UsOk 130 w1.heap.size nn Y2):=by have:=(Za HU2).ok;rw[Za HSL] at this;exact this
          have KS9:Hid (∀ U,Gr Y2 U (fun q=>q=w1.heap.size)→UsOk 130 w1.heap.size nn U→Gr Y2 U (fun q=>q=w1.heap.size)∧U.cell? ⟨bx,0,none⟩=some (.slice sa ns cs)∧UsOk 130 w1.heap.size nn U):=fun U hg ho=>
           have hb:=((Za HBY2).block _ (lt_of_block (Za CS).2.2.2.2.2.2)).trans (Za CS).2.2.2.2.2.2
           ⟨hg,Zd ((hg.block bx (lt_of_block hb) (Za CS).2.2.2.2.2.1).trans hb) 0 _ rfl,ho⟩
          obtain⟨zz,z6⟩:=(Za UO).cell hil
          have zf6:=(Za UO).free i
          have zl6:=(Za UO).lt
          go_wp2_with fail
          refine wp_region_held_drew (S:=fun U=>Gr Y2 U (fun q=>q=w1.heap.size)∧U.cell? ⟨bx,0,none⟩=some (.slice sa ns cs)∧UsOk 130 w1.heap.size nn U) (by kernel_rfl) ((Za KS9) _ (Gr.refl _ _).draw ((Za UO).later (Zh _))) (fun Zlz=>?_)
          refine Zt 0 ⟨some 118,.move (.tmp 13),79, "second.go:281",#[⟨4,.gcOnly .lateStores⟩],none⟩ ?_ rfl ?_ Zlz ?_
          rotate_left
          ·(intro W hSw;(try dsimp only at hSw);go_simp;first|done|with_reducible rfl)
          (try simp only[Act.put,ZA,ZB,ZC])
          refine Zt 1 ⟨some 119,.move (.tmp 18),3, "second.go:281",#[⟨4,.gcOnly .lateStores⟩],none⟩ ?_ rfl ?_ Zlz ?_
          rotate_left
          ·(intro W hSw;(try dsimp only at hSw);go_simp;first|done|with_reducible rfl)
          (try simp only[Act.put,ZA,ZB,ZC])
          refine Zt 2 ⟨some 120,.move (.tmp 22),29, "second.go:281",#[],none⟩ ?_ rfl ?_ Zlz ?_
          rotate_left
          ·(intro W hSw;(try dsimp only at hSw);go_simp;first|done|with_reducible rfl)
          (try simp only[Act.put,ZA,ZB,ZC])
          refine Zt 3 ⟨some 121,.load 130 (.tmp 23),130, "second.go:281",#[⟨4,.gcOnly .lateStores⟩],none⟩ ?_ rfl ?_ Zlz ?_
          rotate_left
          ·(intro W hSw;(try dsimp only at hSw);go_simp;first|done|with_reducible rfl)
          (try simp only[Act.put,ZA,ZB,ZC])
          refine Zt 4 ⟨some 1,.assign (.tmp 120),29, "second.go:281",#[⟨2,.data⟩,⟨0,.textOnly .lateStores⟩,⟨1,.textOnly .lateStores⟩,⟨2,.phase⟩,⟨3,.textOnly .lateStores⟩],none⟩ ?_ rfl ?_ Zlz ?_
          rotate_left
          ·(intro W hSw;(try dsimp only at hSw);go_simp;first|done|with_reducible rfl)
          (try simp only[Act.put,ZA,ZB,ZC])
          refine Zt 5 ⟨some 122,.indexAddr 79 (.tmp 118) (.tmp 119),0, "second.go:281",#[⟨0,.data⟩,⟨1,.data⟩,⟨0,.phase⟩,⟨1,.phase⟩,⟨2,.phase⟩,⟨3,.phase⟩,⟨4,.phase⟩],none⟩ ?_ rfl ?_ Zlz ?_
          rotate_left
          ·(intro W hSw;(try dsimp only at hSw);go_simp;first|done|with_reducible rfl)
          (try simp only[Act.put,ZA,ZB,ZC])
          refine wpAnyH_ready (rs:=[6]) (by kernel_rfl) (by simp) ?_
          refine AllReadyH.cons (o:=⟨none,.store 130 (.tmp 122) (.tmp 121),0, "second.go:281",#[⟨5,.data⟩,⟨3,.data⟩,⟨4,.chain⟩,⟨0,.phase⟩,⟨1,.phase⟩,⟨2,.phase⟩,⟨3,.phase⟩,⟨4,.phase⟩],none⟩) rfl (fun K hK=>?_) AllReadyH.nil
          go_simp
          refine hK.out _ _ ((Za KS9) _ ((Gr.refl Y2 (fun q=>q=w1.heap.size)).draw.one w1.heap.size i (.inl rfl) _) (UsOk.put ((Za UO).later (Zh _)) i _ _ _)) (fun Zma=>?_)
          clear hK K Zlz
          have Zlz:=Zma
          clear Zma
          (try simp only[Act.put,ZA,ZB,ZC])
          refine wpAnyH_done (by kernel_rfl) ?_ _
          clear Zlz KS9 z6 zf6 zl6
          have HBD:=Zb (Zh Y2)
          have HU3:=Zb (((Za HU2).later (Za HBD)).put i ((Za HS2).later (Za HBD)) (Za CS).2.2.2.2.1)
          have HM3:=Zb (Wh ((Za HM2).later (Za HBD)) ((Za UO).later (Za HBD)) ((Gr.refl Y2.drew (fun q=>q=w1.heap.size)).one w1.heap.size i (.inl rfl) (.slice sa ns cs)))
          have HG3:=Zb ((((Za HGx).trans (Gr.of (Za HBW2))).draw).one w1.heap.size i (.inl rfl) (.slice sa ns cs))
          have HSL2:Hid ((S.set i s).length=nn):=by show _=_;rw[List.length_set];exact Za HSL
          obtain⟨Q,hQ⟩:∃ Q,Q=Y2.drew.setCell ⟨w1.heap.size,i,none⟩ (.slice sa ns cs):=⟨_,rfl⟩
          rw[←hQ] at HM3 HU3 HG3
          (first|rw[←hQ]|(rw[show (Y2.setCell ⟨w1.heap.size,i,none⟩ (.slice sa ns cs)).drew=Q from hQ.symm]))
          have SM3:=Zb (Za CS).2.2.1
          clear hQ HBD HM2 HS2 HU2 UO CS HKY HBW2 HBY2
          go_wp2
          go_roundw
          case rel=>exact⟨k+1,am,nm6,cm,M,S.set i s,F+f,by omega,rfl,rfl,by go_num,(⟨Za HM3,Za SM3,Za HR2⟩:CoinsAt Q am nm6 M∧SlOk am nm6 cm∧Ye M),HU3,HSL2,HF2,HQ2,HG3⟩
          case measure=>simp[intOf];omega
         ·have g:(y != 0)=true:=by simp[ey]
          have HE2:Hid ((y,([]:List Zf),([]:List (List Zf)))=(x,C',S')):=by have e:=Za HEQ;rw[if_neg (fun q=>hi1 q.1),if_pos ey] at e;exact e
          have HWW:=Zb (Ze (Za HBX) (Ze ((Za HBV) wr (Za HGx)) (Za CS).1))
          clear CS HKY HEQ
          go_wp2
          (try simp only[Exit.inBlock,Exit.then])
          refine bodyPost_ret (v:=.tuple #[.slice none 0 0,.slice none 0 0,.int .i64 y]) ?_ rfl (Jl (Za HE2) (Za HWW))
          simp[results,Tryz.f41,go_sem]
     ·have hkm:m=k:=by omega
      subst hkm
      have HE2:Hid ((0,C,S)=(x,C',S')):=by have e:=Za HQ;rw[Nat.sub_self] at e;exact e
      have HWW:=Zb (Ze (Za HBX) (Ze (Za HB1) ((Za GB) wr (Za HG))))
      have hus:UndosAt wr (some ⟨w1.heap.size,0,none⟩) m S:=by have q:=(Za HU).undos;rw[Za HSL] at q;exact q
      have HEND:Hid (Zir w wr x C' S' (.returned (.tuple #[.slice oa oon oc,.slice (some ⟨w1.heap.size,0,none⟩) m m,.int .i64 0]))):=by
       obtain⟨e1,e2⟩:=Prod.mk.inj (Za HE2)
       obtain⟨e2,e3⟩:=Prod.mk.inj e2
       subst e1 e2 e3
       exact⟨oa,oon,oc,some ⟨w1.heap.size,0,none⟩,m,m,rfl,(Za HO).1,(Za HO).2.1,hus,⟨Nat.le_refl _,by unfold maxLen;omega,fun h=>by cases h⟩,Za HWW,fun ad e=>by cases e;exact Nat.le_trans (Za HBX).size (Za HB1).size⟩
      clear HQ hlt hus HE2
      go_wp2
      (try simp only[Exit.inBlock,Exit.then])
      refine bodyPost_ret (v:=.tuple #[.slice oa oon oc,.slice (some ⟨w1.heap.size,0,none⟩) m m,.int .i64 0]) ?_ rfl (Za HEND)
      simp[results,Tryz.f41,go_sem]
end Go.Proofs.YtpikejjiignchaaGreatDoor
