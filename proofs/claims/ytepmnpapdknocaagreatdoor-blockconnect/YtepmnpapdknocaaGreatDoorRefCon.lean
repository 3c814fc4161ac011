/- The contract of the reference's Connected, its main way (written by a program of ours: mkcon.py). -/
import Derived.Test.YtepmnpapdknocaaGreatDoorBlkDisAToRefRew
import Derived.Test.YtepmnpapdknocaaGreatDoorRefFeeToRefRunA
import Derived.Test.YtepmnpapdknocaaGreatDoorRefApAToRefConM
import Derived.Test.YtepmnpapdknocaaGreatDoorBlkConW
namespace Go.Proofs.YtepmnpapdknocaaGreatDoor
open Go.RowKit
theorem Zgy{h r:Int}(e:rwD h=(r,0)):0≤r∧r≤64:=by
 unfold rwD at e
 split at e
 ·injection e with e _
  have:=Tk ((h - 1).toNat / 8)
  omega
 ·injection e with _ e
  exact absurd e (by decide)
def upL(k:Nat):List Int:=(List.range k).map fun j=>((j+1:Nat):Int)
theorem Me(k:Nat):(upL k).length=k:=by simp[upL]
theorem Zbn(k:Nat):upL (k+1)=upL k++[(k:Int)+1]:=by simp[upL,List.range_succ]
theorem Zgs{m i:Nat}(h:i<m):(upL (m - 1)++[0]).getD i 0=(((i+1) % m:Nat):Int):=by
 rw[List.getD_eq_getElem?_getD]
 by_cases q:i<m - 1
 ·rw[List.getElem?_append_left (by rw[Me];exact q)]
  rw[Nat.mod_eq_of_lt (by omega)]
  simp[upL,q]
 ·obtain rfl:i=m - 1:=by omega
  rw[List.getElem?_append_right (by rw[Me];exact Nat.le_refl _),Me,Nat.sub_self,show m - 1+1=m by omega,Nat.mod_self]
  rfl
set_option maxRecDepth 10000 in
set_option maxHeartbeats 12800000 in
theorem Ex(ka:Option Addr)(kn kc:Nat)(K:List ByteArray)(la:Option Addr)(ln lc:Nat)(C0:List Zb)(p ht k0 n:Int)(a:Option Addr)(m c:Nat)(T:List TxD)(X1:List ByteArray)(nm1:Int)(N:List Int)(r:Int)(x:Int)(C':List Zb)(S':List (List Zb))(w:World)(hE:EnvF w)(hK:Bk.TextsAt w ka kn K)(sK:Bk.SlOk ka kn kc)(hR:Bk.Right K)(hC:CoinsAt w la ln C0)(sC:SlOk la ln lc)(hRC:Zs C0)(hT:TxsAt w a m T)(sT:SlOk a m c)(hnm:Wn K (p,ht,k0,n,T)=(X1,nm1,N,0))(hr:rwD ht=(r,0))(hx:Xd ht r T N m 0 C0 (List.replicate m [])=(x,C',S')) :
  Calls Tryz.prog 15 #[.slice ka kn kc,.slice la ln lc,.agg #[.int .i64 p,.int .i64 ht,.int .i64 k0,.int .i64 n,.slice a m c]] w fun e w'=>Zet w w' x C' S' e:=by
 obtain⟨X,hX⟩:∃ X,X=w.alloc (.cells #[.int .i64 p,.int .i64 ht,.int .i64 k0,.int .i64 n,.slice a m c] 28):=⟨_,rfl⟩
 have hbX:Below w.heap.size w X:=by rw[hX];exact bel_new _ _
 have hXb:X.heap[w.heap.size]? = some (.cells [.int .i64 p,.int .i64 ht,.int .i64 k0,.int .i64 n,.slice a m c].toArray 28 (0,0)):=by rw[hX];exact Yd _ _ _ _ _ _ _
 have NF:=hide (W7 ka kn kc K p ht k0 n a m c T X1 nm1 N 0 X (hE.later hbX) (hK.later hbX) sK hR (hT.later hbX) hnm)
 have hb0:=(Uh hnm).1
 obtain⟨hm0,hm4,hh1,hh2⟩:=Un hb0
 have zT:T.length=m:=hT.1
 rw[show (p,ht,k0,n,T).2.2.2.2=T from rfl,zT] at hm0 hm4
 have zN:N.length=m:=by rw[(Uh hnm).2.2.2.2.1];simpa using zT
 have hck:∀ t∈T,Zj t=0:=(Ve hb0).2.2.2.2
 obtain⟨i0,hi,hz0,hz1,hz2⟩:=info_parts Tryz.infoInt
 obtain⟨i1,ii,iz0,iz1,iz2⟩:=info_parts Tryz.infoUndo
 obtain⟨tb,tof,rfl,_,htc0⟩:=hT.2 hm0
 have x0:=Za hXb 0 _ rfl
 have x1:=Za hXb 1 _ rfl
 have x2:=Za hXb 2 _ rfl
 have x3:=Za hXb 3 _ rfl
 have x4:=Za hXb 4 _ rfl
 have xl:=lt_of_block hXb
 have HBX:=hide hbX
 have HXB:=hide hXb
 have HC:=hide (hC.later hbX)
 have HT:=hide (hT.later hbX)
 have HCK:=hide hck
 have HRC:=hide hRC
 have HX:=hide hx
 have ZT:=hide zT
 have ZN:=hide zN
 have HRW:=hide hr
 have hmc:m≤c:=sT.1
 have hcm:c≤maxLen:=sT.2.1
 have HH:=hide (And.intro hh1 hh2)
 clear hE hK sK hR hC hRC hT hnm hx hbX hXb hb0 hck zT zN hr hh1 hh2 htc0 sT
 go_enter Tryz.func15,Tryz.ntmps15
 go_wp2_with fail
 rw[←hX]
 clear hX
 (try go_wp2_with fail)
 refine (unhide NF).mono ?_
 rintro e w1 ⟨a',n',c',na,nn,nc,rfl,_,_,hN,hb1⟩
 have y4:=cell_later hb1 x4
 have yl:=World.block_lt_of_cell? _ _ y4
 have HN:=hide hN
 have HB1:=hide hb1
 have mi1:((1:Int)≤(m:Int)):=by omega
 clear hN hb1 NF x0 x1 x2 x3 x4 xl
 go_wp2_with (at_make;refine wpList_make_full _ rfl _ _ 29 rfl w1.heap.size 68 i1 (.agg #[.slice none 0 0]) 1 Tryz.underlying29 ii iz0 iz1 .i64 .i64 _ _ m rfl rfl rfl rfl (by rw[iz2];omega) (by unfold maxLen;omega) (Nat.le_refl _) ?_;intro w2 hown2 hgrow2;have hb2:Below w1.heap.size w1 w2:=(Below.refl _ _).grown hgrow2 (Nat.le_refl _) (fun k h=>by cases h);have z4:=cell_later hb2 y4;have zl:=World.block_lt_of_cell? _ _ z4;have HB2:=hide hb2;have HU2:Hid (UsAt 68 w1.heap.size (List.replicate m []) w2):=Zbm (base:=w1.heap.size) (by rw[←Li];exact hown2);clear hown2 hgrow2 hb2)
 all_goals
  obtain⟨V3,hV3⟩:∃ V,V=w2.alloc (.cells #[] 3):=⟨_,rfl⟩
  rw[←hV3]
  have hb3:Below w2.heap.size w2 V3:=by rw[hV3];exact bel_new _ _
  have hYs:V3.heap[w2.heap.size]? = some (.cells #[] 3 (0,0)):=by rw[hV3];exact heap_alloc_new _ _
  have OW:Hid (V3.ownsRow w2.heap.size 3 1 (.slice (some ⟨w2.heap.size,0,none⟩) 0 0) 0 ((upL 0).map (Value.int .i64))):=by
   show World.ownsRow _ _ _ _ _ _ _
   exact⟨rfl,.inr ⟨w2.heap.size,0,_,rfl,Nat.le_refl _,hYs,Nat.le_refl _,by unfold maxLen;omega,rfl,rfl⟩⟩
  have HB3:=hide hb3
  clear hV3 hYs hb3 z4 zl y4 yl mi1
  go_loopw [15,45] (fun ov iv wr=>∃ (k:Nat) (oc:Nat) (g:Nat),k≤m - 1∧ov = .slice (some ⟨g,0,none⟩) k oc∧iv = .int .i64 (k:Int)∧Hid (wr.ownsRow w2.heap.size 3 1 (.slice (some ⟨g,0,none⟩) k oc) k ((upL k).map (Value.int .i64)))∧Hid (Below w2.heap.size w2 wr)) (fun _ iv _=>m - 1 - (intOf iv).toNat)
  case atStart=>exact⟨0,0,w2.heap.size,Nat.zero_le _,rfl,rfl,OW,HB3⟩
  case round=>
   obtain⟨k,oc,g,hk,rfl,rfl,HO,HB⟩:=hrel
   clear OW HB3
   by_cases hlt:k<m - 1
   ·first
    | (exfalso;omega)
    |skip
     have hkI:(k:Int)<((m - 1:Nat):Int):=by omega
     have hbn:=bel_new wr (.cells #[.int .i64 ((k:Int)+1)] 3)
     have OWN5:=hide ((Gr.of (S:=fun _=>False) hbn).own (unhide HO) (fun _ _ q=>q))
     have NEWS:=hide (World.news_of_block (heap_alloc_new wr (.cells #[.int .i64 ((k:Int)+1)] 3)))
     have HB6:=hide (bel_on (unhide HB) hbn)
     have hw1:IntKind.i64.wrap ((k:Int)+1)=((k:Int)+1):=by rw[IntKind.wrap_i64];omega
     clear hbn
     go_wp2_with (at_builtin;refine wpList_append_lies _ rfl _ _ 30 rfl w2.heap.size 3 i0 (.int .i64 0) 1 8 Tryz.underlying30 hi hz0 hz1 hz2 rfl (by decide) _ _ _ rfl (unhide OWN5) ⟨wr.heap.size,0,none⟩ 1 1 [.int .i64 ((k:Int)+1)] rfl rfl (unhide NEWS) (fun u hu=>by simp at hu;subst hu;rfl) (by decide) (by unfold maxLen;omega) (by omega) (unhide HB6).size _ rfl ?_;intro g7 cap7 w7 hown7 hgrow7 hor7 _)
     have OWN7:Hid (w7.ownsRow w2.heap.size 3 1 (.slice (some ⟨g7,0,none⟩) (k+1) cap7) (k+1) ((upL (k+1)).map (Value.int .i64))):=by
      show World.ownsRow _ _ _ _ _ _ _
      rw[Zbn,List.map_append]
      exact hown7
     have HB7:=hide ((unhide HB6).grown hgrow7 (unhide HB6).size (fun k hk=>((unhide OWN5).lt k hk).1))
     clear hown7 hgrow7 hor7
     go_wp2
     go_roundw
     case rel=>exact⟨k+1,cap7,g7,by omega,rfl,by go_num,OWN7,HB7⟩
     case measure=>simp[intOf];omega
   ·obtain rfl:k=m - 1:=by omega
    clear hk hlt
    have hbn:=bel_new wr (.cells #[.int .i64 0] 3)
    have OWN5:=hide ((Gr.of (S:=fun _=>False) hbn).own (unhide HO) (fun _ _ q=>q))
    have NEWS:=hide (World.news_of_block (heap_alloc_new wr (.cells #[.int .i64 0] 3)))
    have HB6:=hide (bel_on (unhide HB) hbn)
    have hme:m - 1+1=m:=by omega
    clear hbn
    go_wp2_with (at_builtin;refine wpList_append_lies _ rfl _ _ 30 rfl w2.heap.size 3 i0 (.int .i64 0) 1 8 Tryz.underlying30 hi hz0 hz1 hz2 rfl (by decide) _ _ _ rfl (unhide OWN5) ⟨wr.heap.size,0,none⟩ 1 1 [.int .i64 0] rfl rfl (unhide NEWS) (fun u hu=>by simp at hu;subst hu;rfl) (by decide) (by unfold maxLen;omega) (by omega) (unhide HB6).size _ rfl ?_;intro g7 cap7 Z hown7 hgrow7 hor7 _;rw[hme] at hown7 ⊢)
    have OWN7:Z.ownsRow w2.heap.size 3 1 (.slice (some ⟨g7,0,none⟩) m cap7) m ((upL (m - 1)++[0]).map (Value.int .i64)):=by
     rw[List.map_append]
     exact hown7
    have hbZ:Below w2.heap.size w2 Z:=(unhide HB6).grown hgrow7 (unhide HB6).size (fun k hk=>((unhide OWN5).lt k hk).1)
    obtain⟨ra,rcap,hre,hrow⟩:=J7 OWN7
    cases hre
    obtain⟨rb,ro,hre,hrc⟩:=hrow.2.2 hm0
    cases hre
    have g0l:w1.heap.size<w2.heap.size:=(unhide HU2).ok.lt
    have g7b:w2.heap.size≤g7:=by
     obtain⟨_,_,e,_,q⟩:=Gp OWN7
     cases e
     obtain⟨g,e,q,_⟩:=q hm0
     cases e
     exact q
    have ROWC:Hid (∀ V,Gr Z V (fun q=>q=w1.heap.size)→∀ i,i<m→V.cell? ⟨g7,i,none⟩=some (.int .i64 (((i+1) % m:Nat):Int))):=fun V hg i hi=>by
     have q:=hrc i hi
     rw[Nat.zero_add,Zgs hi] at q
     exact (World.cell?_of_block (a:=⟨g7,i,none⟩) (hg.block g7 (World.block_lt_of_cell? _ _ q) (by omega))).trans q
    have HU3:=hide ((unhide HU2).later hbZ)
    have GB:Hid (∀ V,Gr Z V (fun q=>q=w1.heap.size)→Below w1.heap.size w1 V):=fun V g=>g.below (bel_on (unhide HB2) hbZ) (by have:=hbZ.size;omega) (fun q e=>by rw[e];exact Nat.le_refl _)
    have FE0:=hide (Bf (unhide ZT))
    have HC3:Hid (CoinsAt Z la ln C0):=(unhide HC).later (bel_on (unhide HB1) ((unhide GB) Z (Gr.refl _ _)))
    have FEW0:Hid (∀ s∈List.replicate m ([]:List Zb),s.length≤6∧∀ x∈s,0≤cv x∧cv x≤1000000000):=fun s hs=>by rw[(List.mem_replicate.1 hs).2];exact⟨by simp,fun x hx=>by cases hx⟩
    clear hown7 OWN7 hgrow7 hor7 hrow hrc hbZ OWN5 NEWS HB6 HB HO HU2 hi hz0 hz1 hz2 ii iz0 iz1 iz2 hme HC
    go_loopw [1,14,58] (fun lv fv iv V=>∃ (k:Nat) (oa:Option Addr) (oon oc:Nat) (C:List Zb) (S:List (List Zb)) (F:Int),k≤m∧lv = .slice oa oon oc∧fv = .int .i64 F∧iv = .int .i64 k∧Hid (CoinsAt V oa oon C∧SlOk oa oon oc∧Zs C)∧Hid (UsAt 68 w1.heap.size S V)∧Hid (S.length=m)∧Hid (Wf T S m k F)∧Hid (Xd ht r T N (m - k) k C S=(x,C',S'))∧Hid (Gr Z V (fun q=>q=w1.heap.size))) (fun _ _ iv _=>m - (intOf iv).toNat)
    case atStart=>exact⟨0,la,ln,lc,C0,List.replicate m [],0,Nat.zero_le _,rfl,rfl,rfl,(⟨unhide HC3,sC,unhide HRC⟩:CoinsAt Z la ln C0∧SlOk la ln lc∧Zs C0),HU3,(List.length_replicate:(List.replicate m ([]:List Zb)).length=m),FE0,HX,(Gr.refl _ _:Gr Z Z (fun q=>q=w1.heap.size))⟩
    case round=>
     obtain⟨k,oa,oon,oc,C,S,F,hk,rfl,rfl,rfl,HO,HU,HSL,HF,HQ,HG⟩:=hrel
     clear HX HU3 HC3 HRC FE0 FEW0
     by_cases hlt:k<m
     ·have hil:(k+1) % m<m:=Nat.mod_lt _ hm0
      have hkI:(k:Int)<(m:Int):=by omega
      have ok:=(unhide ROWC) wr (unhide HG) k hlt
      have okl:=World.block_lt_of_cell? _ _ ok
      obtain⟨i,hi⟩:∃ i,(k+1) % m=i:=⟨_,rfl⟩
      rw[hi] at hil ok
      have hmk:m - k=(m - (k+1))+1:=by omega
      have hiT:i<T.length:=by rw[unhide ZT];exact hil
      have hiN:i<N.length:=by rw[unhide ZN];exact hil
      obtain⟨t1,I,O,htx⟩:∃ t1 I O,T[i]=(t1,I,O):=⟨_,_,_,rfl⟩
      obtain⟨nm,hnm⟩:∃ nm,N[i]=nm:=⟨_,rfl⟩
      obtain⟨y,M,s,hap⟩:∃ y M s,apD C (t1,I,O) nm ht=(y,M,s):=⟨_,_,_,rfl⟩
      have HTG:Hid (T.getD i Wg=(t1,I,O)):=by show _=_;rw[List.getD_eq_getElem?_getD,List.getElem?_eq_getElem hiT];exact htx
      have HEQ:=unhide HQ
      rw[hmk,Tb (i:=i) (by rw[unhide ZT];exact hi) (t:=(t1,I,O)) (unhide HTG) (nm:=nm) (by rw[List.getD_eq_getElem?_getD,List.getElem?_eq_getElem hiN];exact hnm) hap,unhide ZT] at HEQ
      have HEQ:=hide HEQ
      have HBV:Hid (∀ V,Gr Z V (fun q=>q=w1.heap.size)→Below X.heap.size X V):=fun V g=>bel_on (unhide HB1) ((unhide GB) V g)
      have hBw:=(unhide HBV) wr (unhide HG)
      obtain⟨tb',tof',e,_,htc⟩:=(unhide HT).2 hm0
      cases e
      have tc:=TxAt.kept _ _ _ _ _ hBw (htc i hiT)
      have hck:=(unhide HCK) T[i] (List.getElem_mem hiT)
      rw[htx] at tc hck
      obtain⟨c0,⟨ai,ni,ci,c1,hIn,sIn⟩,ao,no2,co,c2,hOut,sOut⟩:=tc
      have hnn:nn=m:=(unhide HN).1.symm.trans (unhide ZN)
      obtain⟨nb,no,rfl,hcn⟩:=(unhide HN).2 (by omega)
      have c4:=cell_later ((unhide GB) wr (unhide HG)) (hcn i hiN)
      rw[hnm] at c4
      simp only at c0 c1 c2 hIn hOut
      have hxb:=(hBw.block _ (lt_of_block (unhide HXB))).trans (unhide HXB)
      have v1:=Za hxb 1 _ rfl
      have v4:=Za hxb 4 _ rfl
      have HAP:=hide hap
      have HCK2:=hide hck
      have HI:=hide hi
      have HIN:Hid (InsAt wr ai ni I):=hIn
      have HOUT:Hid (OutsAt wr ao no2 O):=hOut
      have hiI:(i:Int)<(m:Int):=by omega
      have hi0:¬((i:Int)<0):=by omega
      have g0w:w1.heap.size<wr.heap.size:=(unhide HU).ok.lt
      subst hnn
      clear hap hck hi hIn hOut hBw htc hcn hxb htx hnm sIn sOut HQ hmk
      by_cases hi1:i=0
      ·have hie:((i:Int) == 0)=true:=by simp[hi1]
       have hiN0:¬((0:Int)<(i:Int)):=by omega
       have hm0I:(0:Int)<(nn:Int):=by omega
       have d2:wr.cell? ⟨tb,tof+2,none⟩=some (.slice ao no2 co):=by have:=c2;rw[hi1,Nat.zero_mul,Nat.add_zero] at this;exact this
       have tbl:=World.block_lt_of_cell? _ _ d2
       have vl:=World.block_lt_of_cell? _ _ v4
       have HI1:=hide hi1
       have HT0:Hid ((T.getD 0 Wg).2.2=O):=by show _=_;have:=unhide HTG;rw[hi1] at this;rw[this]
       have HCS:=hide (And.intro c0 (And.intro c1 (And.intro c2 (And.intro c4 (And.intro v1 v4)))))
       have HZO:Hid (O.length=no2):=(unhide HOUT).1
       have HOB:Hid (∀ j,0≤Yc (O.take j)∧Yc (O.take j)≤6000000000):=fun j=>P4 (Nat.le_trans (by rw[List.length_take];exact Nat.min_le_right _ _) (Ya (unhide HCK2)).2.1) (fun x hx=>Vy (unhide HCK2) x (List.mem_of_mem_take hx))
       have ho6:no2≤6:=by rw[←unhide HZO];exact (Ya (unhide HCK2)).2.1
       clear hi1 c0 c1 c2 c4
       obtain⟨V0,hV0⟩:∃ V0,V0=wr:=⟨_,rfl⟩
       subst hV0
       go_wp2
       go_loopw [19,70] (fun sv iv V=>∃ (j:Nat) (d:Int),j≤no2∧sv = .int .i64 d∧iv = .int .i64 j∧Hid (d=Yc (O.take j))∧Hid (Below V0.heap.size V0 V)) (fun _ iv _=>no2 - (intOf iv).toNat)
       case atStart=>exact⟨0,0,Nat.zero_le _,rfl,rfl,rfl,(Below.refl _ _:Below V0.heap.size V0 V0)⟩
       case round=>
        obtain⟨j,d,hj,rfl,rfl,D,HD⟩:=hrel
        have hbd:=unhide HD
        by_cases hjl:j<no2
        ·have hlk:j<O.length:=by rw[unhide HZO];exact hjl
         obtain⟨b,off,rfl,hbl,hcell⟩:=(unhide HOUT).2 (by omega)
         have hin:=OutAt.kept _ _ _ _ _ hbd (hcell j hlk)
         have d1:=(unhide HOB) j
         have d3:=(unhide HOB) (j+1)
         have hst:=Jj O j hlk
         obtain⟨o,hc⟩:∃ o,O[j]=o:=⟨_,rfl⟩
         rw[hc] at hin hst
         obtain⟨q1,q2⟩:=o
         obtain⟨g0,la',ln',lc',g1,_,_⟩:=hin
         simp only at g0 g1 hst
         have hd:d=Yc (O.take j):=unhide D
         have A3:Hid (d+q1=Yc (O.take (j+1))):=by show _=_;rw[hst];omega
         have HB2':=hide (bel_on (unhide HD) (bel_new wr (.cells #[.int .i64 q1,.slice la' ln' lc'] 84)))
         have hw1:IntKind.i64.wrap (d+q1)=d+q1:=by rw[IntKind.wrap_i64];omega
         clear hc hst D HD hd d1 d3 hbd hcell
         go_wp2
         go_roundw
         case rel=>exact⟨j+1,d+q1,by omega,rfl,by go_num,A3,HB2'⟩
         case measure=>simp[intOf];omega
        ·have e:no2=j:=by omega
         subst e
         have hd:d=Yc O:=by
          have:=unhide D
          rw[List.take_of_length_le (by rw[unhide HZO];exact Nat.le_refl _)] at this
          exact this
         have hdb:=(unhide HOB) no2
         rw[←unhide D] at hdb
         have e1:=cell_later hbd v1
         have el:=World.block_lt_of_cell? _ _ e1
         have RW:=hide (Ap ht r wr (unhide HH).1 (unhide HH).2 (unhide HRW))
         have hrb:0≤r∧r≤64:=Zgy (unhide HRW)
         have hFb:=M9 (unhide HF) hlt hm4
         have hw2:IntKind.i64.wrap (r+F)=r+F:=by rw[IntKind.wrap_i64];omega
         have hk1:k+1=nn:=by
          have e:=unhide HI
          by_cases q:k+1<nn
          ·rw[Nat.mod_eq_of_lt q] at e;have:=unhide HI1;omega
          ·omega
         have hiff:Yt r T S nn<0↔r+F<d:=by rw[Zdz (unhide HF) hk1,unhide HT0,hd]
         have HIFF:=hide hiff
         clear hd hdb hrb hFb hiff hk1 D v1 v4 tbl vl d2 hbd
         go_wp2_with fail
         refine (unhide RW).mono ?_
         rintro e V2 ⟨rfl,hb2⟩
         have HB2':=hide (bel_on (unhide HD) hb2)
         clear RW hb2 e1 el HD
         by_cases hq:r+F<d
         ·have HE2:Hid (((9:Int),([]:List Zb),([]:List (List Zb)))=(x,C',S')):=by have e:=unhide HEQ;rw[if_pos ⟨unhide HI1,(unhide HIFF).2 hq⟩] at e;exact e
          have HWW:=hide (bel_on (unhide HBX) (bel_on ((unhide HBV) V0 (unhide HG)) (unhide HB2')))
          clear HEQ HIFF
          go_wp2
          (try simp only[Exit.inBlock,Exit.then])
          refine bodyPost_ret (v:=.tuple #[.slice none 0 0,.slice none 0 0,.int .i64 9]) ?_ rfl (Vi (unhide HE2) (unhide HWW))
          simp[results,Tryz.f15,go_sem]
         ·have NEG:Hid (¬(i=0∧Yt r T S nn<0)):=fun q=>hq ((unhide HIFF).1 q.2)
          have HOx:Hid (CoinsAt V2 oa oon C∧SlOk oa oon oc∧Zs C):=⟨(unhide HO).1.later (unhide HB2'),(unhide HO).2⟩
          have HUx:=hide ((unhide HU).later (unhide HB2'))
          have HGx:Hid (Gr Z V2 (fun q=>q=w1.heap.size)):=(unhide HG).on (unhide HB2')
          have HINx:=hide ((unhide HIN).later (unhide HB2'))
          have HOUTx:=hide ((unhide HOUT).later (unhide HB2'))
          have G0W:Hid (w1.heap.size<V2.heap.size):=Nat.lt_of_lt_of_le g0w (unhide HB2').size
          have c0:=cell_later (unhide HB2') (unhide HCS).1
          have c1:=cell_later (unhide HB2') (unhide HCS).2.1
          have c2:=cell_later (unhide HB2') (unhide HCS).2.2.1
          have c4:=cell_later (unhide HB2') (unhide HCS).2.2.2.1
          have v1:=cell_later (unhide HB2') (unhide HCS).2.2.2.2.1
          have v4:=cell_later (unhide HB2') (unhide HCS).2.2.2.2.2
          clear HIFF HCS
          have AP:Hid (∀ U,Below V2.heap.size V2 U→Calls Tryz.prog 42 #[.slice oa oon oc,.agg #[.int .i64 t1,.slice ai ni ci,.slice ao no2 co],.int .i64 nm,.int .i64 ht] U fun e w'=>ApR U w' y M s e):=fun U hb=>
           Pg oa oon oc C t1 ai ao ni ci no2 co I O nm ht y M s U ((unhide HOx).1.later hb) (unhide HOx).2.1 ((unhide HINx).later hb) ((unhide HOUTx).later hb) (unhide HOx).2.2 (unhide HCK2) (unhide HAP)
          have KS:Hid (∀ U,Below V2.heap.size V2 U→Below V2.heap.size V2 U∧U.cell? ⟨w.heap.size,1,none⟩=some (.int .i64 ht)∧U.cell? ⟨w.heap.size,4,none⟩=some (.slice (some ⟨tb,tof,none⟩) nn c)∧U.cell? ⟨tb,tof+i*3,none⟩=some (.int .i64 t1)∧U.cell? ⟨tb,tof+i*3+1,none⟩=some (.slice ai ni ci)∧U.cell? ⟨tb,tof+i*3+2,none⟩=some (.slice ao no2 co)∧U.cell? ⟨nb,no+i,none⟩=some (.int .i64 nm)):=fun U hb=>
           ⟨hb,cell_later hb v1,cell_later hb v4,cell_later hb c0,cell_later hb c1,cell_later hb c2,cell_later hb c4⟩
          clear c0 c1 c2 c4 v1 v4
          go_wp2_with fail
          refine wp_region_held_drew (S:=fun U=>Below V2.heap.size V2 U∧U.cell? ⟨w.heap.size,1,none⟩=some (.int .i64 ht)∧U.cell? ⟨w.heap.size,4,none⟩=some (.slice (some ⟨tb,tof,none⟩) nn c)∧U.cell? ⟨tb,tof+i*3,none⟩=some (.int .i64 t1)∧U.cell? ⟨tb,tof+i*3+1,none⟩=some (.slice ai ni ci)∧U.cell? ⟨tb,tof+i*3+2,none⟩=some (.slice ao no2 co)∧U.cell? ⟨nb,no+i,none⟩=some (.int .i64 nm)) (by kernel_rfl) ((unhide KS) _ (Zc _)) (fun hHeld=>?_)
          refine wpAnyH_take (i:=0) (oi:=⟨some 87,.move (.tmp 1),25, "second.go:274",#[],none⟩) (v:=?_) rfl (by kernel_rfl) (by kernel_rfl) (by kernel_rfl) (fun _ _ _ h=>h) (Or.inl ⟨by rfl,?_⟩) hHeld ?_
          rotate_left
          ·(intro W hSw;(try dsimp only at hSw);go_simp;first|done|with_reducible rfl)
          (try simp only[Act.put,ZA,ZB,ZC])
          refine wpAnyH_take (i:=1) (oi:=⟨some 88,.fieldAddr 28 (.tmp 5) 4,0, "second.go:274",#[],none⟩) (v:=?_) rfl (by kernel_rfl) (by kernel_rfl) (by kernel_rfl) (fun _ _ _ h=>h) (Or.inl ⟨by rfl,?_⟩) hHeld ?_
          rotate_left
          ·(intro W hSw;(try dsimp only at hSw);go_simp;first|done|with_reducible rfl)
          (try simp only[Act.put,ZA,ZB,ZC])
          refine wpAnyH_take (i:=2) (oi:=⟨some 89,.load 26 (.tmp 88),26, "second.go:274",#[⟨1,.data⟩],none⟩) (v:=?_) rfl (by kernel_rfl) (by kernel_rfl) (by kernel_rfl) (fun _ _ _ h=>h) (Or.inl ⟨by rfl,?_⟩) hHeld ?_
          rotate_left
          ·(intro W hSw;(try dsimp only at hSw);go_simp;first|done|with_reducible rfl)
          (try simp only[Act.put,ZA,ZB,ZC])
          refine wpAnyH_take (i:=3) (oi:=⟨some 90,.move (.tmp 18),3, "second.go:274",#[],none⟩) (v:=?_) rfl (by kernel_rfl) (by kernel_rfl) (by kernel_rfl) (fun _ _ _ h=>h) (Or.inl ⟨by rfl,?_⟩) hHeld ?_
          rotate_left
          ·(intro W hSw;(try dsimp only at hSw);go_simp;first|done|with_reducible rfl)
          (try simp only[Act.put,ZA,ZB,ZC])
          refine wpAnyH_take (i:=4) (oi:=⟨some 91,.indexAddr 26 (.tmp 89) (.tmp 90),0, "second.go:274",#[⟨2,.data⟩,⟨3,.data⟩],none⟩) (v:=?_) rfl (by kernel_rfl) (by kernel_rfl) (by kernel_rfl) (fun _ _ _ h=>h) (Or.inl ⟨by rfl,?_⟩) hHeld ?_
          rotate_left
          ·(intro W hSw;(try dsimp only at hSw);go_simp;first|done|with_reducible rfl)
          (try simp only[Act.put,ZA,ZB,ZC])
          refine wpAnyH_take (i:=5) (oi:=⟨some 92,.load 74 (.tmp 91),74, "second.go:274",#[⟨4,.data⟩],none⟩) (v:=?_) rfl (by kernel_rfl) (by kernel_rfl) (by kernel_rfl) (fun _ _ _ h=>h) (Or.inl ⟨by rfl,?_⟩) hHeld ?_
          rotate_left
          ·(intro W hSw;(try dsimp only at hSw);go_simp;first|done|with_reducible rfl)
          (try simp only[Act.put,ZA,ZB,ZC])
          refine wpAnyH_take (i:=6) (oi:=⟨some 93,.move (.tmp 11),30, "second.go:274",#[],none⟩) (v:=?_) rfl (by kernel_rfl) (by kernel_rfl) (by kernel_rfl) (fun _ _ _ h=>h) (Or.inl ⟨by rfl,?_⟩) hHeld ?_
          rotate_left
          ·(intro W hSw;(try dsimp only at hSw);go_simp;first|done|with_reducible rfl)
          (try simp only[Act.put,ZA,ZB,ZC])
          refine wpAnyH_take (i:=7) (oi:=⟨some 94,.move (.tmp 18),3, "second.go:274",#[],none⟩) (v:=?_) rfl (by kernel_rfl) (by kernel_rfl) (by kernel_rfl) (fun _ _ _ h=>h) (Or.inl ⟨by rfl,?_⟩) hHeld ?_
          rotate_left
          ·(intro W hSw;(try dsimp only at hSw);go_simp;first|done|with_reducible rfl)
          (try simp only[Act.put,ZA,ZB,ZC])
          refine wpAnyH_take (i:=8) (oi:=⟨some 95,.indexAddr 30 (.tmp 93) (.tmp 94),0, "second.go:274",#[⟨6,.data⟩,⟨7,.data⟩],none⟩) (v:=?_) rfl (by kernel_rfl) (by kernel_rfl) (by kernel_rfl) (fun _ _ _ h=>h) (Or.inl ⟨by rfl,?_⟩) hHeld ?_
          rotate_left
          ·(intro W hSw;(try dsimp only at hSw);go_simp;first|done|with_reducible rfl)
          (try simp only[Act.put,ZA,ZB,ZC])
          refine wpAnyH_take (i:=9) (oi:=⟨some 96,.load 3 (.tmp 95),3, "second.go:274",#[⟨8,.data⟩],none⟩) (v:=?_) rfl (by kernel_rfl) (by kernel_rfl) (by kernel_rfl) (fun _ _ _ h=>h) (Or.inl ⟨by rfl,?_⟩) hHeld ?_
          rotate_left
          ·(intro W hSw;(try dsimp only at hSw);go_simp;first|done|with_reducible rfl)
          (try simp only[Act.put,ZA,ZB,ZC])
          refine wpAnyH_take (i:=10) (oi:=⟨some 97,.fieldAddr 28 (.tmp 5) 1,0, "second.go:274",#[],none⟩) (v:=?_) rfl (by kernel_rfl) (by kernel_rfl) (by kernel_rfl) (fun _ _ _ h=>h) (Or.inl ⟨by rfl,?_⟩) hHeld ?_
          rotate_left
          ·(intro W hSw;(try dsimp only at hSw);go_simp;first|done|with_reducible rfl)
          (try simp only[Act.put,ZA,ZB,ZC])
          refine wpAnyH_take (i:=11) (oi:=⟨some 98,.load 3 (.tmp 97),3, "second.go:274",#[⟨10,.data⟩],none⟩) (v:=?_) rfl (by kernel_rfl) (by kernel_rfl) (by kernel_rfl) (fun _ _ _ h=>h) (Or.inl ⟨by rfl,?_⟩) hHeld ?_
          rotate_left
          ·(intro W hSw;(try dsimp only at hSw);go_simp;first|done|with_reducible rfl)
          (try simp only[Act.put,ZA,ZB,ZC])
          refine wpAnyH_ready (rs:=[12,17]) (by kernel_rfl) (by simp) ?_
          refine AllReadyH.cons (o:=⟨some 99,.call { callee:=Callee.value (.func 42),args:=#[.tmp 87,.tmp 92,.tmp 96,.tmp 98],argTypes:=#[25,74,3,3] },69, "second.go:274",#[⟨0,.data⟩,⟨5,.data⟩,⟨9,.data⟩,⟨11,.data⟩],none⟩) rfl (fun K hK=>?_) (AllReadyH.cons (o:=⟨some 23,.alloc 68,0, "second.go:274",#[],none⟩) rfl (fun K hK=>?_) AllReadyH.nil)
          ·refine Xf (by kernel_rfl) 42 #[.slice oa oon oc,.agg #[.int .i64 t1,.slice ai ni ci,.slice ao no2 co],.int .i64 nm,.int .i64 ht] (by kernel_rfl) ((unhide AP) _ hHeld.1) ?_
           rintro e w6 ⟨am,nm6,cm,sa,ns,cs,rfl,hM6,sM6,hS6,sS6,hbc⟩
           refine⟨_,rfl,?_⟩
           have HB6:=hide (bel_on hHeld.1 hbc)
           have HM5:=hide hM6
           have HS5:=hide hS6
           have SM6:=hide sM6
           have SS6:=hide sS6
           clear hM6 hS6 sM6 sS6 hbc
           refine hK.out _ _ ((unhide KS) _ (unhide HB6)) (fun hHeld2=>?_)
           clear hK K hHeld
           have hHeld:=hHeld2
           clear hHeld2
           (try simp only[Act.put,ZA,ZB,ZC])
           refine wpAnyH_take (i:=13) (oi:=⟨some 86,.move (.tmp 99),69, "second.go:274",#[⟨12,.data⟩],none⟩) (v:=?_) rfl (by kernel_rfl) (by kernel_rfl) (by kernel_rfl) (fun _ _ _ h=>h) (Or.inl ⟨by rfl,?_⟩) hHeld ?_
           rotate_left
           ·(intro W hSw;(try dsimp only at hSw);go_simp;first|done|with_reducible rfl)
           (try simp only[Act.put,ZA,ZB,ZC])
           refine wpAnyH_take (i:=14) (oi:=⟨some 100,.extract (.tmp 86) 0,25, "second.go:274",#[⟨13,.data⟩],none⟩) (v:=?_) rfl (by kernel_rfl) (by kernel_rfl) (by kernel_rfl) (fun _ _ _ h=>h) (Or.inl ⟨by rfl,?_⟩) hHeld ?_
           rotate_left
           ·(intro W hSw;(try dsimp only at hSw);go_simp;first|done|with_reducible rfl)
           (try simp only[Act.put,ZA,ZB,ZC])
           refine wpAnyH_take (i:=15) (oi:=⟨some 101,.extract (.tmp 86) 1,68, "second.go:274",#[⟨13,.data⟩,⟨18,.gcOnly .lateStores⟩],none⟩) (v:=?_) rfl (by kernel_rfl) (by kernel_rfl) (by kernel_rfl) (fun _ _ _ h=>h) (Or.inl ⟨by rfl,?_⟩) hHeld ?_
           rotate_left
           ·(intro W hSw;(try dsimp only at hSw);go_simp;first|done|with_reducible rfl)
           (try simp only[Act.put,ZA,ZB,ZC])
           refine wpAnyH_take (i:=16) (oi:=⟨some 102,.extract (.tmp 86) 2,31, "second.go:274",#[⟨13,.data⟩,⟨19,.gcOnly .lateStores⟩],none⟩) (v:=?_) rfl (by kernel_rfl) (by kernel_rfl) (by kernel_rfl) (fun _ _ _ h=>h) (Or.inl ⟨by rfl,?_⟩) hHeld ?_
           rotate_left
           ·(intro W hSw;(try dsimp only at hSw);go_simp;first|done|with_reducible rfl)
           (try simp only[Act.put,ZA,ZB,ZC])
           refine wpAnyH_ready (rs:=[17]) (by kernel_rfl) (by simp) ?_
           refine AllReadyH.cons (o:=⟨some 23,.alloc 68,0, "second.go:274",#[],none⟩) rfl (fun K hK=>?_) AllReadyH.nil
           go_simp
           obtain⟨WZ,hWZ⟩:∃ WZ,WZ=w6.alloc (.cells #[.slice none 0 0] 68):=⟨_,rfl⟩
           rw[←hWZ]
           obtain⟨bx,hbx⟩:∃ bx,bx=w6.heap.size:=⟨_,rfl⟩
           have MZ:Hid (WZ.heap[bx]? = some (.cells [.slice none 0 0].toArray 68 (0,0))):=by show _=_;rw[hWZ,hbx];exact heap_alloc_new _ _
           have hbz:Below w6.heap.size w6 WZ:=by rw[hWZ];exact bel_new _ _
           have BZ:=hide (bel_on (unhide HB6) hbz)
           have HM6:=hide ((unhide HM5).later hbz)
           have HS6:=hide ((unhide HS5).later hbz)
           have HBX2:Hid (V2.heap.size≤bx):=by show _≤_;rw[hbx];exact (unhide HB6).size
           rw[←hbx]
           clear hbz hWZ hbx HB6 HM5 HS5
           refine hK.out _ _ ((unhide KS) _ (unhide BZ)) (fun hHeld2=>?_)
           clear hK K hHeld
           have hHeld:=hHeld2
           clear hHeld2
           (try simp only[Act.put,ZA,ZB,ZC])
           refine wpAnyH_take (i:=18) (oi:=⟨some 22,.assign (.tmp 100),25, "second.go:274",#[⟨14,.data⟩,⟨12,.chain⟩,⟨0,.phase⟩,⟨1,.phase⟩,⟨2,.phase⟩,⟨3,.phase⟩,⟨4,.phase⟩,⟨5,.phase⟩,⟨6,.phase⟩,⟨7,.phase⟩,⟨8,.phase⟩,⟨9,.phase⟩,⟨10,.phase⟩,⟨11,.phase⟩,⟨12,.phase⟩,⟨13,.phase⟩,⟨14,.phase⟩,⟨15,.textOnly .lateStores⟩,⟨16,.textOnly .lateStores⟩,⟨17,.phase⟩],none⟩) (v:=?_) rfl (by kernel_rfl) (by kernel_rfl) (by kernel_rfl) (fun _ _ _ h=>h) (Or.inl ⟨by rfl,?_⟩) hHeld ?_
           rotate_left
           ·(intro W hSw;(try dsimp only at hSw);go_simp;first|done|with_reducible rfl)
           (try simp only[Act.put,ZA,ZB,ZC])
           have z6:=Za (unhide MZ) 0 _ rfl
           have zf6:=Zd (unhide MZ) 0
           have zl6:=lt_of_block (unhide MZ)
           refine wpAnyH_ready (rs:=[19]) (by kernel_rfl) (by simp) ?_
           refine AllReadyH.cons (o:=⟨none,.store 68 (.tmp 23) (.tmp 101),0, "second.go:274",#[⟨17,.data⟩,⟨15,.data⟩,⟨18,.chain⟩,⟨0,.phase⟩,⟨1,.phase⟩,⟨2,.phase⟩,⟨3,.phase⟩,⟨4,.phase⟩,⟨5,.phase⟩,⟨6,.phase⟩,⟨7,.phase⟩,⟨8,.phase⟩,⟨9,.phase⟩,⟨10,.phase⟩,⟨11,.phase⟩,⟨12,.phase⟩,⟨13,.phase⟩,⟨14,.phase⟩,⟨15,.phase⟩,⟨16,.textOnly .lateStores⟩,⟨17,.phase⟩,⟨18,.phase⟩],none⟩) rfl (fun K hK=>?_) AllReadyH.nil
           go_simp
           refine hK.out _ _ ((unhide KS) _ ((unhide BZ).setCell (unhide HBX2) _)) (fun hHeld2=>?_)
           clear hK K hHeld
           have hHeld:=hHeld2
           clear hHeld2
           (try simp only[Act.put,ZA,ZB,ZC])
           refine wpAnyH_take (i:=20) (oi:=⟨some 24,.assign (.tmp 102),31, "second.go:274",#[⟨16,.data⟩,⟨19,.chain⟩,⟨0,.phase⟩,⟨1,.phase⟩,⟨2,.phase⟩,⟨3,.phase⟩,⟨4,.phase⟩,⟨5,.phase⟩,⟨6,.phase⟩,⟨7,.phase⟩,⟨8,.phase⟩,⟨9,.phase⟩,⟨10,.phase⟩,⟨11,.phase⟩,⟨12,.phase⟩,⟨13,.phase⟩,⟨14,.phase⟩,⟨15,.phase⟩,⟨16,.phase⟩,⟨17,.phase⟩,⟨18,.phase⟩,⟨19,.phase⟩],none⟩) (v:=?_) rfl (by kernel_rfl) (by kernel_rfl) (by kernel_rfl) (fun _ _ _ h=>h) (Or.inl ⟨by rfl,?_⟩) hHeld ?_
           rotate_left
           ·(intro W hSw;(try dsimp only at hSw);go_simp;first|done|with_reducible rfl)
           (try simp only[Act.put,ZA,ZB,ZC])
           refine wpAnyH_done (by kernel_rfl) ?_ _
           have CS:=hide (Ta (g0:=w1.heap.size) (unhide BZ) (unhide HBX2) (unhide G0W) (unhide MZ) (unhide HM6) (unhide SM6) (unhide HS6) (unhide SS6))
           obtain⟨Y,hY⟩:∃ Y,Y=WZ.setCell ⟨bx,0,none⟩ (.slice sa ns cs):=⟨_,rfl⟩
           rw[←hY] at CS ⊢
           have HKY:=hide ((unhide KS) Y (unhide CS).1)
           clear hY hHeld KS AP z6 zf6 zl6 BZ HBX2 MZ HM6 SM6 HS6 SS6
           by_cases ey:y=0
           ·subst ey
            have few:=Jp (unhide HAP)
            have HR2:=hide (Jg (unhide HAP)).2.1
            have ho6:no2≤6:=by rw[←(unhide HOUT).1];exact (Ya (unhide HCK2)).2.1
            have hs6:ns≤6:=by rw[←(unhide CS).2.2.2.1.1];exact few.1
            obtain⟨Y2,hY2⟩:∃ Y2,Y2=Y:=⟨_,rfl⟩
            have HBY2:Hid (Below Y.heap.size Y Y2):=by rw[hY2];exact Below.refl _ _
            rw[←hY2]
            clear hY2
            have hk1:k+1=nn:=by
             have e:=unhide HI
             by_cases q:k+1<nn
             ·rw[Nat.mod_eq_of_lt q] at e;omega
             ·omega
            have HF2:Hid (Wf T (S.set i s) nn (k+1) F):=by show Wf _ _ _ _ _;rw[hk1];exact Lr
            have HQ2:Hid (Xd ht r T N (nn - (k+1)) (k+1) M (S.set i s)=(x,C',S')):=by
             have e:=unhide HEQ
             rw[if_neg (unhide NEG),if_neg (by decide)] at e
             exact e
            clear few hs6 ho6 hk1 HEQ
            have HBW2:=hide (bel_on (unhide CS).1 (unhide HBY2))
            have HM2:=hide ((unhide CS).2.1.later (unhide HBY2))
            have HS2:=hide ((unhide CS).2.2.2.1.later (unhide HBY2))
            have HU2:=hide ((unhide HUx).later (unhide HBW2))
            have UO:Hid (UsOk 68 w1.heap.size nn Y2):=by have:=(unhide HU2).ok;rw[unhide HSL] at this;exact this
            have KS9:Hid (∀ U,Gr Y2 U (fun q=>q=w1.heap.size)→UsOk 68 w1.heap.size nn U→Gr Y2 U (fun q=>q=w1.heap.size)∧U.cell? ⟨bx,0,none⟩=some (.slice sa ns cs)∧UsOk 68 w1.heap.size nn U):=fun U hg ho=>
             have hb:=((unhide HBY2).block _ (lt_of_block (unhide CS).2.2.2.2.2.2)).trans (unhide CS).2.2.2.2.2.2
             ⟨hg,Za ((hg.block bx (lt_of_block hb) (unhide CS).2.2.2.2.2.1).trans hb) 0 _ rfl,ho⟩
            obtain⟨zz,z6⟩:=(unhide UO).cell hil
            have zf6:=(unhide UO).free i
            have zl6:=(unhide UO).lt
            go_wp2_with fail
            refine wp_region_held_drew (S:=fun U=>Gr Y2 U (fun q=>q=w1.heap.size)∧U.cell? ⟨bx,0,none⟩=some (.slice sa ns cs)∧UsOk 68 w1.heap.size nn U) (by kernel_rfl) ((unhide KS9) _ (Gr.refl _ _).draw ((unhide UO).later (Zc _))) (fun hHeld=>?_)
            refine wpAnyH_take (i:=0) (oi:=⟨some 118,.move (.tmp 13),29, "second.go:281",#[⟨4,.gcOnly .lateStores⟩],none⟩) (v:=?_) rfl (by kernel_rfl) (by kernel_rfl) (by kernel_rfl) (fun _ _ _ h=>h) (Or.inl ⟨by rfl,?_⟩) hHeld ?_
            rotate_left
            ·(intro W hSw;(try dsimp only at hSw);go_simp;first|done|with_reducible rfl)
            (try simp only[Act.put,ZA,ZB,ZC])
            refine wpAnyH_take (i:=1) (oi:=⟨some 119,.move (.tmp 18),3, "second.go:281",#[⟨4,.gcOnly .lateStores⟩],none⟩) (v:=?_) rfl (by kernel_rfl) (by kernel_rfl) (by kernel_rfl) (fun _ _ _ h=>h) (Or.inl ⟨by rfl,?_⟩) hHeld ?_
            rotate_left
            ·(intro W hSw;(try dsimp only at hSw);go_simp;first|done|with_reducible rfl)
            (try simp only[Act.put,ZA,ZB,ZC])
            refine wpAnyH_take (i:=2) (oi:=⟨some 120,.move (.tmp 22),25, "second.go:281",#[],none⟩) (v:=?_) rfl (by kernel_rfl) (by kernel_rfl) (by kernel_rfl) (fun _ _ _ h=>h) (Or.inl ⟨by rfl,?_⟩) hHeld ?_
            rotate_left
            ·(intro W hSw;(try dsimp only at hSw);go_simp;first|done|with_reducible rfl)
            (try simp only[Act.put,ZA,ZB,ZC])
            refine wpAnyH_take (i:=3) (oi:=⟨some 121,.load 68 (.tmp 23),68, "second.go:281",#[⟨4,.gcOnly .lateStores⟩],none⟩) (v:=?_) rfl (by kernel_rfl) (by kernel_rfl) (by kernel_rfl) (fun _ _ _ h=>h) (Or.inl ⟨by rfl,?_⟩) hHeld ?_
            rotate_left
            ·(intro W hSw;(try dsimp only at hSw);go_simp;first|done|with_reducible rfl)
            (try simp only[Act.put,ZA,ZB,ZC])
            refine wpAnyH_take (i:=4) (oi:=⟨some 1,.assign (.tmp 120),25, "second.go:281",#[⟨2,.data⟩,⟨0,.textOnly .lateStores⟩,⟨1,.textOnly .lateStores⟩,⟨2,.phase⟩,⟨3,.textOnly .lateStores⟩],none⟩) (v:=?_) rfl (by kernel_rfl) (by kernel_rfl) (by kernel_rfl) (fun _ _ _ h=>h) (Or.inl ⟨by rfl,?_⟩) hHeld ?_
            rotate_left
            ·(intro W hSw;(try dsimp only at hSw);go_simp;first|done|with_reducible rfl)
            (try simp only[Act.put,ZA,ZB,ZC])
            refine wpAnyH_take (i:=5) (oi:=⟨some 122,.indexAddr 29 (.tmp 118) (.tmp 119),0, "second.go:281",#[⟨0,.data⟩,⟨1,.data⟩,⟨0,.phase⟩,⟨1,.phase⟩,⟨2,.phase⟩,⟨3,.phase⟩,⟨4,.phase⟩],none⟩) (v:=?_) rfl (by kernel_rfl) (by kernel_rfl) (by kernel_rfl) (fun _ _ _ h=>h) (Or.inl ⟨by rfl,?_⟩) hHeld ?_
            rotate_left
            ·(intro W hSw;(try dsimp only at hSw);go_simp;first|done|with_reducible rfl)
            (try simp only[Act.put,ZA,ZB,ZC])
            refine wpAnyH_ready (rs:=[6]) (by kernel_rfl) (by simp) ?_
            refine AllReadyH.cons (o:=⟨none,.store 68 (.tmp 122) (.tmp 121),0, "second.go:281",#[⟨5,.data⟩,⟨3,.data⟩,⟨4,.chain⟩,⟨0,.phase⟩,⟨1,.phase⟩,⟨2,.phase⟩,⟨3,.phase⟩,⟨4,.phase⟩],none⟩) rfl (fun K hK=>?_) AllReadyH.nil
            go_simp
            refine hK.out _ _ ((unhide KS9) _ ((Gr.refl Y2 (fun q=>q=w1.heap.size)).draw.one w1.heap.size i (.inl rfl) _) (UsOk.put ((unhide UO).later (Zc _)) i _ _ _)) (fun hHeld2=>?_)
            clear hK K hHeld
            have hHeld:=hHeld2
            clear hHeld2
            (try simp only[Act.put,ZA,ZB,ZC])
            refine wpAnyH_done (by kernel_rfl) ?_ _
            clear hHeld KS9 z6 zf6 zl6
            have HBD:=hide (Zc Y2)
            have HU3:=hide (((unhide HU2).later (unhide HBD)).put i ((unhide HS2).later (unhide HBD)) (unhide CS).2.2.2.2.1)
            have HM3:=hide (Xj ((unhide HM2).later (unhide HBD)) ((unhide UO).later (unhide HBD)) ((Gr.refl Y2.drew (fun q=>q=w1.heap.size)).one w1.heap.size i (.inl rfl) (.slice sa ns cs)))
            have HG3:=hide ((((unhide HGx).trans (Gr.of (unhide HBW2))).draw).one w1.heap.size i (.inl rfl) (.slice sa ns cs))
            have HSL2:Hid ((S.set i s).length=nn):=by show _=_;rw[List.length_set];exact unhide HSL
            obtain⟨Q,hQ⟩:∃ Q,Q=Y2.drew.setCell ⟨w1.heap.size,i,none⟩ (.slice sa ns cs):=⟨_,rfl⟩
            rw[←hQ] at HM3 HU3 HG3
            (first|rw[←hQ]|(rw[show (Y2.setCell ⟨w1.heap.size,i,none⟩ (.slice sa ns cs)).drew=Q from hQ.symm]))
            have SM3:=hide (unhide CS).2.2.1
            clear hQ HBD HM2 HS2 HU2 UO CS HKY HBW2 HBY2
            go_wp2
            go_roundw
            case rel=>exact⟨k+1,am,nm6,cm,M,S.set i s,F,by omega,rfl,rfl,by go_num,(⟨unhide HM3,unhide SM3,unhide HR2⟩:CoinsAt Q am nm6 M∧SlOk am nm6 cm∧Zs M),HU3,HSL2,HF2,HQ2,HG3⟩
            case measure=>simp[intOf];omega
           ·have g:(y != 0)=true:=by simp[ey]
            have HE2:Hid ((y,([]:List Zb),([]:List (List Zb)))=(x,C',S')):=by have e:=unhide HEQ;rw[if_neg (unhide NEG),if_pos ey] at e;exact e
            have HWW:=hide (bel_on (unhide HBX) (bel_on ((unhide HBV) V2 (unhide HGx)) (unhide CS).1))
            clear CS HKY HEQ
            go_wp2
            (try simp only[Exit.inBlock,Exit.then])
            refine bodyPost_ret (v:=.tuple #[.slice none 0 0,.slice none 0 0,.int .i64 y]) ?_ rfl (Vi (unhide HE2) (unhide HWW))
            simp[results,Tryz.f15,go_sem]
          ·go_simp
           obtain⟨WA,hWA⟩:∃ WA,WA=V2.drew.alloc (.cells #[.slice none 0 0] 68):=⟨_,rfl⟩
           (first|rw[←hWA]|(rw[show (V2.alloc (.cells #[.slice none 0 0] 68)).drew=WA from hWA.symm]))
           have hbA:Below V2.heap.size V2 WA:=by rw[hWA];exact bel_on (Zc V2) (bel_new _ _)
           obtain⟨bx,hbx⟩:∃ bx,bx=V2.heap.size:=⟨_,rfl⟩
           have MA:Hid (WA.heap[bx]? = some (.cells [.slice none 0 0].toArray 68 (0,0))):=by show _=_;rw[hWA,hbx];exact heap_alloc_new V2.drew _
           have HBX2:Hid (V2.heap.size≤bx):=by show _≤_;rw[hbx];exact Nat.le_refl _
           rw[←hbx]
           have HBA:=hide hbA
           clear hWA hbx hbA
           refine hK.out _ _ ((unhide KS) _ (unhide HBA)) (fun hHeld2=>?_)
           clear hK K hHeld
           have hHeld:=hHeld2
           clear hHeld2
           (try simp only[Act.put,ZA,ZB,ZC])
           refine wpAnyH_ready (rs:=[12]) (by kernel_rfl) (by simp) ?_
           refine AllReadyH.cons (o:=⟨some 99,.call { callee:=Callee.value (.func 42),args:=#[.tmp 87,.tmp 92,.tmp 96,.tmp 98],argTypes:=#[25,74,3,3] },69, "second.go:274",#[⟨0,.data⟩,⟨5,.data⟩,⟨9,.data⟩,⟨11,.data⟩],none⟩) rfl (fun K hK=>?_) AllReadyH.nil
           refine Xf (by kernel_rfl) 42 #[.slice oa oon oc,.agg #[.int .i64 t1,.slice ai ni ci,.slice ao no2 co],.int .i64 nm,.int .i64 ht] (by kernel_rfl) ((unhide AP) _ hHeld.1) ?_
           rintro e WZ ⟨am,nm6,cm,sa,ns,cs,rfl,hM6,sM6,hS6,sS6,hbc⟩
           refine⟨_,rfl,?_⟩
           have BZ:=hide (bel_on (unhide HBA) hbc)
           have HM6:=hide hM6
           have HS6:=hide hS6
           have SM6:=hide sM6
           have SS6:=hide sS6
           have MZ:=hide ((hbc.block _ (lt_of_block (unhide MA))).trans (unhide MA))
           clear hM6 hS6 sM6 sS6 hbc MA HBA
           refine hK.out _ _ ((unhide KS) _ (unhide BZ)) (fun hHeld2=>?_)
           clear hK K hHeld
           have hHeld:=hHeld2
           clear hHeld2
           (try simp only[Act.put,ZA,ZB,ZC])
           refine wpAnyH_take (i:=13) (oi:=⟨some 86,.move (.tmp 99),69, "second.go:274",#[⟨12,.data⟩],none⟩) (v:=?_) rfl (by kernel_rfl) (by kernel_rfl) (by kernel_rfl) (fun _ _ _ h=>h) (Or.inl ⟨by rfl,?_⟩) hHeld ?_
           rotate_left
           ·(intro W hSw;(try dsimp only at hSw);go_simp;first|done|with_reducible rfl)
           (try simp only[Act.put,ZA,ZB,ZC])
           refine wpAnyH_take (i:=14) (oi:=⟨some 100,.extract (.tmp 86) 0,25, "second.go:274",#[⟨13,.data⟩],none⟩) (v:=?_) rfl (by kernel_rfl) (by kernel_rfl) (by kernel_rfl) (fun _ _ _ h=>h) (Or.inl ⟨by rfl,?_⟩) hHeld ?_
           rotate_left
           ·(intro W hSw;(try dsimp only at hSw);go_simp;first|done|with_reducible rfl)
           (try simp only[Act.put,ZA,ZB,ZC])
           refine wpAnyH_take (i:=15) (oi:=⟨some 101,.extract (.tmp 86) 1,68, "second.go:274",#[⟨13,.data⟩,⟨18,.gcOnly .lateStores⟩],none⟩) (v:=?_) rfl (by kernel_rfl) (by kernel_rfl) (by kernel_rfl) (fun _ _ _ h=>h) (Or.inl ⟨by rfl,?_⟩) hHeld ?_
           rotate_left
           ·(intro W hSw;(try dsimp only at hSw);go_simp;first|done|with_reducible rfl)
           (try simp only[Act.put,ZA,ZB,ZC])
           refine wpAnyH_take (i:=16) (oi:=⟨some 102,.extract (.tmp 86) 2,31, "second.go:274",#[⟨13,.data⟩,⟨19,.gcOnly .lateStores⟩],none⟩) (v:=?_) rfl (by kernel_rfl) (by kernel_rfl) (by kernel_rfl) (fun _ _ _ h=>h) (Or.inl ⟨by rfl,?_⟩) hHeld ?_
           rotate_left
           ·(intro W hSw;(try dsimp only at hSw);go_simp;first|done|with_reducible rfl)
           (try simp only[Act.put,ZA,ZB,ZC])
           refine wpAnyH_take (i:=18) (oi:=⟨some 22,.assign (.tmp 100),25, "second.go:274",#[⟨14,.data⟩,⟨12,.chain⟩,⟨0,.phase⟩,⟨1,.phase⟩,⟨2,.phase⟩,⟨3,.phase⟩,⟨4,.phase⟩,⟨5,.phase⟩,⟨6,.phase⟩,⟨7,.phase⟩,⟨8,.phase⟩,⟨9,.phase⟩,⟨10,.phase⟩,⟨11,.phase⟩,⟨12,.phase⟩,⟨13,.phase⟩,⟨14,.phase⟩,⟨15,.textOnly .lateStores⟩,⟨16,.textOnly .lateStores⟩,⟨17,.phase⟩],none⟩) (v:=?_) rfl (by kernel_rfl) (by kernel_rfl) (by kernel_rfl) (fun _ _ _ h=>h) (Or.inl ⟨by rfl,?_⟩) hHeld ?_
           rotate_left
           ·(intro W hSw;(try dsimp only at hSw);go_simp;first|done|with_reducible rfl)
           (try simp only[Act.put,ZA,ZB,ZC])
           have z6:=Za (unhide MZ) 0 _ rfl
           have zf6:=Zd (unhide MZ) 0
           have zl6:=lt_of_block (unhide MZ)
           refine wpAnyH_ready (rs:=[19]) (by kernel_rfl) (by simp) ?_
           refine AllReadyH.cons (o:=⟨none,.store 68 (.tmp 23) (.tmp 101),0, "second.go:274",#[⟨17,.data⟩,⟨15,.data⟩,⟨18,.chain⟩,⟨0,.phase⟩,⟨1,.phase⟩,⟨2,.phase⟩,⟨3,.phase⟩,⟨4,.phase⟩,⟨5,.phase⟩,⟨6,.phase⟩,⟨7,.phase⟩,⟨8,.phase⟩,⟨9,.phase⟩,⟨10,.phase⟩,⟨11,.phase⟩,⟨12,.phase⟩,⟨13,.phase⟩,⟨14,.phase⟩,⟨15,.phase⟩,⟨16,.textOnly .lateStores⟩,⟨17,.phase⟩,⟨18,.phase⟩],none⟩) rfl (fun K hK=>?_) AllReadyH.nil
           go_simp
           refine hK.out _ _ ((unhide KS) _ ((unhide BZ).setCell (unhide HBX2) _)) (fun hHeld2=>?_)
           clear hK K hHeld
           have hHeld:=hHeld2
           clear hHeld2
           (try simp only[Act.put,ZA,ZB,ZC])
           refine wpAnyH_take (i:=20) (oi:=⟨some 24,.assign (.tmp 102),31, "second.go:274",#[⟨16,.data⟩,⟨19,.chain⟩,⟨0,.phase⟩,⟨1,.phase⟩,⟨2,.phase⟩,⟨3,.phase⟩,⟨4,.phase⟩,⟨5,.phase⟩,⟨6,.phase⟩,⟨7,.phase⟩,⟨8,.phase⟩,⟨9,.phase⟩,⟨10,.phase⟩,⟨11,.phase⟩,⟨12,.phase⟩,⟨13,.phase⟩,⟨14,.phase⟩,⟨15,.phase⟩,⟨16,.phase⟩,⟨17,.phase⟩,⟨18,.phase⟩,⟨19,.phase⟩],none⟩) (v:=?_) rfl (by kernel_rfl) (by kernel_rfl) (by kernel_rfl) (fun _ _ _ h=>h) (Or.inl ⟨by rfl,?_⟩) hHeld ?_
           rotate_left
           ·(intro W hSw;(try dsimp only at hSw);go_simp;first|done|with_reducible rfl)
           (try simp only[Act.put,ZA,ZB,ZC])
           refine wpAnyH_done (by kernel_rfl) ?_ _
           have CS:=hide (Ta (g0:=w1.heap.size) (unhide BZ) (unhide HBX2) (unhide G0W) (unhide MZ) (unhide HM6) (unhide SM6) (unhide HS6) (unhide SS6))
           obtain⟨Y,hY⟩:∃ Y,Y=WZ.setCell ⟨bx,0,none⟩ (.slice sa ns cs):=⟨_,rfl⟩
           rw[←hY] at CS ⊢
           have HKY:=hide ((unhide KS) Y (unhide CS).1)
           clear hY hHeld KS AP z6 zf6 zl6 BZ HBX2 MZ HM6 SM6 HS6 SS6
           by_cases ey:y=0
           ·subst ey
            have few:=Jp (unhide HAP)
            have HR2:=hide (Jg (unhide HAP)).2.1
            have ho6:no2≤6:=by rw[←(unhide HOUT).1];exact (Ya (unhide HCK2)).2.1
            have hs6:ns≤6:=by rw[←(unhide CS).2.2.2.1.1];exact few.1
            obtain⟨Y2,hY2⟩:∃ Y2,Y2=Y:=⟨_,rfl⟩
            have HBY2:Hid (Below Y.heap.size Y Y2):=by rw[hY2];exact Below.refl _ _
            rw[←hY2]
            clear hY2
            have hk1:k+1=nn:=by
             have e:=unhide HI
             by_cases q:k+1<nn
             ·rw[Nat.mod_eq_of_lt q] at e;omega
             ·omega
            have HF2:Hid (Wf T (S.set i s) nn (k+1) F):=by show Wf _ _ _ _ _;rw[hk1];exact Lr
            have HQ2:Hid (Xd ht r T N (nn - (k+1)) (k+1) M (S.set i s)=(x,C',S')):=by
             have e:=unhide HEQ
             rw[if_neg (unhide NEG),if_neg (by decide)] at e
             exact e
            clear few hs6 ho6 hk1 HEQ
            have HBW2:=hide (bel_on (unhide CS).1 (unhide HBY2))
            have HM2:=hide ((unhide CS).2.1.later (unhide HBY2))
            have HS2:=hide ((unhide CS).2.2.2.1.later (unhide HBY2))
            have HU2:=hide ((unhide HUx).later (unhide HBW2))
            have UO:Hid (UsOk 68 w1.heap.size nn Y2):=by have:=(unhide HU2).ok;rw[unhide HSL] at this;exact this
            have KS9:Hid (∀ U,Gr Y2 U (fun q=>q=w1.heap.size)→UsOk 68 w1.heap.size nn U→Gr Y2 U (fun q=>q=w1.heap.size)∧U.cell? ⟨bx,0,none⟩=some (.slice sa ns cs)∧UsOk 68 w1.heap.size nn U):=fun U hg ho=>
             have hb:=((unhide HBY2).block _ (lt_of_block (unhide CS).2.2.2.2.2.2)).trans (unhide CS).2.2.2.2.2.2
             ⟨hg,Za ((hg.block bx (lt_of_block hb) (unhide CS).2.2.2.2.2.1).trans hb) 0 _ rfl,ho⟩
            obtain⟨zz,z6⟩:=(unhide UO).cell hil
            have zf6:=(unhide UO).free i
            have zl6:=(unhide UO).lt
            go_wp2_with fail
            refine wp_region_held_drew (S:=fun U=>Gr Y2 U (fun q=>q=w1.heap.size)∧U.cell? ⟨bx,0,none⟩=some (.slice sa ns cs)∧UsOk 68 w1.heap.size nn U) (by kernel_rfl) ((unhide KS9) _ (Gr.refl _ _).draw ((unhide UO).later (Zc _))) (fun hHeld=>?_)
            refine wpAnyH_take (i:=0) (oi:=⟨some 118,.move (.tmp 13),29, "second.go:281",#[⟨4,.gcOnly .lateStores⟩],none⟩) (v:=?_) rfl (by kernel_rfl) (by kernel_rfl) (by kernel_rfl) (fun _ _ _ h=>h) (Or.inl ⟨by rfl,?_⟩) hHeld ?_
            rotate_left
            ·(intro W hSw;(try dsimp only at hSw);go_simp;first|done|with_reducible rfl)
            (try simp only[Act.put,ZA,ZB,ZC])
            refine wpAnyH_take (i:=1) (oi:=⟨some 119,.move (.tmp 18),3, "second.go:281",#[⟨4,.gcOnly .lateStores⟩],none⟩) (v:=?_) rfl (by kernel_rfl) (by kernel_rfl) (by kernel_rfl) (fun _ _ _ h=>h) (Or.inl ⟨by rfl,?_⟩) hHeld ?_
            rotate_left
            ·(intro W hSw;(try dsimp only at hSw);go_simp;first|done|with_reducible rfl)
            (try simp only[Act.put,ZA,ZB,ZC])
            refine wpAnyH_take (i:=2) (oi:=⟨some 120,.move (.tmp 22),25, "second.go:281",#[],none⟩) (v:=?_) rfl (by kernel_rfl) (by kernel_rfl) (by kernel_rfl) (fun _ _ _ h=>h) (Or.inl ⟨by rfl,?_⟩) hHeld ?_
            rotate_left
            ·(intro W hSw;(try dsimp only at hSw);go_simp;first|done|with_reducible rfl)
            (try simp only[Act.put,ZA,ZB,ZC])
            refine wpAnyH_take (i:=3) (oi:=⟨some 121,.load 68 (.tmp 23),68, "second.go:281",#[⟨4,.gcOnly .lateStores⟩],none⟩) (v:=?_) rfl (by kernel_rfl) (by kernel_rfl) (by kernel_rfl) (fun _ _ _ h=>h) (Or.inl ⟨by rfl,?_⟩) hHeld ?_
            rotate_left
            ·(intro W hSw;(try dsimp only at hSw);go_simp;first|done|with_reducible rfl)
            (try simp only[Act.put,ZA,ZB,ZC])
            refine wpAnyH_take (i:=4) (oi:=⟨some 1,.assign (.tmp 120),25, "second.go:281",#[⟨2,.data⟩,⟨0,.textOnly .lateStores⟩,⟨1,.textOnly .lateStores⟩,⟨2,.phase⟩,⟨3,.textOnly .lateStores⟩],none⟩) (v:=?_) rfl (by kernel_rfl) (by kernel_rfl) (by kernel_rfl) (fun _ _ _ h=>h) (Or.inl ⟨by rfl,?_⟩) hHeld ?_
            rotate_left
            ·(intro W hSw;(try dsimp only at hSw);go_simp;first|done|with_reducible rfl)
            (try simp only[Act.put,ZA,ZB,ZC])
            refine wpAnyH_take (i:=5) (oi:=⟨some 122,.indexAddr 29 (.tmp 118) (.tmp 119),0, "second.go:281",#[⟨0,.data⟩,⟨1,.data⟩,⟨0,.phase⟩,⟨1,.phase⟩,⟨2,.phase⟩,⟨3,.phase⟩,⟨4,.phase⟩],none⟩) (v:=?_) rfl (by kernel_rfl) (by kernel_rfl) (by kernel_rfl) (fun _ _ _ h=>h) (Or.inl ⟨by rfl,?_⟩) hHeld ?_
            rotate_left
            ·(intro W hSw;(try dsimp only at hSw);go_simp;first|done|with_reducible rfl)
            (try simp only[Act.put,ZA,ZB,ZC])
            refine wpAnyH_ready (rs:=[6]) (by kernel_rfl) (by simp) ?_
            refine AllReadyH.cons (o:=⟨none,.store 68 (.tmp 122) (.tmp 121),0, "second.go:281",#[⟨5,.data⟩,⟨3,.data⟩,⟨4,.chain⟩,⟨0,.phase⟩,⟨1,.phase⟩,⟨2,.phase⟩,⟨3,.phase⟩,⟨4,.phase⟩],none⟩) rfl (fun K hK=>?_) AllReadyH.nil
            go_simp
            refine hK.out _ _ ((unhide KS9) _ ((Gr.refl Y2 (fun q=>q=w1.heap.size)).draw.one w1.heap.size i (.inl rfl) _) (UsOk.put ((unhide UO).later (Zc _)) i _ _ _)) (fun hHeld2=>?_)
            clear hK K hHeld
            have hHeld:=hHeld2
            clear hHeld2
            (try simp only[Act.put,ZA,ZB,ZC])
            refine wpAnyH_done (by kernel_rfl) ?_ _
            clear hHeld KS9 z6 zf6 zl6
            have HBD:=hide (Zc Y2)
            have HU3:=hide (((unhide HU2).later (unhide HBD)).put i ((unhide HS2).later (unhide HBD)) (unhide CS).2.2.2.2.1)
            have HM3:=hide (Xj ((unhide HM2).later (unhide HBD)) ((unhide UO).later (unhide HBD)) ((Gr.refl Y2.drew (fun q=>q=w1.heap.size)).one w1.heap.size i (.inl rfl) (.slice sa ns cs)))
            have HG3:=hide ((((unhide HGx).trans (Gr.of (unhide HBW2))).draw).one w1.heap.size i (.inl rfl) (.slice sa ns cs))
            have HSL2:Hid ((S.set i s).length=nn):=by show _=_;rw[List.length_set];exact unhide HSL
            obtain⟨Q,hQ⟩:∃ Q,Q=Y2.drew.setCell ⟨w1.heap.size,i,none⟩ (.slice sa ns cs):=⟨_,rfl⟩
            rw[←hQ] at HM3 HU3 HG3
            (first|rw[←hQ]|(rw[show (Y2.setCell ⟨w1.heap.size,i,none⟩ (.slice sa ns cs)).drew=Q from hQ.symm]))
            have SM3:=hide (unhide CS).2.2.1
            clear hQ HBD HM2 HS2 HU2 UO CS HKY HBW2 HBY2
            go_wp2
            go_roundw
            case rel=>exact⟨k+1,am,nm6,cm,M,S.set i s,F,by omega,rfl,rfl,by go_num,(⟨unhide HM3,unhide SM3,unhide HR2⟩:CoinsAt Q am nm6 M∧SlOk am nm6 cm∧Zs M),HU3,HSL2,HF2,HQ2,HG3⟩
            case measure=>simp[intOf];omega
           ·have g:(y != 0)=true:=by simp[ey]
            have HE2:Hid ((y,([]:List Zb),([]:List (List Zb)))=(x,C',S')):=by have e:=unhide HEQ;rw[if_neg (unhide NEG),if_pos ey] at e;exact e
            have HWW:=hide (bel_on (unhide HBX) (bel_on ((unhide HBV) V2 (unhide HGx)) (unhide CS).1))
            clear CS HKY HEQ
            go_wp2
            (try simp only[Exit.inBlock,Exit.then])
            refine bodyPost_ret (v:=.tuple #[.slice none 0 0,.slice none 0 0,.int .i64 y]) ?_ rfl (Vi (unhide HE2) (unhide HWW))
            simp[results,Tryz.f15,go_sem]
      ·first
       | (exfalso;omega)
       |skip
        have hiP:(0:Int)<(i:Int):=by omega
        have G0W:=hide g0w
        have HOx:=HO
        have HUx:=HU
        have HGx:=HG
        have HINx:=HIN
        have HOUTx:=HOUT
        have AP:Hid (∀ U,Below wr.heap.size wr U→Calls Tryz.prog 42 #[.slice oa oon oc,.agg #[.int .i64 t1,.slice ai ni ci,.slice ao no2 co],.int .i64 nm,.int .i64 ht] U fun e w'=>ApR U w' y M s e):=fun U hb=>
         Pg oa oon oc C t1 ai ao ni ci no2 co I O nm ht y M s U ((unhide HOx).1.later hb) (unhide HOx).2.1 ((unhide HINx).later hb) ((unhide HOUTx).later hb) (unhide HOx).2.2 (unhide HCK2) (unhide HAP)
        have KS:Hid (∀ U,Below wr.heap.size wr U→Below wr.heap.size wr U∧U.cell? ⟨w.heap.size,1,none⟩=some (.int .i64 ht)∧U.cell? ⟨w.heap.size,4,none⟩=some (.slice (some ⟨tb,tof,none⟩) nn c)∧U.cell? ⟨tb,tof+i*3,none⟩=some (.int .i64 t1)∧U.cell? ⟨tb,tof+i*3+1,none⟩=some (.slice ai ni ci)∧U.cell? ⟨tb,tof+i*3+2,none⟩=some (.slice ao no2 co)∧U.cell? ⟨nb,no+i,none⟩=some (.int .i64 nm)):=fun U hb=>
         ⟨hb,cell_later hb v1,cell_later hb v4,cell_later hb c0,cell_later hb c1,cell_later hb c2,cell_later hb c4⟩
        clear c0 c1 c2 c4 v1 v4
        go_wp2_with fail
        refine wp_region_held_drew (S:=fun U=>Below wr.heap.size wr U∧U.cell? ⟨w.heap.size,1,none⟩=some (.int .i64 ht)∧U.cell? ⟨w.heap.size,4,none⟩=some (.slice (some ⟨tb,tof,none⟩) nn c)∧U.cell? ⟨tb,tof+i*3,none⟩=some (.int .i64 t1)∧U.cell? ⟨tb,tof+i*3+1,none⟩=some (.slice ai ni ci)∧U.cell? ⟨tb,tof+i*3+2,none⟩=some (.slice ao no2 co)∧U.cell? ⟨nb,no+i,none⟩=some (.int .i64 nm)) (by kernel_rfl) ((unhide KS) _ (Zc _)) (fun hHeld=>?_)
        refine wpAnyH_take (i:=0) (oi:=⟨some 87,.move (.tmp 1),25, "second.go:274",#[],none⟩) (v:=?_) rfl (by kernel_rfl) (by kernel_rfl) (by kernel_rfl) (fun _ _ _ h=>h) (Or.inl ⟨by rfl,?_⟩) hHeld ?_
        rotate_left
        ·(intro W hSw;(try dsimp only at hSw);go_simp;first|done|with_reducible rfl)
        (try simp only[Act.put,ZA,ZB,ZC])
        refine wpAnyH_take (i:=1) (oi:=⟨some 88,.fieldAddr 28 (.tmp 5) 4,0, "second.go:274",#[],none⟩) (v:=?_) rfl (by kernel_rfl) (by kernel_rfl) (by kernel_rfl) (fun _ _ _ h=>h) (Or.inl ⟨by rfl,?_⟩) hHeld ?_
        rotate_left
        ·(intro W hSw;(try dsimp only at hSw);go_simp;first|done|with_reducible rfl)
        (try simp only[Act.put,ZA,ZB,ZC])
        refine wpAnyH_take (i:=2) (oi:=⟨some 89,.load 26 (.tmp 88),26, "second.go:274",#[⟨1,.data⟩],none⟩) (v:=?_) rfl (by kernel_rfl) (by kernel_rfl) (by kernel_rfl) (fun _ _ _ h=>h) (Or.inl ⟨by rfl,?_⟩) hHeld ?_
        rotate_left
        ·(intro W hSw;(try dsimp only at hSw);go_simp;first|done|with_reducible rfl)
        (try simp only[Act.put,ZA,ZB,ZC])
        refine wpAnyH_take (i:=3) (oi:=⟨some 90,.move (.tmp 18),3, "second.go:274",#[],none⟩) (v:=?_) rfl (by kernel_rfl) (by kernel_rfl) (by kernel_rfl) (fun _ _ _ h=>h) (Or.inl ⟨by rfl,?_⟩) hHeld ?_
        rotate_left
        ·(intro W hSw;(try dsimp only at hSw);go_simp;first|done|with_reducible rfl)
        (try simp only[Act.put,ZA,ZB,ZC])
        refine wpAnyH_take (i:=4) (oi:=⟨some 91,.indexAddr 26 (.tmp 89) (.tmp 90),0, "second.go:274",#[⟨2,.data⟩,⟨3,.data⟩],none⟩) (v:=?_) rfl (by kernel_rfl) (by kernel_rfl) (by kernel_rfl) (fun _ _ _ h=>h) (Or.inl ⟨by rfl,?_⟩) hHeld ?_
        rotate_left
        ·(intro W hSw;(try dsimp only at hSw);go_simp;first|done|with_reducible rfl)
        (try simp only[Act.put,ZA,ZB,ZC])
        refine wpAnyH_take (i:=5) (oi:=⟨some 92,.load 74 (.tmp 91),74, "second.go:274",#[⟨4,.data⟩],none⟩) (v:=?_) rfl (by kernel_rfl) (by kernel_rfl) (by kernel_rfl) (fun _ _ _ h=>h) (Or.inl ⟨by rfl,?_⟩) hHeld ?_
        rotate_left
        ·(intro W hSw;(try dsimp only at hSw);go_simp;first|done|with_reducible rfl)
        (try simp only[Act.put,ZA,ZB,ZC])
        refine wpAnyH_take (i:=6) (oi:=⟨some 93,.move (.tmp 11),30, "second.go:274",#[],none⟩) (v:=?_) rfl (by kernel_rfl) (by kernel_rfl) (by kernel_rfl) (fun _ _ _ h=>h) (Or.inl ⟨by rfl,?_⟩) hHeld ?_
        rotate_left
        ·(intro W hSw;(try dsimp only at hSw);go_simp;first|done|with_reducible rfl)
        (try simp only[Act.put,ZA,ZB,ZC])
        refine wpAnyH_take (i:=7) (oi:=⟨some 94,.move (.tmp 18),3, "second.go:274",#[],none⟩) (v:=?_) rfl (by kernel_rfl) (by kernel_rfl) (by kernel_rfl) (fun _ _ _ h=>h) (Or.inl ⟨by rfl,?_⟩) hHeld ?_
        rotate_left
        ·(intro W hSw;(try dsimp only at hSw);go_simp;first|done|with_reducible rfl)
        (try simp only[Act.put,ZA,ZB,ZC])
        refine wpAnyH_take (i:=8) (oi:=⟨some 95,.indexAddr 30 (.tmp 93) (.tmp 94),0, "second.go:274",#[⟨6,.data⟩,⟨7,.data⟩],none⟩) (v:=?_) rfl (by kernel_rfl) (by kernel_rfl) (by kernel_rfl) (fun _ _ _ h=>h) (Or.inl ⟨by rfl,?_⟩) hHeld ?_
        rotate_left
        ·(intro W hSw;(try dsimp only at hSw);go_simp;first|done|with_reducible rfl)
        (try simp only[Act.put,ZA,ZB,ZC])
        refine wpAnyH_take (i:=9) (oi:=⟨some 96,.load 3 (.tmp 95),3, "second.go:274",#[⟨8,.data⟩],none⟩) (v:=?_) rfl (by kernel_rfl) (by kernel_rfl) (by kernel_rfl) (fun _ _ _ h=>h) (Or.inl ⟨by rfl,?_⟩) hHeld ?_
        rotate_left
        ·(intro W hSw;(try dsimp only at hSw);go_simp;first|done|with_reducible rfl)
        (try simp only[Act.put,ZA,ZB,ZC])
        refine wpAnyH_take (i:=10) (oi:=⟨some 97,.fieldAddr 28 (.tmp 5) 1,0, "second.go:274",#[],none⟩) (v:=?_) rfl (by kernel_rfl) (by kernel_rfl) (by kernel_rfl) (fun _ _ _ h=>h) (Or.inl ⟨by rfl,?_⟩) hHeld ?_
        rotate_left
        ·(intro W hSw;(try dsimp only at hSw);go_simp;first|done|with_reducible rfl)
        (try simp only[Act.put,ZA,ZB,ZC])
        refine wpAnyH_take (i:=11) (oi:=⟨some 98,.load 3 (.tmp 97),3, "second.go:274",#[⟨10,.data⟩],none⟩) (v:=?_) rfl (by kernel_rfl) (by kernel_rfl) (by kernel_rfl) (fun _ _ _ h=>h) (Or.inl ⟨by rfl,?_⟩) hHeld ?_
        rotate_left
        ·(intro W hSw;(try dsimp only at hSw);go_simp;first|done|with_reducible rfl)
        (try simp only[Act.put,ZA,ZB,ZC])
        refine wpAnyH_ready (rs:=[12,17]) (by kernel_rfl) (by simp) ?_
        refine AllReadyH.cons (o:=⟨some 99,.call { callee:=Callee.value (.func 42),args:=#[.tmp 87,.tmp 92,.tmp 96,.tmp 98],argTypes:=#[25,74,3,3] },69, "second.go:274",#[⟨0,.data⟩,⟨5,.data⟩,⟨9,.data⟩,⟨11,.data⟩],none⟩) rfl (fun K hK=>?_) (AllReadyH.cons (o:=⟨some 23,.alloc 68,0, "second.go:274",#[],none⟩) rfl (fun K hK=>?_) AllReadyH.nil)
        ·refine Xf (by kernel_rfl) 42 #[.slice oa oon oc,.agg #[.int .i64 t1,.slice ai ni ci,.slice ao no2 co],.int .i64 nm,.int .i64 ht] (by kernel_rfl) ((unhide AP) _ hHeld.1) ?_
         rintro e w6 ⟨am,nm6,cm,sa,ns,cs,rfl,hM6,sM6,hS6,sS6,hbc⟩
         refine⟨_,rfl,?_⟩
         have HB6:=hide (bel_on hHeld.1 hbc)
         have HM5:=hide hM6
         have HS5:=hide hS6
         have SM6:=hide sM6
         have SS6:=hide sS6
         clear hM6 hS6 sM6 sS6 hbc
         refine hK.out _ _ ((unhide KS) _ (unhide HB6)) (fun hHeld2=>?_)
         clear hK K hHeld
         have hHeld:=hHeld2
         clear hHeld2
         (try simp only[Act.put,ZA,ZB,ZC])
         refine wpAnyH_take (i:=13) (oi:=⟨some 86,.move (.tmp 99),69, "second.go:274",#[⟨12,.data⟩],none⟩) (v:=?_) rfl (by kernel_rfl) (by kernel_rfl) (by kernel_rfl) (fun _ _ _ h=>h) (Or.inl ⟨by rfl,?_⟩) hHeld ?_
         rotate_left
         ·(intro W hSw;(try dsimp only at hSw);go_simp;first|done|with_reducible rfl)
         (try simp only[Act.put,ZA,ZB,ZC])
         refine wpAnyH_take (i:=14) (oi:=⟨some 100,.extract (.tmp 86) 0,25, "second.go:274",#[⟨13,.data⟩],none⟩) (v:=?_) rfl (by kernel_rfl) (by kernel_rfl) (by kernel_rfl) (fun _ _ _ h=>h) (Or.inl ⟨by rfl,?_⟩) hHeld ?_
         rotate_left
         ·(intro W hSw;(try dsimp only at hSw);go_simp;first|done|with_reducible rfl)
         (try simp only[Act.put,ZA,ZB,ZC])
         refine wpAnyH_take (i:=15) (oi:=⟨some 101,.extract (.tmp 86) 1,68, "second.go:274",#[⟨13,.data⟩,⟨18,.gcOnly .lateStores⟩],none⟩) (v:=?_) rfl (by kernel_rfl) (by kernel_rfl) (by kernel_rfl) (fun _ _ _ h=>h) (Or.inl ⟨by rfl,?_⟩) hHeld ?_
         rotate_left
         ·(intro W hSw;(try dsimp only at hSw);go_simp;first|done|with_reducible rfl)
         (try simp only[Act.put,ZA,ZB,ZC])
         refine wpAnyH_take (i:=16) (oi:=⟨some 102,.extract (.tmp 86) 2,31, "second.go:274",#[⟨13,.data⟩,⟨19,.gcOnly .lateStores⟩],none⟩) (v:=?_) rfl (by kernel_rfl) (by kernel_rfl) (by kernel_rfl) (fun _ _ _ h=>h) (Or.inl ⟨by rfl,?_⟩) hHeld ?_
         rotate_left
         ·(intro W hSw;(try dsimp only at hSw);go_simp;first|done|with_reducible rfl)
         (try simp only[Act.put,ZA,ZB,ZC])
         refine wpAnyH_ready (rs:=[17]) (by kernel_rfl) (by simp) ?_
         refine AllReadyH.cons (o:=⟨some 23,.alloc 68,0, "second.go:274",#[],none⟩) rfl (fun K hK=>?_) AllReadyH.nil
         go_simp
         obtain⟨WZ,hWZ⟩:∃ WZ,WZ=w6.alloc (.cells #[.slice none 0 0] 68):=⟨_,rfl⟩
         rw[←hWZ]
         obtain⟨bx,hbx⟩:∃ bx,bx=w6.heap.size:=⟨_,rfl⟩
         have MZ:Hid (WZ.heap[bx]? = some (.cells [.slice none 0 0].toArray 68 (0,0))):=by show _=_;rw[hWZ,hbx];exact heap_alloc_new _ _
         have hbz:Below w6.heap.size w6 WZ:=by rw[hWZ];exact bel_new _ _
         have BZ:=hide (bel_on (unhide HB6) hbz)
         have HM6:=hide ((unhide HM5).later hbz)
         have HS6:=hide ((unhide HS5).later hbz)
         have HBX2:Hid (wr.heap.size≤bx):=by show _≤_;rw[hbx];exact (unhide HB6).size
         rw[←hbx]
         clear hbz hWZ hbx HB6 HM5 HS5
         refine hK.out _ _ ((unhide KS) _ (unhide BZ)) (fun hHeld2=>?_)
         clear hK K hHeld
         have hHeld:=hHeld2
         clear hHeld2
         (try simp only[Act.put,ZA,ZB,ZC])
         refine wpAnyH_take (i:=18) (oi:=⟨some 22,.assign (.tmp 100),25, "second.go:274",#[⟨14,.data⟩,⟨12,.chain⟩,⟨0,.phase⟩,⟨1,.phase⟩,⟨2,.phase⟩,⟨3,.phase⟩,⟨4,.phase⟩,⟨5,.phase⟩,⟨6,.phase⟩,⟨7,.phase⟩,⟨8,.phase⟩,⟨9,.phase⟩,⟨10,.phase⟩,⟨11,.phase⟩,⟨12,.phase⟩,⟨13,.phase⟩,⟨14,.phase⟩,⟨15,.textOnly .lateStores⟩,⟨16,.textOnly .lateStores⟩,⟨17,.phase⟩],none⟩) (v:=?_) rfl (by kernel_rfl) (by kernel_rfl) (by kernel_rfl) (fun _ _ _ h=>h) (Or.inl ⟨by rfl,?_⟩) hHeld ?_
         rotate_left
         ·(intro W hSw;(try dsimp only at hSw);go_simp;first|done|with_reducible rfl)
         (try simp only[Act.put,ZA,ZB,ZC])
         have z6:=Za (unhide MZ) 0 _ rfl
         have zf6:=Zd (unhide MZ) 0
         have zl6:=lt_of_block (unhide MZ)
         refine wpAnyH_ready (rs:=[19]) (by kernel_rfl) (by simp) ?_
         refine AllReadyH.cons (o:=⟨none,.store 68 (.tmp 23) (.tmp 101),0, "second.go:274",#[⟨17,.data⟩,⟨15,.data⟩,⟨18,.chain⟩,⟨0,.phase⟩,⟨1,.phase⟩,⟨2,.phase⟩,⟨3,.phase⟩,⟨4,.phase⟩,⟨5,.phase⟩,⟨6,.phase⟩,⟨7,.phase⟩,⟨8,.phase⟩,⟨9,.phase⟩,⟨10,.phase⟩,⟨11,.phase⟩,⟨12,.phase⟩,⟨13,.phase⟩,⟨14,.phase⟩,⟨15,.phase⟩,⟨16,.textOnly .lateStores⟩,⟨17,.phase⟩,⟨18,.phase⟩],none⟩) rfl (fun K hK=>?_) AllReadyH.nil
         go_simp
         refine hK.out _ _ ((unhide KS) _ ((unhide BZ).setCell (unhide HBX2) _)) (fun hHeld2=>?_)
         clear hK K hHeld
         have hHeld:=hHeld2
         clear hHeld2
         (try simp only[Act.put,ZA,ZB,ZC])
         refine wpAnyH_take (i:=20) (oi:=⟨some 24,.assign (.tmp 102),31, "second.go:274",#[⟨16,.data⟩,⟨19,.chain⟩,⟨0,.phase⟩,⟨1,.phase⟩,⟨2,.phase⟩,⟨3,.phase⟩,⟨4,.phase⟩,⟨5,.phase⟩,⟨6,.phase⟩,⟨7,.phase⟩,⟨8,.phase⟩,⟨9,.phase⟩,⟨10,.phase⟩,⟨11,.phase⟩,⟨12,.phase⟩,⟨13,.phase⟩,⟨14,.phase⟩,⟨15,.phase⟩,⟨16,.phase⟩,⟨17,.phase⟩,⟨18,.phase⟩,⟨19,.phase⟩],none⟩) (v:=?_) rfl (by kernel_rfl) (by kernel_rfl) (by kernel_rfl) (fun _ _ _ h=>h) (Or.inl ⟨by rfl,?_⟩) hHeld ?_
         rotate_left
         ·(intro W hSw;(try dsimp only at hSw);go_simp;first|done|with_reducible rfl)
         (try simp only[Act.put,ZA,ZB,ZC])
         refine wpAnyH_done (by kernel_rfl) ?_ _
         have CS:=hide (Ta (g0:=w1.heap.size) (unhide BZ) (unhide HBX2) (unhide G0W) (unhide MZ) (unhide HM6) (unhide SM6) (unhide HS6) (unhide SS6))
         obtain⟨Y,hY⟩:∃ Y,Y=WZ.setCell ⟨bx,0,none⟩ (.slice sa ns cs):=⟨_,rfl⟩
         rw[←hY] at CS ⊢
         have HKY:=hide ((unhide KS) Y (unhide CS).1)
         clear hY hHeld KS AP z6 zf6 zl6 BZ HBX2 MZ HM6 SM6 HS6 SS6
         by_cases ey:y=0
         ·subst ey
          have few:=Jp (unhide HAP)
          have HR2:=hide (Jg (unhide HAP)).2.1
          have ho6:no2≤6:=by rw[←(unhide HOUT).1];exact (Ya (unhide HCK2)).2.1
          have hs6:ns≤6:=by rw[←(unhide CS).2.2.2.1.1];exact few.1
          obtain⟨f,hf⟩:∃ f,Zy s - Yc O=f:=⟨_,rfl⟩
          have hfb : -6000000000≤f∧f≤6000000000:=by
           have q1:=Ny few.1 few.2
           have q2:=P4 (Ya (unhide HCK2)).2.1 (Vy (unhide HCK2))
           simp only at q2
           omega
          have hFb:=M9 (unhide HF) hlt hm4
          have hw:IntKind.i64.wrap (F+f)=F+f:=by rw[IntKind.wrap_i64];omega
          have hik:k+1=i:=by
           have e:=unhide HI
           by_cases q:k+1<nn
           ·rw[Nat.mod_eq_of_lt q] at e;exact e
           ·rw[show k+1=nn by omega,Nat.mod_self] at e;omega
          have HF2:Hid (Wf T (S.set i s) nn (k+1) (F+f)):=by
           have q:=Lq (s:=s) (unhide HF) (by omega) (unhide ZT) (unhide HSL) (t:=(t1,I,O)) (by rw[hik];exact unhide HTG) (by simp only;omega) (by simp only;omega)
           rw[hik] at q
           simp only at q
           rw[hf] at q
           show Wf _ _ _ _ _
           rw[hik]
           exact q
          have HQ2:Hid (Xd ht r T N (nn - (k+1)) (k+1) M (S.set i s)=(x,C',S')):=by
           have e:=unhide HEQ
           rw[if_neg (fun q=>hi1 q.1),if_neg (by decide)] at e
           exact e
          have FE:Hid (∀ U,Below Y.heap.size Y U→Calls Tryz.prog 43 #[.agg #[.int .i64 t1,.slice ai ni ci,.slice ao no2 co],.slice sa ns cs] U fun e w'=>e = .returned (.int .i64 f)∧Below U.heap.size U w'):=fun U hb=>
           Ml sa ns cs s t1 ai ao ni ci no2 co O f U hs6 ho6 ((unhide CS).2.2.2.1.later hb) ((unhide HOUTx).later (bel_on (unhide CS).1 hb)) few.2 (Vy (unhide HCK2)) hf
          have KS8:Hid (∀ U,Below Y.heap.size Y U→Below Y.heap.size Y U∧U.cell? ⟨w.heap.size,4,none⟩=some (.slice (some ⟨tb,tof,none⟩) nn c)∧U.cell? ⟨tb,tof+i*3,none⟩=some (.int .i64 t1)∧U.cell? ⟨tb,tof+i*3+1,none⟩=some (.slice ai ni ci)∧U.cell? ⟨tb,tof+i*3+2,none⟩=some (.slice ao no2 co)∧U.cell? ⟨bx,0,none⟩=some (.slice sa ns cs)):=fun U hb=>
           ⟨hb,cell_later hb (unhide HKY).2.2.1,cell_later hb (unhide HKY).2.2.2.1,cell_later hb (unhide HKY).2.2.2.2.1,cell_later hb (unhide HKY).2.2.2.2.2.1,cell_later hb (Za (unhide CS).2.2.2.2.2.2 0 _ rfl)⟩
          clear few hs6 ho6 hFb hfb hik HEQ hf
          go_wp2_with fail
          refine wp_region_held_drew (S:=fun U=>Below Y.heap.size Y U∧U.cell? ⟨w.heap.size,4,none⟩=some (.slice (some ⟨tb,tof,none⟩) nn c)∧U.cell? ⟨tb,tof+i*3,none⟩=some (.int .i64 t1)∧U.cell? ⟨tb,tof+i*3+1,none⟩=some (.slice ai ni ci)∧U.cell? ⟨tb,tof+i*3+2,none⟩=some (.slice ao no2 co)∧U.cell? ⟨bx,0,none⟩=some (.slice sa ns cs)) (by kernel_rfl) ((unhide KS8) _ (Zc _)) (fun hHeld=>?_)
          refine wpAnyH_take (i:=0) (oi:=⟨some 108,.move (.tmp 14),3, "second.go:279",#[],none⟩) (v:=?_) rfl (by kernel_rfl) (by kernel_rfl) (by kernel_rfl) (fun _ _ _ h=>h) (Or.inl ⟨by rfl,?_⟩) hHeld ?_
          rotate_left
          ·(intro W hSw;(try dsimp only at hSw);go_simp;first|done|with_reducible rfl)
          (try simp only[Act.put,ZA,ZB,ZC])
          refine wpAnyH_take (i:=1) (oi:=⟨some 109,.fieldAddr 28 (.tmp 5) 4,0, "second.go:279",#[],none⟩) (v:=?_) rfl (by kernel_rfl) (by kernel_rfl) (by kernel_rfl) (fun _ _ _ h=>h) (Or.inl ⟨by rfl,?_⟩) hHeld ?_
          rotate_left
          ·(intro W hSw;(try dsimp only at hSw);go_simp;first|done|with_reducible rfl)
          (try simp only[Act.put,ZA,ZB,ZC])
          refine wpAnyH_take (i:=2) (oi:=⟨some 110,.load 26 (.tmp 109),26, "second.go:279",#[⟨1,.data⟩],none⟩) (v:=?_) rfl (by kernel_rfl) (by kernel_rfl) (by kernel_rfl) (fun _ _ _ h=>h) (Or.inl ⟨by rfl,?_⟩) hHeld ?_
          rotate_left
          ·(intro W hSw;(try dsimp only at hSw);go_simp;first|done|with_reducible rfl)
          (try simp only[Act.put,ZA,ZB,ZC])
          refine wpAnyH_take (i:=3) (oi:=⟨some 111,.move (.tmp 18),3, "second.go:279",#[],none⟩) (v:=?_) rfl (by kernel_rfl) (by kernel_rfl) (by kernel_rfl) (fun _ _ _ h=>h) (Or.inl ⟨by rfl,?_⟩) hHeld ?_
          rotate_left
          ·(intro W hSw;(try dsimp only at hSw);go_simp;first|done|with_reducible rfl)
          (try simp only[Act.put,ZA,ZB,ZC])
          refine wpAnyH_take (i:=4) (oi:=⟨some 112,.indexAddr 26 (.tmp 110) (.tmp 111),0, "second.go:279",#[⟨2,.data⟩,⟨3,.data⟩],none⟩) (v:=?_) rfl (by kernel_rfl) (by kernel_rfl) (by kernel_rfl) (fun _ _ _ h=>h) (Or.inl ⟨by rfl,?_⟩) hHeld ?_
          rotate_left
          ·(intro W hSw;(try dsimp only at hSw);go_simp;first|done|with_reducible rfl)
          (try simp only[Act.put,ZA,ZB,ZC])
          refine wpAnyH_take (i:=5) (oi:=⟨some 113,.load 74 (.tmp 112),74, "second.go:279",#[⟨4,.data⟩],none⟩) (v:=?_) rfl (by kernel_rfl) (by kernel_rfl) (by kernel_rfl) (fun _ _ _ h=>h) (Or.inl ⟨by rfl,?_⟩) hHeld ?_
          rotate_left
          ·(intro W hSw;(try dsimp only at hSw);go_simp;first|done|with_reducible rfl)
          (try simp only[Act.put,ZA,ZB,ZC])
          refine wpAnyH_take (i:=6) (oi:=⟨some 114,.fieldAddr 68 (.tmp 23) 0,0, "second.go:279",#[],none⟩) (v:=?_) rfl (by kernel_rfl) (by kernel_rfl) (by kernel_rfl) (fun _ _ _ h=>h) (Or.inl ⟨by rfl,?_⟩) hHeld ?_
          rotate_left
          ·(intro W hSw;(try dsimp only at hSw);go_simp;first|done|with_reducible rfl)
          (try simp only[Act.put,ZA,ZB,ZC])
          refine wpAnyH_take (i:=7) (oi:=⟨some 115,.load 25 (.tmp 114),25, "second.go:279",#[⟨6,.data⟩],none⟩) (v:=?_) rfl (by kernel_rfl) (by kernel_rfl) (by kernel_rfl) (fun _ _ _ h=>h) (Or.inl ⟨by rfl,?_⟩) hHeld ?_
          rotate_left
          ·(intro W hSw;(try dsimp only at hSw);go_simp;first|done|with_reducible rfl)
          (try simp only[Act.put,ZA,ZB,ZC])
          refine wpAnyH_ready (rs:=[8]) (by kernel_rfl) (by simp) ?_
          refine AllReadyH.cons (o:=⟨some 116,.call { callee:=Callee.value (.func 43),args:=#[.tmp 113,.tmp 115],argTypes:=#[74,25] },3, "second.go:279",#[⟨5,.data⟩,⟨7,.data⟩],none⟩) rfl (fun K hK=>?_) AllReadyH.nil
          refine Xf (by kernel_rfl) 43 #[.agg #[.int .i64 t1,.slice ai ni ci,.slice ao no2 co],.slice sa ns cs] (by kernel_rfl) ((unhide FE) _ hHeld.1) ?_
          rintro e Y2 ⟨rfl,hbc⟩
          refine⟨_,rfl,?_⟩
          have HBY2:=hide (bel_on hHeld.1 hbc)
          clear hbc
          refine hK.out _ _ ((unhide KS8) _ (unhide HBY2)) (fun hHeld2=>?_)
          clear hK K hHeld
          have hHeld:=hHeld2
          clear hHeld2
          (try simp only[Act.put,ZA,ZB,ZC])
          refine wpAnyH_take (i:=9) (oi:=⟨some 117,.binOp BinOp.add 3 (.tmp 108) (.tmp 116) 3,3, "second.go:279",#[⟨0,.data⟩,⟨8,.data⟩],none⟩) (v:=?_) rfl (by kernel_rfl) (by kernel_rfl) (by kernel_rfl) (fun _ _ _ h=>h) (Or.inl ⟨by rfl,?_⟩) hHeld ?_
          rotate_left
          ·(intro W hSw;(try dsimp only at hSw);go_simp;first|done|with_reducible rfl)
          (try simp only[Act.put,ZA,ZB,ZC])
          refine wpAnyH_take (i:=10) (oi:=⟨some 14,.assign (.tmp 117),3, "second.go:279",#[⟨9,.data⟩,⟨8,.chain⟩,⟨0,.phase⟩,⟨1,.phase⟩,⟨2,.phase⟩,⟨3,.phase⟩,⟨4,.phase⟩,⟨5,.phase⟩,⟨6,.phase⟩,⟨7,.phase⟩,⟨8,.phase⟩,⟨9,.phase⟩],none⟩) (v:=?_) rfl (by kernel_rfl) (by kernel_rfl) (by kernel_rfl) (fun _ _ _ h=>h) (Or.inl ⟨by rfl,?_⟩) hHeld ?_
          rotate_left
          ·(intro W hSw;(try dsimp only at hSw);go_simp;first|done|with_reducible rfl)
          (try simp only[Act.put,ZA,ZB,ZC])
          refine wpAnyH_done (by kernel_rfl) ?_ _
          clear hHeld KS8 FE
          have HBW2:=hide (bel_on (unhide CS).1 (unhide HBY2))
          have HM2:=hide ((unhide CS).2.1.later (unhide HBY2))
          have HS2:=hide ((unhide CS).2.2.2.1.later (unhide HBY2))
          have HU2:=hide ((unhide HUx).later (unhide HBW2))
          have UO:Hid (UsOk 68 w1.heap.size nn Y2):=by have:=(unhide HU2).ok;rw[unhide HSL] at this;exact this
          have KS9:Hid (∀ U,Gr Y2 U (fun q=>q=w1.heap.size)→UsOk 68 w1.heap.size nn U→Gr Y2 U (fun q=>q=w1.heap.size)∧U.cell? ⟨bx,0,none⟩=some (.slice sa ns cs)∧UsOk 68 w1.heap.size nn U):=fun U hg ho=>
           have hb:=((unhide HBY2).block _ (lt_of_block (unhide CS).2.2.2.2.2.2)).trans (unhide CS).2.2.2.2.2.2
           ⟨hg,Za ((hg.block bx (lt_of_block hb) (unhide CS).2.2.2.2.2.1).trans hb) 0 _ rfl,ho⟩
          obtain⟨zz,z6⟩:=(unhide UO).cell hil
          have zf6:=(unhide UO).free i
          have zl6:=(unhide UO).lt
          go_wp2_with fail
          refine wp_region_held_drew (S:=fun U=>Gr Y2 U (fun q=>q=w1.heap.size)∧U.cell? ⟨bx,0,none⟩=some (.slice sa ns cs)∧UsOk 68 w1.heap.size nn U) (by kernel_rfl) ((unhide KS9) _ (Gr.refl _ _).draw ((unhide UO).later (Zc _))) (fun hHeld=>?_)
          refine wpAnyH_take (i:=0) (oi:=⟨some 118,.move (.tmp 13),29, "second.go:281",#[⟨4,.gcOnly .lateStores⟩],none⟩) (v:=?_) rfl (by kernel_rfl) (by kernel_rfl) (by kernel_rfl) (fun _ _ _ h=>h) (Or.inl ⟨by rfl,?_⟩) hHeld ?_
          rotate_left
          ·(intro W hSw;(try dsimp only at hSw);go_simp;first|done|with_reducible rfl)
          (try simp only[Act.put,ZA,ZB,ZC])
          refine wpAnyH_take (i:=1) (oi:=⟨some 119,.move (.tmp 18),3, "second.go:281",#[⟨4,.gcOnly .lateStores⟩],none⟩) (v:=?_) rfl (by kernel_rfl) (by kernel_rfl) (by kernel_rfl) (fun _ _ _ h=>h) (Or.inl ⟨by rfl,?_⟩) hHeld ?_
          rotate_left
          ·(intro W hSw;(try dsimp only at hSw);go_simp;first|done|with_reducible rfl)
          (try simp only[Act.put,ZA,ZB,ZC])
          refine wpAnyH_take (i:=2) (oi:=⟨some 120,.move (.tmp 22),25, "second.go:281",#[],none⟩) (v:=?_) rfl (by kernel_rfl) (by kernel_rfl) (by kernel_rfl) (fun _ _ _ h=>h) (Or.inl ⟨by rfl,?_⟩) hHeld ?_
          rotate_left
          ·(intro W hSw;(try dsimp only at hSw);go_simp;first|done|with_reducible rfl)
          (try simp only[Act.put,ZA,ZB,ZC])
          refine wpAnyH_take (i:=3) (oi:=⟨some 121,.load 68 (.tmp 23),68, "second.go:281",#[⟨4,.gcOnly .lateStores⟩],none⟩) (v:=?_) rfl (by kernel_rfl) (by kernel_rfl) (by kernel_rfl) (fun _ _ _ h=>h) (Or.inl ⟨by rfl,?_⟩) hHeld ?_
          rotate_left
          ·(intro W hSw;(try dsimp only at hSw);go_simp;first|done|with_reducible rfl)
          (try simp only[Act.put,ZA,ZB,ZC])
          refine wpAnyH_take (i:=4) (oi:=⟨some 1,.assign (.tmp 120),25, "second.go:281",#[⟨2,.data⟩,⟨0,.textOnly .lateStores⟩,⟨1,.textOnly .lateStores⟩,⟨2,.phase⟩,⟨3,.textOnly .lateStores⟩],none⟩) (v:=?_) rfl (by kernel_rfl) (by kernel_rfl) (by kernel_rfl) (fun _ _ _ h=>h) (Or.inl ⟨by rfl,?_⟩) hHeld ?_
          rotate_left
          ·(intro W hSw;(try dsimp only at hSw);go_simp;first|done|with_reducible rfl)
          (try simp only[Act.put,ZA,ZB,ZC])
          refine wpAnyH_take (i:=5) (oi:=⟨some 122,.indexAddr 29 (.tmp 118) (.tmp 119),0, "second.go:281",#[⟨0,.data⟩,⟨1,.data⟩,⟨0,.phase⟩,⟨1,.phase⟩,⟨2,.phase⟩,⟨3,.phase⟩,⟨4,.phase⟩],none⟩) (v:=?_) rfl (by kernel_rfl) (by kernel_rfl) (by kernel_rfl) (fun _ _ _ h=>h) (Or.inl ⟨by rfl,?_⟩) hHeld ?_
          rotate_left
          ·(intro W hSw;(try dsimp only at hSw);go_simp;first|done|with_reducible rfl)
          (try simp only[Act.put,ZA,ZB,ZC])
          refine wpAnyH_ready (rs:=[6]) (by kernel_rfl) (by simp) ?_
          refine AllReadyH.cons (o:=⟨none,.store 68 (.tmp 122) (.tmp 121),0, "second.go:281",#[⟨5,.data⟩,⟨3,.data⟩,⟨4,.chain⟩,⟨0,.phase⟩,⟨1,.phase⟩,⟨2,.phase⟩,⟨3,.phase⟩,⟨4,.phase⟩],none⟩) rfl (fun K hK=>?_) AllReadyH.nil
          go_simp
          refine hK.out _ _ ((unhide KS9) _ ((Gr.refl Y2 (fun q=>q=w1.heap.size)).draw.one w1.heap.size i (.inl rfl) _) (UsOk.put ((unhide UO).later (Zc _)) i _ _ _)) (fun hHeld2=>?_)
          clear hK K hHeld
          have hHeld:=hHeld2
          clear hHeld2
          (try simp only[Act.put,ZA,ZB,ZC])
          refine wpAnyH_done (by kernel_rfl) ?_ _
          clear hHeld KS9 z6 zf6 zl6
          have HBD:=hide (Zc Y2)
          have HU3:=hide (((unhide HU2).later (unhide HBD)).put i ((unhide HS2).later (unhide HBD)) (unhide CS).2.2.2.2.1)
          have HM3:=hide (Xj ((unhide HM2).later (unhide HBD)) ((unhide UO).later (unhide HBD)) ((Gr.refl Y2.drew (fun q=>q=w1.heap.size)).one w1.heap.size i (.inl rfl) (.slice sa ns cs)))
          have HG3:=hide ((((unhide HGx).trans (Gr.of (unhide HBW2))).draw).one w1.heap.size i (.inl rfl) (.slice sa ns cs))
          have HSL2:Hid ((S.set i s).length=nn):=by show _=_;rw[List.length_set];exact unhide HSL
          obtain⟨Q,hQ⟩:∃ Q,Q=Y2.drew.setCell ⟨w1.heap.size,i,none⟩ (.slice sa ns cs):=⟨_,rfl⟩
          rw[←hQ] at HM3 HU3 HG3
          (first|rw[←hQ]|(rw[show (Y2.setCell ⟨w1.heap.size,i,none⟩ (.slice sa ns cs)).drew=Q from hQ.symm]))
          have SM3:=hide (unhide CS).2.2.1
          clear hQ HBD HM2 HS2 HU2 UO CS HKY HBW2 HBY2
          go_wp2
          go_roundw
          case rel=>exact⟨k+1,am,nm6,cm,M,S.set i s,F+f,by omega,rfl,rfl,by go_num,(⟨unhide HM3,unhide SM3,unhide HR2⟩:CoinsAt Q am nm6 M∧SlOk am nm6 cm∧Zs M),HU3,HSL2,HF2,HQ2,HG3⟩
          case measure=>simp[intOf];omega
         ·have g:(y != 0)=true:=by simp[ey]
          have HE2:Hid ((y,([]:List Zb),([]:List (List Zb)))=(x,C',S')):=by have e:=unhide HEQ;rw[if_neg (fun q=>hi1 q.1),if_pos ey] at e;exact e
          have HWW:=hide (bel_on (unhide HBX) (bel_on ((unhide HBV) wr (unhide HGx)) (unhide CS).1))
          clear CS HKY HEQ
          go_wp2
          (try simp only[Exit.inBlock,Exit.then])
          refine bodyPost_ret (v:=.tuple #[.slice none 0 0,.slice none 0 0,.int .i64 y]) ?_ rfl (Vi (unhide HE2) (unhide HWW))
          simp[results,Tryz.f15,go_sem]
        ·go_simp
         obtain⟨WA,hWA⟩:∃ WA,WA=wr.drew.alloc (.cells #[.slice none 0 0] 68):=⟨_,rfl⟩
         (first|rw[←hWA]|(rw[show (wr.alloc (.cells #[.slice none 0 0] 68)).drew=WA from hWA.symm]))
         have hbA:Below wr.heap.size wr WA:=by rw[hWA];exact bel_on (Zc wr) (bel_new _ _)
         obtain⟨bx,hbx⟩:∃ bx,bx=wr.heap.size:=⟨_,rfl⟩
         have MA:Hid (WA.heap[bx]? = some (.cells [.slice none 0 0].toArray 68 (0,0))):=by show _=_;rw[hWA,hbx];exact heap_alloc_new wr.drew _
         have HBX2:Hid (wr.heap.size≤bx):=by show _≤_;rw[hbx];exact Nat.le_refl _
         rw[←hbx]
         have HBA:=hide hbA
         clear hWA hbx hbA
         refine hK.out _ _ ((unhide KS) _ (unhide HBA)) (fun hHeld2=>?_)
         clear hK K hHeld
         have hHeld:=hHeld2
         clear hHeld2
         (try simp only[Act.put,ZA,ZB,ZC])
         refine wpAnyH_ready (rs:=[12]) (by kernel_rfl) (by simp) ?_
         refine AllReadyH.cons (o:=⟨some 99,.call { callee:=Callee.value (.func 42),args:=#[.tmp 87,.tmp 92,.tmp 96,.tmp 98],argTypes:=#[25,74,3,3] },69, "second.go:274",#[⟨0,.data⟩,⟨5,.data⟩,⟨9,.data⟩,⟨11,.data⟩],none⟩) rfl (fun K hK=>?_) AllReadyH.nil
         refine Xf (by kernel_rfl) 42 #[.slice oa oon oc,.agg #[.int .i64 t1,.slice ai ni ci,.slice ao no2 co],.int .i64 nm,.int .i64 ht] (by kernel_rfl) ((unhide AP) _ hHeld.1) ?_
         rintro e WZ ⟨am,nm6,cm,sa,ns,cs,rfl,hM6,sM6,hS6,sS6,hbc⟩
         refine⟨_,rfl,?_⟩
         have BZ:=hide (bel_on (unhide HBA) hbc)
         have HM6:=hide hM6
         have HS6:=hide hS6
         have SM6:=hide sM6
         have SS6:=hide sS6
         have MZ:=hide ((hbc.block _ (lt_of_block (unhide MA))).trans (unhide MA))
         clear hM6 hS6 sM6 sS6 hbc MA HBA
         refine hK.out _ _ ((unhide KS) _ (unhide BZ)) (fun hHeld2=>?_)
         clear hK K hHeld
         have hHeld:=hHeld2
         clear hHeld2
         (try simp only[Act.put,ZA,ZB,ZC])
         refine wpAnyH_take (i:=13) (oi:=⟨some 86,.move (.tmp 99),69, "second.go:274",#[⟨12,.data⟩],none⟩) (v:=?_) rfl (by kernel_rfl) (by kernel_rfl) (by kernel_rfl) (fun _ _ _ h=>h) (Or.inl ⟨by rfl,?_⟩) hHeld ?_
         rotate_left
         ·(intro W hSw;(try dsimp only at hSw);go_simp;first|done|with_reducible rfl)
         (try simp only[Act.put,ZA,ZB,ZC])
         refine wpAnyH_take (i:=14) (oi:=⟨some 100,.extract (.tmp 86) 0,25, "second.go:274",#[⟨13,.data⟩],none⟩) (v:=?_) rfl (by kernel_rfl) (by kernel_rfl) (by kernel_rfl) (fun _ _ _ h=>h) (Or.inl ⟨by rfl,?_⟩) hHeld ?_
         rotate_left
         ·(intro W hSw;(try dsimp only at hSw);go_simp;first|done|with_reducible rfl)
         (try simp only[Act.put,ZA,ZB,ZC])
         refine wpAnyH_take (i:=15) (oi:=⟨some 101,.extract (.tmp 86) 1,68, "second.go:274",#[⟨13,.data⟩,⟨18,.gcOnly .lateStores⟩],none⟩) (v:=?_) rfl (by kernel_rfl) (by kernel_rfl) (by kernel_rfl) (fun _ _ _ h=>h) (Or.inl ⟨by rfl,?_⟩) hHeld ?_
         rotate_left
         ·(intro W hSw;(try dsimp only at hSw);go_simp;first|done|with_reducible rfl)
         (try simp only[Act.put,ZA,ZB,ZC])
         refine wpAnyH_take (i:=16) (oi:=⟨some 102,.extract (.tmp 86) 2,31, "second.go:274",#[⟨13,.data⟩,⟨19,.gcOnly .lateStores⟩],none⟩) (v:=?_) rfl (by kernel_rfl) (by kernel_rfl) (by kernel_rfl) (fun _ _ _ h=>h) (Or.inl ⟨by rfl,?_⟩) hHeld ?_
         rotate_left
         ·(intro W hSw;(try dsimp only at hSw);go_simp;first|done|with_reducible rfl)
         (try simp only[Act.put,ZA,ZB,ZC])
         refine wpAnyH_take (i:=18) (oi:=⟨some 22,.assign (.tmp 100),25, "second.go:274",#[⟨14,.data⟩,⟨12,.chain⟩,⟨0,.phase⟩,⟨1,.phase⟩,⟨2,.phase⟩,⟨3,.phase⟩,⟨4,.phase⟩,⟨5,.phase⟩,⟨6,.phase⟩,⟨7,.phase⟩,⟨8,.phase⟩,⟨9,.phase⟩,⟨10,.phase⟩,⟨11,.phase⟩,⟨12,.phase⟩,⟨13,.phase⟩,⟨14,.phase⟩,⟨15,.textOnly .lateStores⟩,⟨16,.textOnly .lateStores⟩,⟨17,.phase⟩],none⟩) (v:=?_) rfl (by kernel_rfl) (by kernel_rfl) (by kernel_rfl) (fun _ _ _ h=>h) (Or.inl ⟨by rfl,?_⟩) hHeld ?_
         rotate_left
         ·(intro W hSw;(try dsimp only at hSw);go_simp;first|done|with_reducible rfl)
         (try simp only[Act.put,ZA,ZB,ZC])
         have z6:=Za (unhide MZ) 0 _ rfl
         have zf6:=Zd (unhide MZ) 0
         have zl6:=lt_of_block (unhide MZ)
         refine wpAnyH_ready (rs:=[19]) (by kernel_rfl) (by simp) ?_
         refine AllReadyH.cons (o:=⟨none,.store 68 (.tmp 23) (.tmp 101),0, "second.go:274",#[⟨17,.data⟩,⟨15,.data⟩,⟨18,.chain⟩,⟨0,.phase⟩,⟨1,.phase⟩,⟨2,.phase⟩,⟨3,.phase⟩,⟨4,.phase⟩,⟨5,.phase⟩,⟨6,.phase⟩,⟨7,.phase⟩,⟨8,.phase⟩,⟨9,.phase⟩,⟨10,.phase⟩,⟨11,.phase⟩,⟨12,.phase⟩,⟨13,.phase⟩,⟨14,.phase⟩,⟨15,.phase⟩,⟨16,.textOnly .lateStores⟩,⟨17,.phase⟩,⟨18,.phase⟩],none⟩) rfl (fun K hK=>?_) AllReadyH.nil
         go_simp
         refine hK.out _ _ ((unhide KS) _ ((unhide BZ).setCell (unhide HBX2) _)) (fun hHeld2=>?_)
         clear hK K hHeld
         have hHeld:=hHeld2
         clear hHeld2
         (try simp only[Act.put,ZA,ZB,ZC])
         refine wpAnyH_take (i:=20) (oi:=⟨some 24,.assign (.tmp 102),31, "second.go:274",#[⟨16,.data⟩,⟨19,.chain⟩,⟨0,.phase⟩,⟨1,.phase⟩,⟨2,.phase⟩,⟨3,.phase⟩,⟨4,.phase⟩,⟨5,.phase⟩,⟨6,.phase⟩,⟨7,.phase⟩,⟨8,.phase⟩,⟨9,.phase⟩,⟨10,.phase⟩,⟨11,.phase⟩,⟨12,.phase⟩,⟨13,.phase⟩,⟨14,.phase⟩,⟨15,.phase⟩,⟨16,.phase⟩,⟨17,.phase⟩,⟨18,.phase⟩,⟨19,.phase⟩],none⟩) (v:=?_) rfl (by kernel_rfl) (by kernel_rfl) (by kernel_rfl) (fun _ _ _ h=>h) (Or.inl ⟨by rfl,?_⟩) hHeld ?_
         rotate_left
         ·(intro W hSw;(try dsimp only at hSw);go_simp;first|done|with_reducible rfl)
         (try simp only[Act.put,ZA,ZB,ZC])
         refine wpAnyH_done (by kernel_rfl) ?_ _
         have CS:=hide (Ta (g0:=w1.heap.size) (unhide BZ) (unhide HBX2) (unhide G0W) (unhide MZ) (unhide HM6) (unhide SM6) (unhide HS6) (unhide SS6))
         obtain⟨Y,hY⟩:∃ Y,Y=WZ.setCell ⟨bx,0,none⟩ (.slice sa ns cs):=⟨_,rfl⟩
         rw[←hY] at CS ⊢
         have HKY:=hide ((unhide KS) Y (unhide CS).1)
         clear hY hHeld KS AP z6 zf6 zl6 BZ HBX2 MZ HM6 SM6 HS6 SS6
         by_cases ey:y=0
         ·subst ey
          have few:=Jp (unhide HAP)
          have HR2:=hide (Jg (unhide HAP)).2.1
          have ho6:no2≤6:=by rw[←(unhide HOUT).1];exact (Ya (unhide HCK2)).2.1
          have hs6:ns≤6:=by rw[←(unhide CS).2.2.2.1.1];exact few.1
          obtain⟨f,hf⟩:∃ f,Zy s - Yc O=f:=⟨_,rfl⟩
          have hfb : -6000000000≤f∧f≤6000000000:=by
           have q1:=Ny few.1 few.2
           have q2:=P4 (Ya (unhide HCK2)).2.1 (Vy (unhide HCK2))
           simp only at q2
           omega
          have hFb:=M9 (unhide HF) hlt hm4
          have hw:IntKind.i64.wrap (F+f)=F+f:=by rw[IntKind.wrap_i64];omega
          have hik:k+1=i:=by
           have e:=unhide HI
           by_cases q:k+1<nn
           ·rw[Nat.mod_eq_of_lt q] at e;exact e
           ·rw[show k+1=nn by omega,Nat.mod_self] at e;omega
          have HF2:Hid (Wf T (S.set i s) nn (k+1) (F+f)):=by
           have q:=Lq (s:=s) (unhide HF) (by omega) (unhide ZT) (unhide HSL) (t:=(t1,I,O)) (by rw[hik];exact unhide HTG) (by simp only;omega) (by simp only;omega)
           rw[hik] at q
           simp only at q
           rw[hf] at q
           show Wf _ _ _ _ _
           rw[hik]
           exact q
          have HQ2:Hid (Xd ht r T N (nn - (k+1)) (k+1) M (S.set i s)=(x,C',S')):=by
           have e:=unhide HEQ
           rw[if_neg (fun q=>hi1 q.1),if_neg (by decide)] at e
           exact e
          have FE:Hid (∀ U,Below Y.heap.size Y U→Calls Tryz.prog 43 #[.agg #[.int .i64 t1,.slice ai ni ci,.slice ao no2 co],.slice sa ns cs] U fun e w'=>e = .returned (.int .i64 f)∧Below U.heap.size U w'):=fun U hb=>
           Ml sa ns cs s t1 ai ao ni ci no2 co O f U hs6 ho6 ((unhide CS).2.2.2.1.later hb) ((unhide HOUTx).later (bel_on (unhide CS).1 hb)) few.2 (Vy (unhide HCK2)) hf
          have KS8:Hid (∀ U,Below Y.heap.size Y U→Below Y.heap.size Y U∧U.cell? ⟨w.heap.size,4,none⟩=some (.slice (some ⟨tb,tof,none⟩) nn c)∧U.cell? ⟨tb,tof+i*3,none⟩=some (.int .i64 t1)∧U.cell? ⟨tb,tof+i*3+1,none⟩=some (.slice ai ni ci)∧U.cell? ⟨tb,tof+i*3+2,none⟩=some (.slice ao no2 co)∧U.cell? ⟨bx,0,none⟩=some (.slice sa ns cs)):=fun U hb=>
           ⟨hb,cell_later hb (unhide HKY).2.2.1,cell_later hb (unhide HKY).2.2.2.1,cell_later hb (unhide HKY).2.2.2.2.1,cell_later hb (unhide HKY).2.2.2.2.2.1,cell_later hb (Za (unhide CS).2.2.2.2.2.2 0 _ rfl)⟩
          clear few hs6 ho6 hFb hfb hik HEQ hf
          go_wp2_with fail
          refine wp_region_held_drew (S:=fun U=>Below Y.heap.size Y U∧U.cell? ⟨w.heap.size,4,none⟩=some (.slice (some ⟨tb,tof,none⟩) nn c)∧U.cell? ⟨tb,tof+i*3,none⟩=some (.int .i64 t1)∧U.cell? ⟨tb,tof+i*3+1,none⟩=some (.slice ai ni ci)∧U.cell? ⟨tb,tof+i*3+2,none⟩=some (.slice ao no2 co)∧U.cell? ⟨bx,0,none⟩=some (.slice sa ns cs)) (by kernel_rfl) ((unhide KS8) _ (Zc _)) (fun hHeld=>?_)
          refine wpAnyH_take (i:=0) (oi:=⟨some 108,.move (.tmp 14),3, "second.go:279",#[],none⟩) (v:=?_) rfl (by kernel_rfl) (by kernel_rfl) (by kernel_rfl) (fun _ _ _ h=>h) (Or.inl ⟨by rfl,?_⟩) hHeld ?_
          rotate_left
          ·(intro W hSw;(try dsimp only at hSw);go_simp;first|done|with_reducible rfl)
          (try simp only[Act.put,ZA,ZB,ZC])
          refine wpAnyH_take (i:=1) (oi:=⟨some 109,.fieldAddr 28 (.tmp 5) 4,0, "second.go:279",#[],none⟩) (v:=?_) rfl (by kernel_rfl) (by kernel_rfl) (by kernel_rfl) (fun _ _ _ h=>h) (Or.inl ⟨by rfl,?_⟩) hHeld ?_
          rotate_left
          ·(intro W hSw;(try dsimp only at hSw);go_simp;first|done|with_reducible rfl)
          (try simp only[Act.put,ZA,ZB,ZC])
          refine wpAnyH_take (i:=2) (oi:=⟨some 110,.load 26 (.tmp 109),26, "second.go:279",#[⟨1,.data⟩],none⟩) (v:=?_) rfl (by kernel_rfl) (by kernel_rfl) (by kernel_rfl) (fun _ _ _ h=>h) (Or.inl ⟨by rfl,?_⟩) hHeld ?_
          rotate_left
          ·(intro W hSw;(try dsimp only at hSw);go_simp;first|done|with_reducible rfl)
          (try simp only[Act.put,ZA,ZB,ZC])
          refine wpAnyH_take (i:=3) (oi:=⟨some 111,.move (.tmp 18),3, "second.go:279",#[],none⟩) (v:=?_) rfl (by kernel_rfl) (by kernel_rfl) (by kernel_rfl) (fun _ _ _ h=>h) (Or.inl ⟨by rfl,?_⟩) hHeld ?_
          rotate_left
          ·(intro W hSw;(try dsimp only at hSw);go_simp;first|done|with_reducible rfl)
          (try simp only[Act.put,ZA,ZB,ZC])
          refine wpAnyH_take (i:=4) (oi:=⟨some 112,.indexAddr 26 (.tmp 110) (.tmp 111),0, "second.go:279",#[⟨2,.data⟩,⟨3,.data⟩],none⟩) (v:=?_) rfl (by kernel_rfl) (by kernel_rfl) (by kernel_rfl) (fun _ _ _ h=>h) (Or.inl ⟨by rfl,?_⟩) hHeld ?_
          rotate_left
          ·(intro W hSw;(try dsimp only at hSw);go_simp;first|done|with_reducible rfl)
          (try simp only[Act.put,ZA,ZB,ZC])
          refine wpAnyH_take (i:=5) (oi:=⟨some 113,.load 74 (.tmp 112),74, "second.go:279",#[⟨4,.data⟩],none⟩) (v:=?_) rfl (by kernel_rfl) (by kernel_rfl) (by kernel_rfl) (fun _ _ _ h=>h) (Or.inl ⟨by rfl,?_⟩) hHeld ?_
          rotate_left
          ·(intro W hSw;(try dsimp only at hSw);go_simp;first|done|with_reducible rfl)
          (try simp only[Act.put,ZA,ZB,ZC])
          refine wpAnyH_take (i:=6) (oi:=⟨some 114,.fieldAddr 68 (.tmp 23) 0,0, "second.go:279",#[],none⟩) (v:=?_) rfl (by kernel_rfl) (by kernel_rfl) (by kernel_rfl) (fun _ _ _ h=>h) (Or.inl ⟨by rfl,?_⟩) hHeld ?_
          rotate_left
          ·(intro W hSw;(try dsimp only at hSw);go_simp;first|done|with_reducible rfl)
          (try simp only[Act.put,ZA,ZB,ZC])
          refine wpAnyH_take (i:=7) (oi:=⟨some 115,.load 25 (.tmp 114),25, "second.go:279",#[⟨6,.data⟩],none⟩) (v:=?_) rfl (by kernel_rfl) (by kernel_rfl) (by kernel_rfl) (fun _ _ _ h=>h) (Or.inl ⟨by rfl,?_⟩) hHeld ?_
          rotate_left
          ·(intro W hSw;(try dsimp only at hSw);go_simp;first|done|with_reducible rfl)
          (try simp only[Act.put,ZA,ZB,ZC])
          refine wpAnyH_ready (rs:=[8]) (by kernel_rfl) (by simp) ?_
          refine AllReadyH.cons (o:=⟨some 116,.call { callee:=Callee.value (.func 43),args:=#[.tmp 113,.tmp 115],argTypes:=#[74,25] },3, "second.go:279",#[⟨5,.data⟩,⟨7,.data⟩],none⟩) rfl (fun K hK=>?_) AllReadyH.nil
          refine Xf (by kernel_rfl) 43 #[.agg #[.int .i64 t1,.slice ai ni ci,.slice ao no2 co],.slice sa ns cs] (by kernel_rfl) ((unhide FE) _ hHeld.1) ?_
          rintro e Y2 ⟨rfl,hbc⟩
          refine⟨_,rfl,?_⟩
          have HBY2:=hide (bel_on hHeld.1 hbc)
          clear hbc
          refine hK.out _ _ ((unhide KS8) _ (unhide HBY2)) (fun hHeld2=>?_)
          clear hK K hHeld
          have hHeld:=hHeld2
          clear hHeld2
          (try simp only[Act.put,ZA,ZB,ZC])
          refine wpAnyH_take (i:=9) (oi:=⟨some 117,.binOp BinOp.add 3 (.tmp 108) (.tmp 116) 3,3, "second.go:279",#[⟨0,.data⟩,⟨8,.data⟩],none⟩) (v:=?_) rfl (by kernel_rfl) (by kernel_rfl) (by kernel_rfl) (fun _ _ _ h=>h) (Or.inl ⟨by rfl,?_⟩) hHeld ?_
          rotate_left
          ·(intro W hSw;(try dsimp only at hSw);go_simp;first|done|with_reducible rfl)
          (try simp only[Act.put,ZA,ZB,ZC])
          refine wpAnyH_take (i:=10) (oi:=⟨some 14,.assign (.tmp 117),3, "second.go:279",#[⟨9,.data⟩,⟨8,.chain⟩,⟨0,.phase⟩,⟨1,.phase⟩,⟨2,.phase⟩,⟨3,.phase⟩,⟨4,.phase⟩,⟨5,.phase⟩,⟨6,.phase⟩,⟨7,.phase⟩,⟨8,.phase⟩,⟨9,.phase⟩],none⟩) (v:=?_) rfl (by kernel_rfl) (by kernel_rfl) (by kernel_rfl) (fun _ _ _ h=>h) (Or.inl ⟨by rfl,?_⟩) hHeld ?_
          rotate_left
          ·(intro W hSw;(try dsimp only at hSw);go_simp;first|done|with_reducible rfl)
          (try simp only[Act.put,ZA,ZB,ZC])
          refine wpAnyH_done (by kernel_rfl) ?_ _
          clear hHeld KS8 FE
          have HBW2:=hide (bel_on (unhide CS).1 (unhide HBY2))
          have HM2:=hide ((unhide CS).2.1.later (unhide HBY2))
          have HS2:=hide ((unhide CS).2.2.2.1.later (unhide HBY2))
          have HU2:=hide ((unhide HUx).later (unhide HBW2))
          have UO:Hid (UsOk 68 w1.heap.size nn Y2):=by have:=(unhide HU2).ok;rw[unhide HSL] at this;exact this
          have KS9:Hid (∀ U,Gr Y2 U (fun q=>q=w1.heap.size)→UsOk 68 w1.heap.size nn U→Gr Y2 U (fun q=>q=w1.heap.size)∧U.cell? ⟨bx,0,none⟩=some (.slice sa ns cs)∧UsOk 68 w1.heap.size nn U):=fun U hg ho=>
           have hb:=((unhide HBY2).block _ (lt_of_block (unhide CS).2.2.2.2.2.2)).trans (unhide CS).2.2.2.2.2.2
           ⟨hg,Za ((hg.block bx (lt_of_block hb) (unhide CS).2.2.2.2.2.1).trans hb) 0 _ rfl,ho⟩
          obtain⟨zz,z6⟩:=(unhide UO).cell hil
          have zf6:=(unhide UO).free i
          have zl6:=(unhide UO).lt
          go_wp2_with fail
          refine wp_region_held_drew (S:=fun U=>Gr Y2 U (fun q=>q=w1.heap.size)∧U.cell? ⟨bx,0,none⟩=some (.slice sa ns cs)∧UsOk 68 w1.heap.size nn U) (by kernel_rfl) ((unhide KS9) _ (Gr.refl _ _).draw ((unhide UO).later (Zc _))) (fun hHeld=>?_)
          refine wpAnyH_take (i:=0) (oi:=⟨some 118,.move (.tmp 13),29, "second.go:281",#[⟨4,.gcOnly .lateStores⟩],none⟩) (v:=?_) rfl (by kernel_rfl) (by kernel_rfl) (by kernel_rfl) (fun _ _ _ h=>h) (Or.inl ⟨by rfl,?_⟩) hHeld ?_
          rotate_left
          ·(intro W hSw;(try dsimp only at hSw);go_simp;first|done|with_reducible rfl)
          (try simp only[Act.put,ZA,ZB,ZC])
          refine wpAnyH_take (i:=1) (oi:=⟨some 119,.move (.tmp 18),3, "second.go:281",#[⟨4,.gcOnly .lateStores⟩],none⟩) (v:=?_) rfl (by kernel_rfl) (by kernel_rfl) (by kernel_rfl) (fun _ _ _ h=>h) (Or.inl ⟨by rfl,?_⟩) hHeld ?_
          rotate_left
          ·(intro W hSw;(try dsimp only at hSw);go_simp;first|done|with_reducible rfl)
          (try simp only[Act.put,ZA,ZB,ZC])
          refine wpAnyH_take (i:=2) (oi:=⟨some 120,.move (.tmp 22),25, "second.go:281",#[],none⟩) (v:=?_) rfl (by kernel_rfl) (by kernel_rfl) (by kernel_rfl) (fun _ _ _ h=>h) (Or.inl ⟨by rfl,?_⟩) hHeld ?_
          rotate_left
          ·(intro W hSw;(try dsimp only at hSw);go_simp;first|done|with_reducible rfl)
          (try simp only[Act.put,ZA,ZB,ZC])
          refine wpAnyH_take (i:=3) (oi:=⟨some 121,.load 68 (.tmp 23),68, "second.go:281",#[⟨4,.gcOnly .lateStores⟩],none⟩) (v:=?_) rfl (by kernel_rfl) (by kernel_rfl) (by kernel_rfl) (fun _ _ _ h=>h) (Or.inl ⟨by rfl,?_⟩) hHeld ?_
          rotate_left
          ·(intro W hSw;(try dsimp only at hSw);go_simp;first|done|with_reducible rfl)
          (try simp only[Act.put,ZA,ZB,ZC])
          refine wpAnyH_take (i:=4) (oi:=⟨some 1,.assign (.tmp 120),25, "second.go:281",#[⟨2,.data⟩,⟨0,.textOnly .lateStores⟩,⟨1,.textOnly .lateStores⟩,⟨2,.phase⟩,⟨3,.textOnly .lateStores⟩],none⟩) (v:=?_) rfl (by kernel_rfl) (by kernel_rfl) (by kernel_rfl) (fun _ _ _ h=>h) (Or.inl ⟨by rfl,?_⟩) hHeld ?_
          rotate_left
          ·(intro W hSw;(try dsimp only at hSw);go_simp;first|done|with_reducible rfl)
          (try simp only[Act.put,ZA,ZB,ZC])
          refine wpAnyH_take (i:=5) (oi:=⟨some 122,.indexAddr 29 (.tmp 118) (.tmp 119),0, "second.go:281",#[⟨0,.data⟩,⟨1,.data⟩,⟨0,.phase⟩,⟨1,.phase⟩,⟨2,.phase⟩,⟨3,.phase⟩,⟨4,.phase⟩],none⟩) (v:=?_) rfl (by kernel_rfl) (by kernel_rfl) (by kernel_rfl) (fun _ _ _ h=>h) (Or.inl ⟨by rfl,?_⟩) hHeld ?_
          rotate_left
          ·(intro W hSw;(try dsimp only at hSw);go_simp;first|done|with_reducible rfl)
          (try simp only[Act.put,ZA,ZB,ZC])
          refine wpAnyH_ready (rs:=[6]) (by kernel_rfl) (by simp) ?_
          refine AllReadyH.cons (o:=⟨none,.store 68 (.tmp 122) (.tmp 121),0, "second.go:281",#[⟨5,.data⟩,⟨3,.data⟩,⟨4,.chain⟩,⟨0,.phase⟩,⟨1,.phase⟩,⟨2,.phase⟩,⟨3,.phase⟩,⟨4,.phase⟩],none⟩) rfl (fun K hK=>?_) AllReadyH.nil
          go_simp
          refine hK.out _ _ ((unhide KS9) _ ((Gr.refl Y2 (fun q=>q=w1.heap.size)).draw.one w1.heap.size i (.inl rfl) _) (UsOk.put ((unhide UO).later (Zc _)) i _ _ _)) (fun hHeld2=>?_)
          clear hK K hHeld
          have hHeld:=hHeld2
          clear hHeld2
          (try simp only[Act.put,ZA,ZB,ZC])
          refine wpAnyH_done (by kernel_rfl) ?_ _
          clear hHeld KS9 z6 zf6 zl6
          have HBD:=hide (Zc Y2)
          have HU3:=hide (((unhide HU2).later (unhide HBD)).put i ((unhide HS2).later (unhide HBD)) (unhide CS).2.2.2.2.1)
          have HM3:=hide (Xj ((unhide HM2).later (unhide HBD)) ((unhide UO).later (unhide HBD)) ((Gr.refl Y2.drew (fun q=>q=w1.heap.size)).one w1.heap.size i (.inl rfl) (.slice sa ns cs)))
          have HG3:=hide ((((unhide HGx).trans (Gr.of (unhide HBW2))).draw).one w1.heap.size i (.inl rfl) (.slice sa ns cs))
          have HSL2:Hid ((S.set i s).length=nn):=by show _=_;rw[List.length_set];exact unhide HSL
          obtain⟨Q,hQ⟩:∃ Q,Q=Y2.drew.setCell ⟨w1.heap.size,i,none⟩ (.slice sa ns cs):=⟨_,rfl⟩
          rw[←hQ] at HM3 HU3 HG3
          (first|rw[←hQ]|(rw[show (Y2.setCell ⟨w1.heap.size,i,none⟩ (.slice sa ns cs)).drew=Q from hQ.symm]))
          have SM3:=hide (unhide CS).2.2.1
          clear hQ HBD HM2 HS2 HU2 UO CS HKY HBW2 HBY2
          go_wp2
          go_roundw
          case rel=>exact⟨k+1,am,nm6,cm,M,S.set i s,F+f,by omega,rfl,rfl,by go_num,(⟨unhide HM3,unhide SM3,unhide HR2⟩:CoinsAt Q am nm6 M∧SlOk am nm6 cm∧Zs M),HU3,HSL2,HF2,HQ2,HG3⟩
          case measure=>simp[intOf];omega
         ·have g:(y != 0)=true:=by simp[ey]
          have HE2:Hid ((y,([]:List Zb),([]:List (List Zb)))=(x,C',S')):=by have e:=unhide HEQ;rw[if_neg (fun q=>hi1 q.1),if_pos ey] at e;exact e
          have HWW:=hide (bel_on (unhide HBX) (bel_on ((unhide HBV) wr (unhide HGx)) (unhide CS).1))
          clear CS HKY HEQ
          go_wp2
          (try simp only[Exit.inBlock,Exit.then])
          refine bodyPost_ret (v:=.tuple #[.slice none 0 0,.slice none 0 0,.int .i64 y]) ?_ rfl (Vi (unhide HE2) (unhide HWW))
          simp[results,Tryz.f15,go_sem]
     ·have hkm:m=k:=by omega
      subst hkm
      have HE2:Hid ((0,C,S)=(x,C',S')):=by have e:=unhide HQ;rw[Nat.sub_self] at e;exact e
      have HWW:=hide (bel_on (unhide HBX) (bel_on (unhide HB1) ((unhide GB) wr (unhide HG))))
      have hus:UndosAt wr (some ⟨w1.heap.size,0,none⟩) m S:=by have q:=(unhide HU).undos;rw[unhide HSL] at q;exact q
      have HEND:Hid (Zet w wr x C' S' (.returned (.tuple #[.slice oa oon oc,.slice (some ⟨w1.heap.size,0,none⟩) m m,.int .i64 0]))):=by
       obtain⟨e1,e2⟩:=Prod.mk.inj (unhide HE2)
       obtain⟨e2,e3⟩:=Prod.mk.inj e2
       subst e1 e2 e3
       exact⟨oa,oon,oc,some ⟨w1.heap.size,0,none⟩,m,m,rfl,(unhide HO).1,(unhide HO).2.1,hus,⟨Nat.le_refl _,by unfold maxLen;omega,fun h=>by cases h⟩,unhide HWW⟩
      clear HQ hlt hus HE2
      go_wp2
      (try simp only[Exit.inBlock,Exit.then])
      refine bodyPost_ret (v:=.tuple #[.slice oa oon oc,.slice (some ⟨w1.heap.size,0,none⟩) m m,.int .i64 0]) ?_ rfl (unhide HEND)
      simp[results,Tryz.f15,go_sem]
end Go.Proofs.YtepmnpapdknocaaGreatDoor
