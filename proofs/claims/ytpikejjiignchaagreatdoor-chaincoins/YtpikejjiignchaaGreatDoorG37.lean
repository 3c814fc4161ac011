import Derived.Test.YtpikejjiignchaaGreatDoorG31
namespace Go.Proofs.YtpikejjiignchaaGreatDoor
open Go.RowKit
theorem Zgy{K:List ByteArray}{C:List Zf}{b:Zk}{N:List Int}(h:nfD K C b=(N,0)):Xb b=0∧N.length=b.2.2.2.2.length:=by
 unfold nfD at h
 split at h
 ·next q=>simp at h;exact absurd h.2 q
 ·injection h with h1 h2
  unfold Qt at h1 h2
  split at h2
  ·next q=>exact absurd h2 q
  ·next q=>
   rw[if_neg q] at h1
   split at h2
   ·next q=>exact absurd h2 q
   ·next q2=>
    rw[if_neg q2] at h1
    obtain⟨M,N',x,e⟩:∃ M N' x,Bk.allR K (Xl b)=(M,N',x):=⟨_,_,_,rfl⟩
    rw[e] at q2 h1
    obtain rfl:x=0:=Decidable.not_not.1 q2
    have:=Ea e
    simp only at h1
    refine⟨Decidable.not_not.1 q,?_⟩
    rw[←h1,List.length_take,this]
    simp[Xl]
theorem Tryz.infoUndo:(Tryz.prog.info? 130).map (fun i=>(i.zero,i.size,i.bytes))=some (some (.agg #[.slice none 0 0]),1,24):=by kernel_rfl
theorem Nr(m:Nat):(madeCells (Value.agg #[.slice none 0 0]).cells (m*1)).toList=List.replicate m (.slice none 0 0):=by
 rw[Nat.mul_one]
 exact toList_madeCells_one _ _
theorem Zad{p h k n:Int}{L:List TxD}(e:Xb (p,h,k,n,L)=0):rwD h=((rwD h).1,0):=by
 unfold Xb at e
 split at e
 ·cases e
 ·next q=>
  unfold rwD
  simp[Xx] at q
  rw[if_pos (by simp;omega)]
set_option maxRecDepth 10000 in
set_option maxHeartbeats 12800000 in
theorem Zan(ka:Option Addr)(kn kc:Nat)(K:List ByteArray)(la:Option Addr)(ln lc:Nat)(C0:List Zf)(p h k0 n:Int)(a:Option Addr)(m c:Nat)(L:List TxD)(x:Int)(C':List Zf)(S':List (List Zf))(w:World)(hE:Env w)(hK:Bk.TextsAt w ka kn K)(hC:CoinsAt w la ln C0)(sC:SlOk la ln lc)(hL:TxsAt w a m L)(hx:Xp K C0 (p,h,k0,n,L)=(x,C',S')) :
  Calls Tryz.prog 74 #[.agg #[.slice ka kn kc],.slice la ln lc,.agg #[.int .i64 p,.int .i64 h,.int .i64 k0,.int .i64 n,.slice a m c]] w fun e w'=>Zir w w' x C' S' e:=by
 obtain⟨X,hX⟩:∃ X,X=(w.alloc (.cells #[.slice ka kn kc] 24)).alloc (.cells #[.int .i64 p,.int .i64 h,.int .i64 k0,.int .i64 n,.slice a m c] 68):=⟨_,rfl⟩
 have hbX:Below w.heap.size w X:=by rw[hX];exact Ze (Zg _ _) (Zg _ _)
 have hX1:X.heap[w.heap.size]? = some (.cells [.slice ka kn kc].toArray 24 (0,0)):=by
  rw[hX,Below.heap_alloc _ _ _ (by simp)];exact Qs _ _ _
 have hX2:X.heap[w.heap.size+1]? = some (.cells [.int .i64 p,.int .i64 h,.int .i64 k0,.int .i64 n,.slice a m c].toArray 68 (0,0)):=by
  rw[hX]
  have:=Yd (w.alloc (.cells #[.slice ka kn kc] 24)) (.int .i64 p) (.int .i64 h) (.int .i64 k0) (.int .i64 n) (.slice a m c) 68
  rw[show (w.alloc (.cells #[.slice ka kn kc] 24)).heap.size=w.heap.size+1 by simp] at this
  exact this
 obtain⟨N,y1,hy1⟩:∃ N y1,nfD K C0 (p,h,k0,n,L)=(N,y1):=⟨_,_,rfl⟩
 have C1:=Zb (Bs ka kn kc K la ln lc C0 p h k0 n a m c L N y1 X (hE.later hbX) (hK.later hbX) (hC.later hbX) (hL.later hbX) hy1)
 unfold Xp at hx
 rw[hy1] at hx
 simp only at hx
 have kk0:=Zd hX1 0 _ rfl
 have bb0:=Zd hX2 0 _ rfl
 have bb1:=Zd hX2 1 _ rfl
 have bb2:=Zd hX2 2 _ rfl
 have bb3:=Zd hX2 3 _ rfl
 have bb4:=Zd hX2 4 _ rfl
 have kkl:=lt_of_block hX1
 have bbl:=lt_of_block hX2
 have HB0:=Zb hbX
 have HX2:=Zb hX2
 by_cases e1:y1=0
 ·subst e1
  rw[if_neg (by simp)] at hx
  obtain⟨hck,hNl⟩:=Zgy hy1
  have hz:L.length=m:=hL.1
  obtain⟨f1,f2,f3,_,f5⟩:=Un hck
  simp only at f1 f2 f3 f5 hNl hz
  rw[hz] at hNl hx
  have hm0:0<m:=by omega
  have hm4:m≤4:=by omega
  obtain⟨tb,tof,rfl,htb,hct⟩:=hL.2 hm0
  obtain⟨r,hr⟩:∃ r,(rwD h).1=r:=⟨_,rfl⟩
  have hrw:=Zad hck
  rw[hr] at hx hrw
  have HTX:Hid (∀ W,Below w.heap.size w W→∀ i (hi:i<L.length),TxAt W tb (tof+i*3) L[i]):=fun W hb i hi=>TxAt.kept _ _ _ _ _ hb (hct i hi)
  have HTB:Hid (∀ t∈L,t.2.2.length≤6∧∀ x∈t.2.2,0≤x.1∧x.1≤1000000000):=fun t ht=>⟨(Xa (f5 t ht)).2.1,Ja (f5 t ht)⟩
  have HC:=Zb hC
  have HSC:=Zb sC
  have HZ:=Zb hz
  have HNL:=Zb hNl
  have HRW:=Zb hrw
  have HX:Hid (Wg h r L N m 0 C0 (List.replicate m [])=(x,C',S')):=hx
  clear hE hK hC sC hL hx hX1 hX2 hbX hy1 hck hNl hz f1 f2 f3 f5 hct hr hrw htb
  obtain⟨i0,ii,iz0,iz1,iz2⟩:=info_parts Tryz.infoUndo
  go_enter Tryz.func74,Tryz.ntmps74
  go_wp2_with fail
  rw[←hX]
  clear hX
  refine (Za C1).mono ?_
  rintro e w1 ⟨na,nn,nc,rfl,hN,hnc,hb1⟩
  have HN:=Zb hN
  have HNC:=Zb hnc
  have h21:=(hb1.block _ (lt_of_block (Za HX2))).trans (Za HX2)
  have HX21:=Zb h21
  have cc4:=Zd h21 4 _ rfl
  have ccl:=lt_of_block h21
  have HB1:=Zb (Ze (Za HB0) hb1)
  have hl1:w.heap.size+2≤w1.heap.size:=by have:=lt_of_block h21;omega
  clear hN hnc hb1 h21 C1 kk0 bb0 bb1 bb2 bb3 bb4 kkl bbl HB0
  go_wp2_with fail
  have KS4:Hid (∀ W,Below w1.heap.size w1 W→Below w1.heap.size w1 W∧W.cell? ⟨w.heap.size+1,4,none⟩=some (.slice (some ⟨tb,tof,none⟩) m c)):=fun W hb=>⟨hb,Zd ((hb.block _ (lt_of_block (Za HX21))).trans (Za HX21)) 4 _ rfl⟩
  refine wp_region_held_drew (S:=fun W=>Below w1.heap.size w1 W∧W.cell? ⟨w.heap.size+1,4,none⟩=some (.slice (some ⟨tb,tof,none⟩) m c)) (by kernel_rfl) ((Za KS4) _ (Zh _)) (fun Zlz=>?_)
  refine Zt 0 ⟨some 22,.move (.tmp 1),29, "connect.go:17",#[],none⟩ ?_ rfl ?_ Zlz ?_
  rotate_left
  ·(intro W hSw;(try dsimp only at hSw);go_simp;first|done|with_reducible rfl)
  (try simp only[Act.put,ZA,ZB,ZC])
  refine Zt 1 ⟨some 23,.fieldAddr 68 (.tmp 5) 4,0, "connect.go:17",#[],none⟩ ?_ rfl ?_ Zlz ?_
  rotate_left
  ·(intro W hSw;(try dsimp only at hSw);go_simp;first|done|with_reducible rfl)
  (try simp only[Act.put,ZA,ZB,ZC])
  refine Zt 2 ⟨some 24,.load 48 (.tmp 23),48, "connect.go:17",#[⟨1,.data⟩],none⟩ ?_ rfl ?_ Zlz ?_
  rotate_left
  ·(intro W hSw;(try dsimp only at hSw);go_simp;first|done|with_reducible rfl)
  (try simp only[Act.put,ZA,ZB,ZC])
  refine Zt 3 ⟨some 25,.call { callee:=Callee.builtin Builtin.len,args:=#[.tmp 24],argTypes:=#[48] },3, "connect.go:17",#[⟨2,.data⟩],none⟩ ?_ rfl ?_ Zlz ?_
  rotate_left
  ·(intro W hSw;(try dsimp only at hSw);go_simp;first|done|with_reducible rfl)
  (try simp only[Act.put,ZA,ZB,ZC])
  refine Zt 5 ⟨some 6,.assign (.tmp 22),29, "connect.go:17",#[⟨0,.data⟩,⟨0,.phase⟩,⟨1,.textOnly .lateStores⟩,⟨2,.textOnly .lateStores⟩,⟨3,.textOnly .lateStoresUnsure⟩,⟨4,.textOnly .lateStoresUnsure⟩],none⟩ ?_ rfl ?_ Zlz ?_
  rotate_left
  ·(intro W hSw;(try dsimp only at hSw);go_simp;first|done|with_reducible rfl)
  (try simp only[Act.put,ZA,ZB,ZC])
  refine wpAnyH_ready (rs:=[4]) (by kernel_rfl) (by simp) ?_
  refine AllReadyH.cons (o:=⟨some 26,.makeSlice 79 (.tmp 25) (.tmp 25),79, "connect.go:17",#[⟨3,.data⟩,⟨3,.data⟩],none⟩) rfl (fun K hK=>?_) AllReadyH.nil
  refine Zct (by kernel_rfl) _ _ _ (by rfl) w1.heap.size 130 i0 (.agg #[.slice none 0 0]) 1 Tryz.underlying79 ii iz0 iz1 .i64 .i64 _ _ m (by rfl) (by rfl) (by rfl) (by rfl) (by rw[iz2];omega) (by unfold maxLen;omega) (Nat.le_refl _) w1.heap.size (by rfl) ?_
  intro w2 hown2 hgrow2
  have hb2:Below w1.heap.size w1 w2:=Ze (Zh w1) ((Below.refl _ _).grown hgrow2 (Nat.le_refl _) (fun k h=>by cases h))
  refine hK.out _ _ ((Za KS4) _ hb2) (fun Zma=>?_)
  clear hK K Zlz
  have Zlz:=Zma
  clear Zma
  (try simp only[Act.put,ZA,ZB,ZC])
  refine Zt 6 ⟨some 7,.assign (.tmp 26),79, "connect.go:17",#[⟨4,.data⟩,⟨5,.chain⟩,⟨0,.phase⟩,⟨1,.phase⟩,⟨2,.phase⟩,⟨3,.phase⟩,⟨4,.phase⟩,⟨5,.phase⟩],none⟩ ?_ rfl ?_ Zlz ?_
  rotate_left
  ·(intro W hSw;(try dsimp only at hSw);go_simp;first|done|with_reducible rfl)
  (try simp only[Act.put,ZA,ZB,ZC])
  refine wpAnyH_done (by kernel_rfl) ?_ _
  have hU2:UsAt 130 w1.heap.size (List.replicate m []) w2:=Zex (base:=w1.heap.size) (by rw[←Nr];exact hown2)
  have HU2:=Zb hU2
  have HB2:=Zb hb2
  have h22:=(hb2.block _ (lt_of_block (Za HX21))).trans (Za HX21)
  have HX22:=Zb h22
  have dd4:=Zd h22 4 _ rfl
  have ddl:=lt_of_block h22
  have C2:=Zb (Zfb m w2 hm0 hm4)
  clear hU2 hb2 h22 hown2 hgrow2 cc4 ccl HX21 Zlz KS4
  go_wp2_with fail
  refine (Za C2).mono ?_
  rintro e w3 ⟨rfl,hf3⟩
  have HF:=Zb hf3
  have hb3:=hf3.bel
  have HB3:=Zb hb3
  have HU3:=Zb ((Za HU2).later hb3)
  have hgl:=(Za HU2).ok.lt
  have GB:Hid (∀ W,Gr w3 W (fun q=>q=w1.heap.size)→Below w1.heap.size w1 W):=fun W g=>g.below (Ze (Za HB2) hb3) (by have:=hb3.size;omega) (fun q e=>by rw[e];exact Nat.le_refl _)
  have HX23:=Zb ((hb3.block _ (lt_of_block (Za HX22))).trans (Za HX22))
  clear hf3 hb3 C2 HU2 dd4 ddl HX22
  go_wp2
  go_loopw [6,7,8,32] (fun ov uv ev i wr=>∃ (k:Nat) (oa:Option Addr) (oon oc:Nat) (C:List Zf) (S:List (List Zf)),k≤m∧ov = .slice oa oon oc∧uv = .slice (some ⟨w1.heap.size,0,none⟩) m m∧ev = .int .i64 0∧i = .int .i64 k∧Hid (CoinsAt wr oa oon C∧SlOk oa oon oc)∧Hid (UsAt 130 w1.heap.size S wr)∧Hid (S.length=m)∧Hid (∀ s∈S,s.length≤6∧∀ x∈s,0≤cv x∧cv x≤1000000000)∧Hid (Wg h r L N (m - k) k C S=(x,C',S'))∧Hid (Gr w3 wr (fun q=>q=w1.heap.size))) (fun _ _ _ i _=>m - (intOf i).toNat)
  case atStart=>exact⟨0,la,ln,lc,C0,List.replicate m [],Nat.zero_le _,rfl,rfl,rfl,rfl,(⟨(Za HC).later ((Za HB1).trans ((Za GB w3 (Gr.refl _ _)).mono (Za HB1).size)),Za HSC⟩:CoinsAt w3 la ln C0∧SlOk la ln lc),HU3,(List.length_replicate:(List.replicate m ([]:List Zf)).length=m),(fun s hs=>by rw[(List.mem_replicate.1 hs).2];exact⟨by simp,fun x hx=>by cases hx⟩:∀ s∈List.replicate m ([]:List Zf),s.length≤6∧∀ x∈s,0≤cv x∧cv x≤1000000000),HX,(Gr.refl _ _:Gr w3 w3 (fun q=>q=w1.heap.size))⟩
  case round=>
    obtain⟨k,oa,oon,oc,C,S,hk,rfl,rfl,rfl,rfl,HO,HU,HSL,HSB,HQ,HG⟩:=hrel
    clear HX HU3 HC HSC
    have hbw1:=(Za GB) wr (Za HG)
    have hbw:=(Za HB1).trans (hbw1.mono (Za HB1).size)
    by_cases hlt:k<m
    ·have hil:(k+1) % m<m:=Nat.mod_lt _ hm0
     have ttt:=(World.cell?_of_block (a:=⟨w2.heap.size,k,none⟩) ((Za HG).block w2.heap.size (Za HF).lt (by omega))).trans ((Za HF).cells (Nat.le_refl _) k hlt)
     have ttl:w2.heap.size<wr.heap.size:=Nat.lt_of_lt_of_le (Za HF).lt (Za HG).size
     unfold Ac at ttt
     obtain⟨i,hi⟩:∃ i,(k+1) % m=i:=⟨_,rfl⟩
     rw[hi] at hil ttt
     have hmk:m - k=(m - (k+1))+1:=by omega
     have hiL:i<L.length:=by rw[Za HZ];exact hil
     obtain⟨t1,I,O,ht⟩:∃ t1 I O,L[i]=(t1,I,O):=⟨_,_,_,rfl⟩
     obtain⟨nm,hnm⟩:∃ nm,N.getD i 0=nm:=⟨_,rfl⟩
     obtain⟨y,M,s,hap⟩:∃ y M s,apD C (t1,I,O) nm h=(y,M,s):=⟨_,_,_,rfl⟩
     have HEQ:=Za HQ
     rw[hmk,Lv (i:=i) (by rw[Za HZ];exact hi) (t:=(t1,I,O)) (by rw[List.getD_eq_getElem?_getD,List.getElem?_eq_getElem hiL];exact ht) hnm hap,Za HZ] at HEQ
     have HEQ:=Zb HEQ
     have hiN:i<N.length:=by rw[Za HNL];exact hil
     have hnm2:N[i]=nm:=by rw[←hnm,List.getD_eq_getElem?_getD,List.getElem?_eq_getElem hiN];rfl
     obtain⟨nb,no,rfl,hcn⟩:=(Za HN).2 (by have:=(Za HN).1;omega)
     have HAP:=Zb hap
     have hkI:(k:Int)<(m:Int):=by omega
     have hiI:(i:Int)<(m:Int):=by omega
     have hnn:N.length=nn:=(Za HN).1
     have hiN2:(i:Int)<(nn:Int):=by omega
     have NMC:Hid (∀ W,Below w1.heap.size w1 W→W.cell? ⟨nb,no+i,none⟩=some (.int .i64 nm)):=fun W hb=>by rw[←hnm2];exact Zc hb (hcn i hiN)
     have TXC:Hid (∀ W,Below w.heap.size w W→TxAt W tb (tof+i*3) (t1,I,O)):=fun W hb=>by rw[←ht];exact (Za HTX) W hb i hiL
     have BXC:Hid (∀ W,Below w1.heap.size w1 W→W.heap[w.heap.size+1]? = w1.heap[w.heap.size+1]?):=fun W hb=>hb.block _ (by omega)
     have BX3:Hid (w1.heap[w.heap.size+1]? = some (.cells [.int .i64 p,.int .i64 h,.int .i64 k0,.int .i64 n,.slice (some ⟨tb,tof,none⟩) m c].toArray 68 (0,0))):=((Za BXC) w3 ((Za GB) w3 (Gr.refl _ _))).symm.trans (Za HX23)
     clear hcn hnm hnm2 ht hap HQ
     by_cases hi0:i=0
     focus
      have gi:((i:Int) == 0)=true:=by simp[hi0]
      obtain⟨o,ho⟩:∃ o,decide (0≤Y5 r L S m)=o:=⟨_,rfl⟩
      have CV:=Zb (Zam p h k0 n tb tof m c L w1.heap.size 0 m m S r o wr (Za HZ) hm4 ((Za HTX) wr hbw) (Za HSL) rfl (fun i hi=>(Za HU).undo i hi) (Za HTB) (Za HSB) (Za HRW) ho)
      have hbx:=((Za BXC) wr hbw1).trans (Za BX3)
      have bb0:=Zd hbx 0 _ rfl
      have bb1:=Zd hbx 1 _ rfl
      have bb2:=Zd hbx 2 _ rfl
      have bb3:=Zd hbx 3 _ rfl
      have bb4:=Zd hbx 4 _ rfl
      have bbl:=lt_of_block hbx
      clear hbx
      cases o
      case false=>
       have R:Hid (((9:Int),([]:List Zf),([]:List (List Zf)))=(x,C',S')):=by have e:=Za HEQ;rw[if_pos ⟨hi0,by have:=of_decide_eq_false ho;omega⟩] at e;exact e
       have HBR:=Zb hbw
       clear HEQ hbw hbw1 ho hi0
       go_wp2_with fail
       refine (Za CV).mono ?_
       rintro e w4 ⟨rfl,hb4⟩
       have HBF:=Zb (Ze (Za HBR) hb4)
       clear hb4 CV
       go_wp2
       go_ret3
       exact Jl (Za R) (Za HBF)
      have hno:¬(i=0∧Y5 r L S m<0):=fun q=>by have:=of_decide_eq_true ho;omega
      have HNO:=Zb hno
      clear ho hno hbw hbw1 hi0
      go_wp2_with fail
      refine (Za CV).mono ?_
      rintro e V4 ⟨rfl,hb4⟩
      have HOx:=Zb (⟨(Za HO).1.later hb4,(Za HO).2⟩:CoinsAt V4 oa oon C∧SlOk oa oon oc)
      have HUx:=Zb ((Za HU).later hb4)
      have HGx:=Zb (Gr.on (Za HG) hb4)
      clear hb4 CV bb0 bb1 bb2 bb3 bb4 bbl HO HU HG
     rotate_left
     focus
      have hno:¬(i=0∧Y5 r L S m<0):=fun q=>hi0 q.1
      obtain⟨V4,hV4⟩:∃ V4,V4=wr:=⟨_,rfl⟩
      subst hV4
      have HNO:=Zb hno
      have gi:((i:Int) == 0)=false:=by simp;omega
      have HOx:=HO
      have HUx:=HU
      have HGx:=HG
      clear hno hbw hbw1 HO HU HG
     all_goals
      have GW:Hid (∀ V,Gr V4 V (fun q=>q=w1.heap.size)→Below w1.heap.size w1 V):=fun V g=>(Za GB) V ((Za HGx).trans g)
      have AP:=Zb (fun V (g:Gr V4 V (fun q=>q=w1.heap.size))=>(by
        obtain⟨_,⟨ai,ni,ci,g1,hI,sI⟩,ao,no2,co,g2,hO,sO⟩:=(Za TXC) V ((Za HB1).trans (((Za GW) V g).mono (Za HB1).size))
        exact⟨ai,ni,ci,ao,no2,co,g1,g2,Zio oa oon oc C t1 ai ao ni ci no2 co I O nm h y M s V (Wh (Za HOx).1 (Za HUx).ok g) (Za HOx).2 hI hO sI (Za HAP)⟩ :
        ∃ ai ni ci ao no2 co,V.cell? ⟨tb,tof+i*3+1,none⟩=some (.slice ai ni ci)∧V.cell? ⟨tb,tof+i*3+2,none⟩=some (.slice ao no2 co)∧Calls Tryz.prog 98 #[.slice oa oon oc,.agg #[.int .i64 t1,.slice ai ni ci,.slice ao no2 co],.int .i64 nm,.int .i64 h] V fun e w'=>ApR V w' y M s e))
      obtain⟨ai,ni,ci,ao,no2,co,tt1,tt2,_⟩:=(Za AP) V4 (Gr.refl _ _)
      have APC:=Zb (fun V (g:Gr V4 V (fun q=>q=w1.heap.size)) (g1:V.cell? ⟨tb,tof+i*3+1,none⟩=some (.slice ai ni ci)) (g2:V.cell? ⟨tb,tof+i*3+2,none⟩=some (.slice ao no2 co))=>(by
        obtain⟨ai2,ni2,ci2,ao2,no3,co2,q1,q2,q⟩:=(Za AP) V g
        rw[g1] at q1
        rw[g2] at q2
        cases q1
        cases q2
        exact q :
        Calls Tryz.prog 98 #[.slice oa oon oc,.agg #[.int .i64 t1,.slice ai ni ci,.slice ao no2 co],.int .i64 nm,.int .i64 h] V fun e w'=>ApR V w' y M s e))
      have KS:Hid (∀ V,Gr V4 V (fun q=>q=w1.heap.size)→UsOk 130 w1.heap.size m V→Gr V4 V (fun q=>q=w1.heap.size)∧V.cell? ⟨w.heap.size+1,1,none⟩=some (.int .i64 h)∧V.cell? ⟨w.heap.size+1,4,none⟩=some (.slice (some ⟨tb,tof,none⟩) m c)∧V.cell? ⟨tb,tof+i*3,none⟩=some (.int .i64 t1)∧V.cell? ⟨tb,tof+i*3+1,none⟩=some (.slice ai ni ci)∧V.cell? ⟨tb,tof+i*3+2,none⟩=some (.slice ao no2 co)∧V.cell? ⟨nb,no+i,none⟩=some (.int .i64 nm)∧UsOk 130 w1.heap.size m V):=fun V g o=>by
       have hbv:=(Za GW) V g
       have hbx:=((Za BXC) V hbv).trans (Za BX3)
       have htx:=(Za TXC) V ((Za HB1).trans (hbv.mono (Za HB1).size))
       have hbW:=(Za GW) V4 (Gr.refl _ _)
       have htW:=(Za TXC) V4 ((Za HB1).trans (hbW.mono (Za HB1).size))
       have hne:=(Za HUx).ok.other htW.1
       have kq:=fun (j:Nat)=>World.cell?_of_block (a:=⟨tb,j,none⟩) (g.block tb (World.block_lt_of_cell? _ _ htW.1) hne)
       exact⟨g,Zd hbx 1 _ rfl,Zd hbx 4 _ rfl,htx.1,(kq _).trans tt1,(kq _).trans tt2,(Za NMC) V hbv,o⟩
      have U0:Hid (UsOk 130 w1.heap.size m V4):=by have:=(Za HUx).ok;rw[Za HSL] at this;exact this
      have nnl:nb<V4.heap.size:=World.block_lt_of_cell? _ _ ((Za NMC) V4 ((Za GW) V4 (Gr.refl _ _)))
      clear tt1 tt2 AP
      go_wp2_with fail
      refine wp_region_held_drew (S:=fun V=>Gr V4 V (fun q=>q=w1.heap.size)∧V.cell? ⟨w.heap.size+1,1,none⟩=some (.int .i64 h)∧V.cell? ⟨w.heap.size+1,4,none⟩=some (.slice (some ⟨tb,tof,none⟩) m c)∧V.cell? ⟨tb,tof+i*3,none⟩=some (.int .i64 t1)∧V.cell? ⟨tb,tof+i*3+1,none⟩=some (.slice ai ni ci)∧V.cell? ⟨tb,tof+i*3+2,none⟩=some (.slice ao no2 co)∧V.cell? ⟨nb,no+i,none⟩=some (.int .i64 nm)∧UsOk 130 w1.heap.size m V) (by kernel_rfl) ((Za KS) _ (Gr.refl _ _).draw ((Za U0).later (Zh _))) (fun Zlz=>?_)
      refine Zt 0 ⟨some 45,.move (.tmp 7),79, "connect.go:22",#[⟨19,.gcOnly .lateStores⟩],none⟩ ?_ rfl ?_ Zlz ?_
      rotate_left
      ·(intro W hSw;(try dsimp only at hSw);go_simp;first|done|with_reducible rfl)
      (try simp only[Act.put,ZA,ZB,ZC])
      refine Zt 1 ⟨some 46,.move (.tmp 11),3, "connect.go:22",#[⟨19,.gcOnly .lateStores⟩],none⟩ ?_ rfl ?_ Zlz ?_
      rotate_left
      ·(intro W hSw;(try dsimp only at hSw);go_simp;first|done|with_reducible rfl)
      (try simp only[Act.put,ZA,ZB,ZC])
      refine Zt 2 ⟨some 47,.move (.tmp 6),29, "connect.go:22",#[],none⟩ ?_ rfl ?_ Zlz ?_
      rotate_left
      ·(intro W hSw;(try dsimp only at hSw);go_simp;first|done|with_reducible rfl)
      (try simp only[Act.put,ZA,ZB,ZC])
      refine Zt 3 ⟨some 48,.fieldAddr 68 (.tmp 5) 4,0, "connect.go:22",#[],none⟩ ?_ rfl ?_ Zlz ?_
      rotate_left
      ·(intro W hSw;(try dsimp only at hSw);go_simp;first|done|with_reducible rfl)
      (try simp only[Act.put,ZA,ZB,ZC])
      refine Zt 4 ⟨some 49,.load 48 (.tmp 48),48, "connect.go:22",#[⟨3,.data⟩],none⟩ ?_ rfl ?_ Zlz ?_
      rotate_left
      ·(intro W hSw;(try dsimp only at hSw);go_simp;first|done|with_reducible rfl)
      (try simp only[Act.put,ZA,ZB,ZC])
      refine Zt 5 ⟨some 50,.move (.tmp 11),3, "connect.go:22",#[],none⟩ ?_ rfl ?_ Zlz ?_
      rotate_left
      ·(intro W hSw;(try dsimp only at hSw);go_simp;first|done|with_reducible rfl)
      (try simp only[Act.put,ZA,ZB,ZC])
      refine Zt 6 ⟨some 51,.indexAddr 48 (.tmp 49) (.tmp 50),0, "connect.go:22",#[⟨4,.data⟩,⟨5,.data⟩],none⟩ ?_ rfl ?_ Zlz ?_
      rotate_left
      ·(intro W hSw;(try dsimp only at hSw);go_simp;first|done|with_reducible rfl)
      (try simp only[Act.put,ZA,ZB,ZC])
      refine Zt 7 ⟨some 52,.load 52 (.tmp 51),52, "connect.go:22",#[⟨6,.data⟩],none⟩ ?_ rfl ?_ Zlz ?_
      rotate_left
      ·(intro W hSw;(try dsimp only at hSw);go_simp;first|done|with_reducible rfl)
      (try simp only[Act.put,ZA,ZB,ZC])
      refine Zt 8 ⟨some 53,.move (.tmp 9),25, "connect.go:22",#[],none⟩ ?_ rfl ?_ Zlz ?_
      rotate_left
      ·(intro W hSw;(try dsimp only at hSw);go_simp;first|done|with_reducible rfl)
      (try simp only[Act.put,ZA,ZB,ZC])
      refine Zt 9 ⟨some 54,.move (.tmp 11),3, "connect.go:22",#[],none⟩ ?_ rfl ?_ Zlz ?_
      rotate_left
      ·(intro W hSw;(try dsimp only at hSw);go_simp;first|done|with_reducible rfl)
      (try simp only[Act.put,ZA,ZB,ZC])
      refine Zt 10 ⟨some 55,.indexAddr 25 (.tmp 53) (.tmp 54),0, "connect.go:22",#[⟨8,.data⟩,⟨9,.data⟩],none⟩ ?_ rfl ?_ Zlz ?_
      rotate_left
      ·(intro W hSw;(try dsimp only at hSw);go_simp;first|done|with_reducible rfl)
      (try simp only[Act.put,ZA,ZB,ZC])
      refine Zt 11 ⟨some 56,.load 3 (.tmp 55),3, "connect.go:22",#[⟨10,.data⟩],none⟩ ?_ rfl ?_ Zlz ?_
      rotate_left
      ·(intro W hSw;(try dsimp only at hSw);go_simp;first|done|with_reducible rfl)
      (try simp only[Act.put,ZA,ZB,ZC])
      refine Zt 12 ⟨some 57,.fieldAddr 68 (.tmp 5) 1,0, "connect.go:22",#[],none⟩ ?_ rfl ?_ Zlz ?_
      rotate_left
      ·(intro W hSw;(try dsimp only at hSw);go_simp;first|done|with_reducible rfl)
      (try simp only[Act.put,ZA,ZB,ZC])
      refine Zt 13 ⟨some 58,.load 3 (.tmp 57),3, "connect.go:22",#[⟨12,.data⟩],none⟩ ?_ rfl ?_ Zlz ?_
      rotate_left
      ·(intro W hSw;(try dsimp only at hSw);go_simp;first|done|with_reducible rfl)
      (try simp only[Act.put,ZA,ZB,ZC])
      refine wpAnyH_ready (rs:=[14]) (by kernel_rfl) (by simp) ?_
      refine AllReadyH.cons (o:=⟨some 59,.call { callee:=Callee.value (.func 98),args:=#[.tmp 47,.tmp 52,.tmp 56,.tmp 58],argTypes:=#[29,52,3,3] },131, "connect.go:22",#[⟨2,.data⟩,⟨7,.data⟩,⟨11,.data⟩,⟨13,.data⟩],none⟩) rfl (fun K hK=>?_) AllReadyH.nil
      refine Vq (by kernel_rfl) 98 #[.slice oa oon oc,.agg #[.int .i64 t1,.slice ai ni ci,.slice ao no2 co],.int .i64 nm,.int .i64 h] (by kernel_rfl) ((Za APC) _ Zlz.1 Zlz.2.2.2.2.1 Zlz.2.2.2.2.2.1) ?_
      rintro e w6 ⟨am,nm6,cm,sa,ns,cs,rfl,hM6,sM6,hS6,sS6,hbc⟩
      refine⟨_,rfl,?_⟩
      have HM6:=Zb hM6
      have SM6:=Zb sM6
      have HS6:=Zb hS6
      have SS6:=Zb sS6
      have HU6:=Zb ((Za HUx).later (Ze (Zh V4) hbc))
      have HG6:=Zb (Gr.on Zlz.1 hbc)
      have HO6:=Zb (UsOk.later Zlz.2.2.2.2.2.2.2 hbc)
      obtain⟨zz,z6⟩:=(Za HO6).cell hil
      have zf6:=(Za HO6).free i
      clear hM6 sM6 hS6 sS6 hbc
      refine hK.out _ _ ((Za KS) _ (Za HG6) (Za HO6)) (fun Zma=>?_)
      clear hK K Zlz
      have Zlz:=Zma
      clear Zma
      (try simp only[Act.put,ZA,ZB,ZC])
      refine Zt 15 ⟨some 44,.move (.tmp 59),131, "connect.go:22",#[⟨14,.data⟩],none⟩ ?_ rfl ?_ Zlz ?_
      rotate_left
      ·(intro W hSw;(try dsimp only at hSw);go_simp;first|done|with_reducible rfl)
      (try simp only[Act.put,ZA,ZB,ZC])
      refine Zt 16 ⟨some 60,.extract (.tmp 44) 0,29, "connect.go:22",#[⟨15,.data⟩],none⟩ ?_ rfl ?_ Zlz ?_
      rotate_left
      ·(intro W hSw;(try dsimp only at hSw);go_simp;first|done|with_reducible rfl)
      (try simp only[Act.put,ZA,ZB,ZC])
      refine Zt 17 ⟨some 61,.extract (.tmp 44) 1,130, "connect.go:22",#[⟨15,.data⟩,⟨19,.gcOnly .lateStores⟩],none⟩ ?_ rfl ?_ Zlz ?_
      rotate_left
      ·(intro W hSw;(try dsimp only at hSw);go_simp;first|done|with_reducible rfl)
      (try simp only[Act.put,ZA,ZB,ZC])
      refine Zt 18 ⟨some 62,.extract (.tmp 44) 2,30, "connect.go:22",#[⟨15,.data⟩,⟨21,.gcOnly .lateStores⟩],none⟩ ?_ rfl ?_ Zlz ?_
      rotate_left
      ·(intro W hSw;(try dsimp only at hSw);go_simp;first|done|with_reducible rfl)
      (try simp only[Act.put,ZA,ZB,ZC])
      refine Zt 19 ⟨some 6,.assign (.tmp 60),29, "connect.go:22",#[⟨16,.data⟩,⟨14,.chain⟩,⟨0,.textOnly .lateStores⟩,⟨1,.textOnly .lateStores⟩,⟨2,.phase⟩,⟨3,.phase⟩,⟨4,.phase⟩,⟨5,.phase⟩,⟨6,.phase⟩,⟨7,.phase⟩,⟨8,.phase⟩,⟨9,.phase⟩,⟨10,.phase⟩,⟨11,.phase⟩,⟨12,.phase⟩,⟨13,.phase⟩,⟨14,.phase⟩,⟨15,.phase⟩,⟨16,.phase⟩,⟨17,.textOnly .lateStores⟩,⟨18,.textOnly .lateStores⟩],none⟩ ?_ rfl ?_ Zlz ?_
      rotate_left
      ·(intro W hSw;(try dsimp only at hSw);go_simp;first|done|with_reducible rfl)
      (try simp only[Act.put,ZA,ZB,ZC])
      refine Zt 20 ⟨some 63,.indexAddr 79 (.tmp 45) (.tmp 46),0, "connect.go:22",#[⟨0,.data⟩,⟨1,.data⟩,⟨0,.phase⟩,⟨1,.phase⟩,⟨2,.phase⟩,⟨3,.phase⟩,⟨4,.phase⟩,⟨5,.phase⟩,⟨6,.phase⟩,⟨7,.phase⟩,⟨8,.phase⟩,⟨9,.phase⟩,⟨10,.phase⟩,⟨11,.phase⟩,⟨12,.phase⟩,⟨13,.phase⟩,⟨14,.phase⟩,⟨15,.phase⟩,⟨16,.phase⟩,⟨17,.phase⟩,⟨18,.textOnly .lateStores⟩,⟨19,.phase⟩],none⟩ ?_ rfl ?_ Zlz ?_
      rotate_left
      ·(intro W hSw;(try dsimp only at hSw);go_simp;first|done|with_reducible rfl)
      (try simp only[Act.put,ZA,ZB,ZC])
      refine wpAnyH_ready (rs:=[21]) (by kernel_rfl) (by simp) ?_
      refine AllReadyH.cons (o:=⟨none,.store 130 (.tmp 63) (.tmp 61),0, "connect.go:22",#[⟨20,.data⟩,⟨17,.data⟩,⟨19,.chain⟩,⟨0,.phase⟩,⟨1,.phase⟩,⟨2,.phase⟩,⟨3,.phase⟩,⟨4,.phase⟩,⟨5,.phase⟩,⟨6,.phase⟩,⟨7,.phase⟩,⟨8,.phase⟩,⟨9,.phase⟩,⟨10,.phase⟩,⟨11,.phase⟩,⟨12,.phase⟩,⟨13,.phase⟩,⟨14,.phase⟩,⟨15,.phase⟩,⟨16,.phase⟩,⟨17,.phase⟩,⟨18,.textOnly .lateStores⟩,⟨19,.phase⟩],none⟩) rfl (fun K hK=>?_) AllReadyH.nil
      go_simp
      refine hK.out _ _ ((Za KS) _ ((Za HG6).one w1.heap.size i (.inl rfl) _) (UsOk.put (Za HO6) i _ _ _)) (fun Zma=>?_)
      clear hK K Zlz
      have Zlz:=Zma
      clear Zma
      (try simp only[Act.put,ZA,ZB,ZC])
      refine Zt 22 ⟨some 8,.assign (.tmp 62),30, "connect.go:22",#[⟨18,.data⟩,⟨21,.chain⟩,⟨0,.phase⟩,⟨1,.phase⟩,⟨2,.phase⟩,⟨3,.phase⟩,⟨4,.phase⟩,⟨5,.phase⟩,⟨6,.phase⟩,⟨7,.phase⟩,⟨8,.phase⟩,⟨9,.phase⟩,⟨10,.phase⟩,⟨11,.phase⟩,⟨12,.phase⟩,⟨13,.phase⟩,⟨14,.phase⟩,⟨15,.phase⟩,⟨16,.phase⟩,⟨17,.phase⟩,⟨18,.phase⟩,⟨19,.phase⟩,⟨20,.phase⟩,⟨21,.phase⟩],none⟩ ?_ rfl ?_ Zlz ?_
      rotate_left
      ·(intro W hSw;(try dsimp only at hSw);go_simp;first|done|with_reducible rfl)
      (try simp only[Act.put,ZA,ZB,ZC])
      refine wpAnyH_done (by kernel_rfl) ?_ _
      all_goals
       have hGQ:=Zlz.1
       clear Zlz
       have HQM:=Zb (Wh (Za HM6) (Za HO6) ((Gr.refl w6 (fun q=>q=w1.heap.size)).one w1.heap.size i (.inl rfl) (.slice sa ns cs)))
       have HGQ:=Zb ((Za HGx).trans hGQ)
       have HBQ:=Zb ((Za HB1).trans (((Za GW) _ hGQ).mono (Za HB1).size))
       have HUQ:=Zb ((Za HU6).put i (Za HS6) (Za SS6))
       obtain⟨Q,hQ⟩:∃ Q,Q=w6.setCell ⟨w1.heap.size,i,none⟩ (.slice sa ns cs):=⟨_,rfl⟩
       rw[←hQ] at HQM HGQ HBQ HUQ ⊢
       clear hQ hGQ z6 zf6
       by_cases ey:y=0
       ·subst ey
        have R:Hid (Wg h r L N (m - (k+1)) (k+1) M (S.set i s)=(x,C',S')):=by have e:=Za HEQ;rw[if_neg (Za HNO),if_neg (by simp)] at e;exact e
        have FB:Hid (∀ z∈S.set i s,z.length≤6∧∀ x∈z,0≤cv x∧cv x≤1000000000):=fun z hz=>by
         rcases List.mem_or_eq_of_mem_set hz with q|rfl
         ·exact (Za HSB) z q
         ·exact F3 (Za HAP)
        have FL:Hid ((S.set i s).length=m):=by show _=_;rw[List.length_set];exact Za HSL
        clear HEQ
        go_wp2
        go_roundw
        case rel=>exact⟨k+1,am,nm6,cm,M,S.set i s,by omega,rfl,rfl,rfl,by go_num,(⟨Za HQM,Za SM6⟩:CoinsAt Q am nm6 M∧SlOk am nm6 cm),HUQ,FL,FB,R,HGQ⟩
        case measure=>simp[intOf];omega
       ·have gy:(y != 0)=true:=by simp[ey]
        have R:Hid (((y:Int),([]:List Zf),([]:List (List Zf)))=(x,C',S')):=by have e:=Za HEQ;rw[if_neg (Za HNO),if_pos ey] at e;exact e
        clear HEQ ey
        go_wp2
        go_ret3
        exact Jl (Za R) (Za HBQ)
    ·have hmk:m - k=0:=by omega
     have R:Hid (((0:Int),C,S)=(x,C',S')):=by have e:=Za HQ;rw[hmk] at e;exact e
     have HBR:=Zb hbw
     clear HQ hbw hbw1
     go_wp2
     go_ret3
     obtain⟨r1,r2⟩:=Prod.mk.inj (Za R)
     obtain⟨r2,r3⟩:=Prod.mk.inj r2
     subst r1 r2 r3
     exact⟨oa,oon,oc,some ⟨w1.heap.size,0,none⟩,m,m,rfl,(Za HO).1,(Za HO).2,by have:=(Za HU).undos;rw[Za HSL] at this;exact this,⟨Nat.le_refl _,by unfold maxLen;omega,fun e=>by cases e⟩,Za HBR,fun ad e=>by cases e;exact (Za HB1).size⟩
 ·rw[if_pos e1] at hx
  have g1:(y1 != 0)=true:=by simp[e1]
  have R:=Zb hx
  clear hE hK hC sC hL hx hX1 hX2 hbX hy1 e1
  go_enter Tryz.func74,Tryz.ntmps74
  go_wp2_with fail
  rw[←hX]
  clear hX
  refine (Za C1).mono ?_
  rintro e w1 ⟨na,nn,nc,rfl,hN,hnc,hb1⟩
  have HBF:=Zb (Ze (Za HB0) hb1)
  clear hN hnc hb1 C1
  go_wp2
  go_ret3
  exact Jl (Za R) (Za HBF)
end Go.Proofs.YtpikejjiignchaaGreatDoor
