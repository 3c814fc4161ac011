/- Contracts of what checks a transaction: the ins one by one, the outs one by one, and all of it. -/
import Derived.Test.YtepmnpapdknocaaGreatDoorRefWholeToTxCheck
import Derived.Test.YtepmnpapdknocaaGreatDoorLockMathToLockFill
import Derived.Deep.RegionHeld3
set_option maxHeartbeats 3200000
set_option maxRecDepth 10000
namespace Go.Proofs.YtepmnpapdknocaaGreatDoor
open Go.RowKit
theorem Wh(w:World)(x y z:Value)(t:TypeId):(w.alloc (.cells #[x,y,z] t)).cell? ⟨w.heap.size,0,none⟩=some x∧(w.alloc (.cells #[x,y,z] t)).cell? ⟨w.heap.size,1,none⟩=some y∧(w.alloc (.cells #[x,y,z] t)).cell? ⟨w.heap.size,2,none⟩=some z:=
 ⟨by rw[World.cell?_alloc_at _ _ _ _ rfl];rfl,by rw[World.cell?_alloc_at _ _ _ _ rfl];rfl,by rw[World.cell?_alloc_at _ _ _ _ rfl];rfl⟩
theorem V6(w:World)(x y:Value)(t:TypeId):(w.alloc (.cells #[x,y] t)).cell? ⟨w.heap.size,0,none⟩=some x∧(w.alloc (.cells #[x,y] t)).cell? ⟨w.heap.size,1,none⟩=some y:=
 ⟨by rw[World.cell?_alloc_at _ _ _ _ rfl];rfl,by rw[World.cell?_alloc_at _ _ _ _ rfl];rfl⟩
theorem Hq(a:Option Addr)(len cap:Nat)(l:List (Int×Int))(x:Int)(w:World)(hx:chk l=x)(h:OpsAt w a len l) :
  Calls Tryz.prog 138 #[.slice a len cap] w fun e w'=>e = .returned (.int .i64 x)∧Below w.heap.size w w':=by
 subst hx;exact Uc a len cap l w h
theorem Kl(b off n c:Nat)(L:List InD)(w:World)(hn:n≤6)(hcap:n≤c)(hz:L.length=n)(hlb:b<w.heap.size)(hc:∀ i (h:i<L.length),InAt w b (off+i*3) L[i]) :
  Calls Tryz.prog 127 #[.slice (some ⟨b,off,none⟩) n c] w fun e w'=>e = .returned (.int .i64 (Zw [] L))∧Below w.heap.size w w':=by
 have HC:=hide hc
 have HZ:=hide hz
 clear hc hz
 go_enter Tryz.func127,Tryz.ntmps127
 go_wp2
 go_loopw [8] (fun i wr=>∃ k:Nat,k≤n∧i = .int .i64 k∧Hid (Zw [] L=Zw (L.take k) (L.drop k))∧Below w.heap.size w wr) (fun i _=>n - (intOf i).toNat)
 case atStart=>exact⟨0,Nat.zero_le _,rfl,rfl,Below.refl _ _⟩
 case round=>
  obtain⟨k,hk,rfl,A,hb⟩:=hrel
  have HB:=hide hb
  by_cases hlt:k<n
  ·have hlk:k<L.length:=by rw[unhide HZ];exact hlt
   have hin:=InAt.kept _ _ _ _ _ hb ((unhide HC) k hlk)
   have IA:Hid (InsAt wr (some ⟨b,off,none⟩) k (L.take k)):=by
    have h0:InsAt wr (some ⟨b,off,none⟩) n L:=⟨unhide HZ,fun _=>⟨b,off,rfl,Nat.lt_of_lt_of_le hlb hb.size,fun i hi=>InAt.kept _ _ _ _ _ hb ((unhide HC) i hi)⟩⟩
    exact RowsAt.take h0 k hk
   have ST:=hide (Pb L k hlk)
   have SS:=hide (Pc L k hlk)
   obtain⟨x,hx⟩:∃ x,L[k]=x:=⟨_,rfl⟩
   rw[hx] at hin ST SS
   obtain⟨x1,x2,key⟩:=x
   obtain⟨g1,g2,ka,kn,kc,g3,g4,_⟩:=hin
   simp only at g1 g2 g3 g4
   have hba:=bel_new wr (.cells #[.int .i64 x1,.int .i64 x2,.slice ka kn kc] 140)
   obtain⟨n1,n2,n3⟩:=Wh wr (.int .i64 x1) (.int .i64 x2) (.slice ka kn kc) 140
   have HBA:=hide hba
   have KO:=hide (g4.later hba)
   have N1:=hide n1
   have N2:=hide n2
   have N3:=hide n3
   clear hb hx g4 hba n1 n2 n3
   cases hp:Tm (x1,x2,key) with
   | false=>
    have C1:=hide (Ql x1 x2 false _ hp:Calls Tryz.prog 137 _ (wr.alloc (.cells #[.int .i64 x1,.int .i64 x2,.slice ka kn kc] 140)) _)
    have R:Hid (Zw [] L=3):=by
     have e:=L5 (pre:=L.take k) hp
     show _=_
     rw[unhide A,(unhide ST) (by rw[e];decide),e]
    clear A ST SS hp IA
    go_wp2_with fail
    refine (unhide C1).mono ?_
    rintro e w2 ⟨rfl,hb2⟩
    have HB2:=hide (bel_on (bel_on (unhide HB) (unhide HBA)) hb2)
    clear hb2
    go_wp2
    go_ret
    exact⟨by rw[unhide R];rfl,unhide HB2⟩
   | true=>
    have C1:=hide (Ql x1 x2 true _ hp:Calls Tryz.prog 137 _ (wr.alloc (.cells #[.int .i64 x1,.int .i64 x2,.slice ka kn kc] 140)) _)
    have HP:=hide hp
    clear hp
    by_cases hk0:chk key=0
    ·cases ht:(L.take k).any (Wa (x1,x2,key)) with
     | true=>
      have R:Hid (Zw [] L=6):=by
       have e:=Tc (pre:=L.take k) (unhide HP) hk0 ht
       show _=_
       rw[unhide A,(unhide ST) (by rw[e];decide),e]
      have HT:=hide ht
      have HK:=hide hk0
      clear A ST SS ht hk0
      go_wp2_with fail
      refine (unhide C1).mono ?_
      rintro e w2 ⟨rfl,hb2⟩
      have m3:=cell_later hb2 (unhide N3)
      have HB2:=hide hb2
      have HB2':=hide (bel_on (unhide HBA) hb2)
      have hs2:wr.heap.size<w2.heap.size:=World.block_lt_of_cell? _ _ m3
      clear hb2
      go_wp2_with fail
      refine (Hq ka kn kc key 0 _ (unhide HK) ((unhide KO).later (unhide HB2))).mono ?_
      rintro e w3 ⟨rfl,hb3⟩
      have HB3:=hide (bel_on (unhide HB2') hb3)
      have CT:=hide (Jz (some ⟨b,off,none⟩) k c (L.take k) (x1,x2,key) wr.heap.size true w3 (by omega) ((unhide IA).later (unhide HB3)) (cell_later hb3 (cell_later (unhide HB2) (unhide N1))) (cell_later hb3 (cell_later (unhide HB2) (unhide N2))) (unhide HT))
      clear hb3 m3
      go_wp2_with fail
      refine (unhide CT).mono ?_
      rintro e w4 ⟨rfl,hb4⟩
      have HB4:=hide (bel_on (bel_on (unhide HB) (unhide HB3)) hb4)
      clear hb4
      go_wp2
      go_ret
      exact⟨by rw[unhide R];rfl,unhide HB4⟩
     | false=>
      have R:Hid (Zw [] L=Zw (L.take (k+1)) (L.drop (k+1))):=by
       have e:=L7 (pre:=L.take k) (unhide HP) hk0 ht
       show _=_
       rw[unhide A,(unhide SS) e]
      have HT:=hide ht
      have HK:=hide hk0
      clear A ST SS ht hk0
      go_wp2_with fail
      refine (unhide C1).mono ?_
      rintro e w2 ⟨rfl,hb2⟩
      have m3:=cell_later hb2 (unhide N3)
      have HB2:=hide hb2
      have HB2':=hide (bel_on (unhide HBA) hb2)
      have hs2:wr.heap.size<w2.heap.size:=World.block_lt_of_cell? _ _ m3
      clear hb2
      go_wp2_with fail
      refine (Hq ka kn kc key 0 _ (unhide HK) ((unhide KO).later (unhide HB2))).mono ?_
      rintro e w3 ⟨rfl,hb3⟩
      have HB3:=hide (bel_on (unhide HB2') hb3)
      have CT:=hide (Jz (some ⟨b,off,none⟩) k c (L.take k) (x1,x2,key) wr.heap.size false w3 (by omega) ((unhide IA).later (unhide HB3)) (cell_later hb3 (cell_later (unhide HB2) (unhide N1))) (cell_later hb3 (cell_later (unhide HB2) (unhide N2))) (unhide HT))
      clear hb3 m3
      go_wp2_with fail
      refine (unhide CT).mono ?_
      rintro e w4 ⟨rfl,hb4⟩
      have HB4:=hide (bel_on (bel_on (unhide HB) (unhide HB3)) hb4)
      clear hb4
      go_wp2
      go_roundw
      case rel=>exact⟨k+1,by omega,by go_num,R,unhide HB4⟩
      case measure=>simp[intOf];omega
    ·obtain⟨z,hz⟩:∃ z,chk key=z:=⟨_,rfl⟩
     have R:Hid (Zw [] L=z):=by
      have e:=Hu (pre:=L.take k) (unhide HP) hk0
      show _=_
      rw[unhide A,(unhide ST) (by rw[e];exact hk0),e];exact hz
     have HK:=hide hz
     rw[hz] at hk0
     have gz:(z != 0)=true:=by simp[hk0]
     clear A ST SS hz hk0 IA
     go_wp2_with fail
     refine (unhide C1).mono ?_
     rintro e w2 ⟨rfl,hb2⟩
     have m3:=cell_later hb2 (unhide N3)
     have HB2:=hide hb2
     have HB2':=hide (bel_on (unhide HBA) hb2)
     have hs2:wr.heap.size<w2.heap.size:=World.block_lt_of_cell? _ _ m3
     clear hb2
     go_wp2_with fail
     refine (Hq ka kn kc key z _ (unhide HK) ((unhide KO).later (unhide HB2))).mono ?_
     rintro e w3 ⟨rfl,hb3⟩
     have HB3:=hide (bel_on (bel_on (unhide HB) (unhide HB2')) hb3)
     clear hb3 m3
     go_wp2
     go_ret
     exact⟨by rw[unhide R];rfl,unhide HB3⟩
  ·have R:Hid (Zw [] L=0):=by show _=_;rw[unhide A,Hs L k (by rw[unhide HZ];omega)]
   clear A hb
   go_wp2
   go_ret
   exact⟨by rw[unhide R];rfl,unhide HB⟩
theorem Km(a:Option Addr)(c:Nat)(w:World) :
  Calls Tryz.prog 127 #[.slice a 0 c] w fun e w'=>e = .returned (.int .i64 0)∧w=w':=by
 go_enter Tryz.func127,Tryz.ntmps127
 go_wp2
 refine wp_loop_rounds 1 ?_
 rw[rounds_succ]
 go_wp2
 go_ret
 exact⟨rfl,rfl⟩
theorem Pd(a:Option Addr)(n c:Nat)(L:List InD)(x:Int)(w:World)(hn:n≤6)(hs:SlOk a n c)(h:InsAt w a n L)(hx:Zw [] L=x) :
  Calls Tryz.prog 127 #[.slice a n c] w fun e w'=>e = .returned (.int .i64 x)∧Below w.heap.size w w':=by
 subst hx
 obtain⟨hz,hc⟩:=h
 by_cases h0:n=0
 ·subst h0
  have e:L=[]:=List.length_eq_zero_iff.1 hz
  subst e
  exact (Km a c w).mono fun e w' ⟨q1,q2⟩=>⟨q1,q2 ▸ Below.refl _ _⟩
 ·obtain⟨b,off,rfl,hl,hcell⟩:=hc (by omega)
  exact Kl b off n c L w hn hs.1 hz hl hcell
theorem Tryz.infoInt:(Tryz.prog.info? 3).map (fun i=>(i.zero,i.size,i.bytes))=some (some (.int .i64 0),1,8):=by kernel_rfl
def Cz(L:List Z7)(j:Nat):Value:=.int .i64 ((L.map (·.1)).getD j 0)
theorem Rg{x:Z7}(h:x.1<1):Ys x=3:=by unfold Ys;rw[if_pos h]
theorem Vc{x:Z7}(h:¬x.1<1):Ys x=chk x.2:=by unfold Ys;rw[if_neg h]
theorem Hw(b off n c:Nat)(L:List Z7)(w:World)(hn:n≤6)(hpos:0<n)(hz:L.length=n)(hc:∀ i (h:i<L.length),OutAt w b (off+i*2) L[i]) :
  Calls Tryz.prog 128 #[.slice (some ⟨b,off,none⟩) n c] w fun e w'=>e = .returned (.int .i64 (Zn L))∧Below w.heap.size w w':=by
 obtain⟨i0,hi,hz0,hz1,hz2⟩:=info_parts Tryz.infoInt
 have HC:=hide hc
 have HZ:=hide hz
 have HP:=hide hpos
 clear hc hz hpos
 go_enter Tryz.func128,Tryz.ntmps128
 go_wp2_with (at_make;refine wpList_make_full _ rfl _ _ 30 rfl w.heap.size 3 i0 (.int .i64 0) 1 Tryz.underlying30 hi hz0 hz1 .i64 .i64 _ _ n rfl rfl rfl rfl (by rw[hz2];omega) (by unfold maxLen;omega) (Nat.le_refl _) ?_;intro w2 hown2 hgrow2)
 have hst:FillV w.heap.size 3 n (Cz L) w w2 0:=⟨⟨_,hown2,fun j hj=>absurd hj (by omega)⟩,(Below.refl _ _).grown hgrow2 (Nat.le_refl _) (fun k h=>by cases h)⟩
 have HST:=hide hst
 clear hst hown2 hgrow2
 go_loopw [14] (fun i wr=>∃ k:Nat,k≤n∧i = .int .i64 k∧Hid (Zx L=Zx (L.drop k))∧FillV w.heap.size 3 n (Cz L) w wr k) (fun i _=>n - (intOf i).toNat)
 case atStart=>exact⟨0,Nat.zero_le _,rfl,rfl,unhide HST⟩
 case round=>
  obtain⟨k,hk,rfl,A,hfl⟩:=hrel
  have HF:=hide hfl
  have hb:Below w.heap.size w wr:=hfl.bel
  have HB:=hide hb
  by_cases hlt:k<n
  ·have hlk:k<L.length:=by rw[unhide HZ];exact hlt
   have hin:=OutAt.kept _ _ _ _ _ hb ((unhide HC) k hlk)
   have ST:=hide (Qs L k hlk)
   have SS:=hide (Qt L k hlk)
   have hcv:Cz L k = .int .i64 (L[k]).1:=by unfold Cz;simp[hlk]
   obtain⟨x,hx⟩:∃ x,L[k]=x:=⟨_,rfl⟩
   rw[hx] at hin ST SS hcv
   have HCV:=hide hcv
   obtain⟨x1,key⟩:=x
   obtain⟨g1,ka,kn,kc,g3,g4,_⟩:=hin
   simp only at g1 g3 g4
   have hba:=bel_new wr (.cells #[.int .i64 x1,.slice ka kn kc] 84)
   obtain⟨n1,n2⟩:=V6 wr (.int .i64 x1) (.slice ka kn kc) 84
   have HBA:=hide hba
   have KO:=hide (g4.later hba)
   have N1:=hide n1
   have N2:=hide n2
   clear hb hx g4 hba n1 n2 hfl hcv
   by_cases hlo:x1<1
   ·have R:Hid (Zn L=3):=by
     have e:Ys (x1,key)=3:=Rg hlo
     have e2:Zx L=3:=by rw[unhide A,(unhide ST) (by rw[e];decide),e]
     show _=_
     unfold Zn;rw[e2];rfl
    have HB2:=hide (bel_on (unhide HB) (unhide HBA))
    clear A ST SS
    go_wp2
    go_ret
    exact⟨by rw[unhide R];rfl,unhide HB2⟩
   ·by_cases hk0:chk key=0
    ·have R:Hid (Zx L=Zx (L.drop (k+1))):=by
      have e:Ys (x1,key)=0:=by rw[Vc hlo];exact hk0
      show _=_
      rw[unhide A,(unhide SS) e]
     have HK:=hide hk0
     clear A ST SS hk0
     go_wp2_with fail
     refine (Hq ka kn kc key 0 _ (unhide HK) (unhide KO)).mono ?_
     rintro e w3 ⟨rfl,hb3⟩
     have m1:=cell_later hb3 (unhide N1)
     have hf3:=((unhide HF).keep (unhide HBA)).keep hb3
     obtain⟨v,hold⟩:=hf3.old hlt
     have hfree:=hf3.free k
     have HF3:=hide hf3
     have hs3:wr.heap.size<w3.heap.size:=World.block_lt_of_cell? _ _ m1
     clear hb3 hf3
     go_wp2
     go_roundw
     case rel=>exact⟨k+1,by omega,by go_num,R,(unhide HF3).step hlt (unhide HCV).symm⟩
     case measure=>simp[intOf];omega
    ·obtain⟨z,hz⟩:∃ z,chk key=z:=⟨_,rfl⟩
     have R:Hid (Zn L=z):=by
      have e:Ys (x1,key)=chk key:=Vc hlo
      have e2:Zx L=z:=by rw[unhide A,(unhide ST) (by rw[e];exact hk0),e];exact hz
      show _=_
      unfold Zn;rw[e2,if_neg (by rw[←hz];exact hk0)]
     have HK:=hide hz
     rw[hz] at hk0
     have gz:(z != 0)=true:=by simp[hk0]
     clear A ST SS hz hk0
     go_wp2_with fail
     refine (Hq ka kn kc key z _ (unhide HK) (unhide KO)).mono ?_
     rintro e w3 ⟨rfl,hb3⟩
     have HB3:=hide (bel_on (bel_on (unhide HB) (unhide HBA)) hb3)
     clear hb3
     go_wp2
     go_ret
     exact⟨by rw[unhide R];rfl,unhide HB3⟩
  ·have e:k=n:=by omega
   subst e
   have R:Hid (Zn L=(sm 0 (L.map (·.1))).2):=by
    show _=_
    unfold Zn;rw[unhide A,Jd L k (by rw[unhide HZ];exact Nat.le_refl _)];rfl
   have hrow:RowAt wr (some ⟨w.heap.size,0,none⟩) k (L.map (·.1)):=by
    refine⟨by rw[List.length_map];exact unhide HZ,by unfold maxLen;omega,fun _=>⟨w.heap.size,0,rfl,fun i hi=>?_⟩⟩
    rw[Nat.zero_add,hfl.cells (Nat.le_refl _) i hi];rfl
   have SM:=hide (Zey (some ⟨w.heap.size,0,none⟩) k k (L.map (·.1)) wr hrow)
   obtain⟨s,hs⟩:∃ s,sm 0 (L.map (·.1))=s:=⟨_,rfl⟩
   rw[hs] at SM R
   obtain⟨s1,s2⟩:=s
   clear A hb hfl hrow hs hlt hk
   go_wp2_with fail
   refine (unhide SM).mono ?_
   rintro e w' ⟨rfl,rfl⟩
   go_wp2
   go_ret
   exact⟨by rw[unhide R];rfl,unhide HB⟩
theorem Nd(a:Option Addr)(n c:Nat)(L:List Z7)(x:Int)(w:World)(hn:n≤6)(hpos:0<n)(h:OutsAt w a n L)(hx:Zn L=x) :
  Calls Tryz.prog 128 #[.slice a n c] w fun e w'=>e = .returned (.int .i64 x)∧Below w.heap.size w w':=by
 subst hx
 obtain⟨hz,hc⟩:=h
 obtain⟨b,off,rfl,_,hcell⟩:=hc hpos
 exact Hw b off n c L w hn hpos hz hcell
theorem Ju(h:Int)(ai ao:Option Addr)(ni ci no co:Nat)(o:Bool)(w:World)(ho:(if ni=0 then decide (1≤h) && decide (h≤1000) else decide (h=0))=o) :
  Calls Tryz.prog 126 #[.agg #[.int .i64 h,.slice ai ni ci,.slice ao no co]] w fun e w'=>e = .returned (.bool o)∧Below w.heap.size w w':=by
 have HB:=hide (bel_new w (.cells #[.int .i64 h,.slice ai ni ci,.slice ao no co] 74))
 by_cases h0:ni=0
 ·subst h0
  rw[if_pos rfl] at ho
  have C:Hid (∀ w,Calls Tryz.prog 62 #[.int .i64 h,.int .i64 1,.int .i64 1000] w fun e w'=>e = .returned (.bool o)∧w=w'):=fun w=>within_is h 1 1000 o w ho.symm
  clear ho
  go_enter Tryz.func126,Tryz.ntmps126
  go_wp2_with fail
  refine ((unhide C) _).mono ?_
  rintro e w' ⟨rfl,rfl⟩
  go_wp2
  go_ret
  exact⟨rfl,unhide HB⟩
 ·rw[if_neg h0] at ho
  have g:((ni:Int) == 0)=false:=by simp;omega
  by_cases hh:h=0
  ·rw[decide_eq_true hh] at ho
   subst ho hh
   go_enter Tryz.func126,Tryz.ntmps126
   go_wp2
   go_ret
   exact⟨rfl,unhide HB⟩
  ·rw[decide_eq_false hh] at ho
   subst ho
   have g2:(h == 0)=false:=by simp[hh]
   go_enter Tryz.func126,Tryz.ntmps126
   go_wp2
   go_ret
   exact⟨rfl,unhide HB⟩
theorem Pv(h:Int)(I:List InD)(O:List Z7)(ni:Nat)(hz:I.length=ni):Hb (h,I,O)=if ni=0 then decide (1≤h) && decide (h≤1000) else decide (h=0):=by
 unfold Hb;simp only[hz]
theorem Qz(h:Int)(ai ao:Option Addr)(ni ci no co:Nat)(I:List InD)(O:List Z7)(w:World)(hI:InsAt w ai ni I)(hO:OutsAt w ao no O)(sI:SlOk ai ni ci) :
  Calls Tryz.prog 92 #[.agg #[.int .i64 h,.slice ai ni ci,.slice ao no co]] w fun e w'=>e = .returned (.int .i64 (Zj (h,I,O)))∧Below w.heap.size w w':=by
 have hb:=bel_new w (.cells #[.int .i64 h,.slice ai ni ci,.slice ao no co] 74)
 obtain⟨n0,n1,n2⟩:=Wh w (.int .i64 h) (.slice ai ni ci) (.slice ao no co) 74
 have HB:=hide hb
 have N0:=hide n0
 have N1:=hide n1
 have N2:=hide n2
 have HI:=hide (hI.later hb)
 have HO:=hide (hO.later hb)
 have HS:=hide sI
 have zi:=hI.1
 have zo:=hO.1
 clear hb n0 n1 n2 hI hO sI
 by_cases h1:6<ni
 ·have e:Zj (h,I,O)=2:=by unfold Zj;rw[if_pos (Or.inl (by show 6<I.length;omega))]
  rw[e]
  have g:(6:Int)<(ni:Int):=by omega
  clear e h1 zi zo
  go_enter Tryz.func92,Tryz.ntmps92
  go_wp2
  go_ret
  exact⟨rfl,unhide HB⟩
 ·by_cases h2:6<no
  ·have e:Zj (h,I,O)=2:=by unfold Zj;rw[if_pos (Or.inr (by show 6<O.length;omega))]
   rw[e]
   have g:¬(6:Int)<(ni:Int):=by omega
   have g':(6:Int)<(no:Int):=by omega
   clear e h1 h2 zi zo
   go_enter Tryz.func92,Tryz.ntmps92
   go_wp2
   go_ret
   exact⟨rfl,unhide HB⟩
  ·have g:¬(6:Int)<(ni:Int):=by omega
   have g':¬(6:Int)<(no:Int):=by omega
   have e1:¬(6<I.length∨6<O.length):=by omega
   by_cases h3:no=0
   ·have e:Zj (h,I,O)=4:=by unfold Zj;rw[if_neg e1,if_pos (by show O.length=0;omega)]
    rw[e]
    subst h3
    clear e e1 h1 h2 zi zo
    go_enter Tryz.func92,Tryz.ntmps92
    go_wp2
    go_ret
    exact⟨rfl,unhide HB⟩
   ·have g3:((no:Int) == 0)=false:=by simp;omega
    have e3:¬O.length=0:=by omega
    cases hf:Hb (h,I,O) with
    | false=>
     have e:Zj (h,I,O)=3:=by unfold Zj;rw[if_neg e1,if_neg e3,if_pos hf]
     rw[e]
     have C:=hide (Ju h ai ao ni ci no co false (w.alloc (.cells #[.int .i64 h,.slice ai ni ci,.slice ao no co] 74)) (by rw[←Pv h I O ni zi];exact hf))
     clear e e1 e3 h1 h2 h3 zi zo hf
     go_enter Tryz.func92,Tryz.ntmps92
     go_wp2_with fail
     refine (unhide C).mono ?_
     rintro e w2 ⟨rfl,hb2⟩
     have HB2:=hide (bel_on (unhide HB) hb2)
     clear hb2
     go_wp2
     go_ret
     exact⟨rfl,unhide HB2⟩
    | true=>
     have C:=hide (Ju h ai ao ni ci no co true (w.alloc (.cells #[.int .i64 h,.slice ai ni ci,.slice ao no co] 74)) (by rw[←Pv h I O ni zi];exact hf))
     have e4:¬Hb (h,I,O)=false:=by rw[hf];decide
     by_cases h5:Zw [] I=0
     ·obtain⟨z,hz⟩:∃ z,Zn O=z:=⟨_,rfl⟩
      have e:Zj (h,I,O)=z:=by
       unfold Zj;rw[if_neg e1,if_neg e3,if_neg e4,if_neg (by intro q;exact q h5)];exact hz
      rw[e]
      have H5:=hide h5
      have HZ:=hide hz
      have H6i:Hid (ni≤6):=by show _≤_;omega
      have H6o:Hid (no≤6∧0<no):=⟨by omega,by omega⟩
      clear e e1 e3 e4 h1 h2 h3 zi zo hf h5 hz
      go_enter Tryz.func92,Tryz.ntmps92
      go_wp2_with fail
      refine (unhide C).mono ?_
      rintro e w2 ⟨rfl,hb2⟩
      have m1:=cell_later hb2 (unhide N1)
      have M2:=hide (cell_later hb2 (unhide N2))
      have hs2:w.heap.size<w2.heap.size:=World.block_lt_of_cell? _ _ m1
      have CI:=hide (Pd ai ni ci I 0 w2 (unhide H6i) (unhide HS) ((unhide HI).later hb2) (unhide H5))
      have HB2:=hide hb2
      clear hb2
      go_wp2_with fail
      refine (unhide CI).mono ?_
      rintro e w3 ⟨rfl,hb3⟩
      have m2:=cell_later hb3 (unhide M2)
      have hs3:w.heap.size<w3.heap.size:=World.block_lt_of_cell? _ _ m2
      have CO:=hide (Nd ao no co O z w3 (unhide H6o).1 (unhide H6o).2 (((unhide HO).later (unhide HB2)).later hb3) (unhide HZ))
      have HB3:=hide (bel_on (bel_on (unhide HB) (unhide HB2)) hb3)
      clear hb3 m1 hs2
      go_wp2_with fail
      refine (unhide CO).mono ?_
      rintro e w4 ⟨rfl,hb4⟩
      have HB4:=hide (bel_on (unhide HB3) hb4)
      clear hb4
      go_wp2
      go_ret
      exact⟨rfl,unhide HB4⟩
     ·obtain⟨z,hz⟩:∃ z,Zw [] I=z:=⟨_,rfl⟩
      have e:Zj (h,I,O)=z:=by
       unfold Zj;rw[if_neg e1,if_neg e3,if_neg e4,if_pos h5];exact hz
      rw[e]
      have HZ:=hide hz
      rw[hz] at h5
      have gz:(z != 0)=true:=by simp[h5]
      have H6i:Hid (ni≤6):=by show _≤_;omega
      clear e e1 e3 e4 h1 h2 h3 zi zo hf h5 hz
      go_enter Tryz.func92,Tryz.ntmps92
      go_wp2_with fail
      refine (unhide C).mono ?_
      rintro e w2 ⟨rfl,hb2⟩
      have m1:=cell_later hb2 (unhide N1)
      have hs2:w.heap.size<w2.heap.size:=World.block_lt_of_cell? _ _ m1
      have CI:=hide (Pd ai ni ci I z w2 (unhide H6i) (unhide HS) ((unhide HI).later hb2) (unhide HZ))
      have HB2:=hide hb2
      clear hb2
      go_wp2_with fail
      refine (unhide CI).mono ?_
      rintro e w3 ⟨rfl,hb3⟩
      have HB3:=hide (bel_on (bel_on (unhide HB) (unhide HB2)) hb3)
      clear hb3
      go_wp2
      go_ret
      exact⟨rfl,unhide HB3⟩
theorem below_dw(w:World)(n:Nat):Below w.heap.size w (w.drewN n):=⟨rfl,rfl,rfl,Nat.le_refl _,fun _ _=>rfl⟩
theorem Ku{α : Type}{l k:List α}{j:Nat}(h1:j<l.length)(h2:j<k.length)(h:l.take j=k.take j)(e:l[j]=k[j]):l.take (j+1)=k.take (j+1):=by
 rw[List.take_succ_eq_append_getElem h1,List.take_succ_eq_append_getElem h2,h,e]
theorem Sb{α : Type}{l k:List α}{j:Nat}(h1:j<l.length)(h2:j<k.length)(e:l[j]≠k[j]):l≠k:=fun h=>by
 subst h;exact e rfl
theorem Bi(b1 o1 b2 o2 n c d:Nat)(l k:List (Int×Int))(o:Bool)(w:World)(hn:n≤maxLen)(z1:l.length=n)(z2:k.length=n)
  (h1:∀ i,i<n→w.cell? ⟨b1,o1+i*2,none⟩=some (.int .i64 (l.getD i (0,0)).1)∧w.cell? ⟨b1,o1+i*2+1,none⟩=some (.int .i64 (l.getD i (0,0)).2))
  (h2:∀ i,i<n→w.cell? ⟨b2,o2+i*2,none⟩=some (.int .i64 (k.getD i (0,0)).1)∧w.cell? ⟨b2,o2+i*2+1,none⟩=some (.int .i64 (k.getD i (0,0)).2)) (ho:decide (l=k)=o) :
  Calls Tryz.prog 90 #[.slice (some ⟨b1,o1,none⟩) n c,.slice (some ⟨b2,o2,none⟩) n d] w fun e w'=>e = .returned (.bool o)∧∃ m,w'=w.drewN m:=by
 subst ho
 unfold maxLen at hn
 have H1:=hide h1
 have H2:=hide h2
 have Z1:=hide z1
 have Z2:=hide z2
 clear h1 h2 z1 z2
 go_enter Tryz.func90,Tryz.ntmps90
 go_wp2
 go_loopw [13] (fun i wr=>∃ j m:Nat,j≤n∧i = .int .i64 j∧wr=w.drewN m∧Hid (l.take j=k.take j)) (fun i _=>n - (intOf i).toNat)
 case atStart=>exact⟨0,0,Nat.zero_le _,rfl,rfl,rfl⟩
 case round=>
  obtain⟨j,m,hk,rfl,rfl,A⟩:=hrel
  by_cases hlt:j<n
  ·have hl1:j<l.length:=by rw[unhide Z1];exact hlt
   have hl2:j<k.length:=by rw[unhide Z2];exact hlt
   obtain⟨g1,g2⟩:=(unhide H1) j hlt
   obtain⟨g3,g4⟩:=(unhide H2) j hlt
   have e1:l.getD j (0,0)=l[j]:=by simp[hl1]
   have e2:k.getD j (0,0)=k[j]:=by simp[hl2]
   rw[e1] at g1 g2
   rw[e2] at g3 g4
   have TS:=hide (Ku hl1 hl2 (unhide A))
   have TU:=hide (Sb hl1 hl2)
   obtain⟨q,hq⟩:∃ q,l[j]=q:=⟨_,rfl⟩
   obtain⟨r,hr⟩:∃ r,k[j]=r:=⟨_,rfl⟩
   rw[hq] at g1 g2
   rw[hr] at g3 g4
   rw[hq,hr] at TS TU
   obtain⟨q1,q2⟩:=q
   obtain⟨r1,r2⟩:=r
   simp only at g1 g2 g3 g4
   clear hq hr e1 e2 A
   by_cases he:q1=r1
   ·subst he
    by_cases hf:q2=r2
    ·subst hf
     have T:=hide ((unhide TS) rfl)
     clear TS TU
     go_wp2
     go_quiet (fail)
     go_wp2
     go_roundw
     case rel=>exact⟨j+1,m+nq,by omega,by go_num,rfl,T⟩
     case measure=>simp[intOf];omega
    ·have U:Hid (decide (l=k)=false):=decide_eq_false ((unhide TU) (fun e=>hf (by injection e)))
     clear TS TU
     go_wp2
     go_quiet (fail)
     go_wp2
     go_ret
     exact⟨by rw[unhide U];rfl,m+nq,by simp[World.drewN,Nat.add_assoc]⟩
   ·have U:Hid (decide (l=k)=false):=decide_eq_false ((unhide TU) (fun e=>he (by injection e)))
    clear TS TU
    go_wp2
    go_quiet (fail)
    go_wp2
    go_ret
    exact⟨by rw[unhide U];rfl,m+nq,by simp[World.drewN,Nat.add_assoc]⟩
  ·have U:Hid (decide (l=k)=true):=by
    have h:=unhide A
    rw[List.take_of_length_le (by rw[unhide Z1];omega),List.take_of_length_le (by rw[unhide Z2];omega)] at h
    exact decide_eq_true h
   clear A
   go_wp2
   go_ret
   exact⟨by rw[unhide U];rfl,m,rfl⟩
theorem Bl(a b:Option Addr)(n m c d:Nat)(w:World)(h:n≠m) :
  Calls Tryz.prog 90 #[.slice a n c,.slice b m d] w fun e w'=>e = .returned (.bool false)∧w=w':=by
 have g:((n:Int) != (m:Int))=true:=by simp;omega
 clear h
 go_enter Tryz.func90,Tryz.ntmps90
 go_wp2
 go_ret
 exact⟨rfl,rfl⟩
theorem Bj(a b:Option Addr)(c d:Nat)(w:World) :
  Calls Tryz.prog 90 #[.slice a 0 c,.slice b 0 d] w fun e w'=>e = .returned (.bool true)∧w=w':=by
 go_enter Tryz.func90,Tryz.ntmps90
 go_wp2
 refine wp_loop_rounds 1 ?_
 rw[rounds_succ]
 go_wp2
 go_ret
 exact⟨rfl,rfl⟩
theorem Fp(a b:Option Addr)(n m c d:Nat)(l k:List (Int×Int))(o:Bool)(w:World)(hn:n≤maxLen)(hA:OpsAt w a n l)(hB:OpsAt w b m k)(ho:decide (l=k)=o) :
  Calls Tryz.prog 90 #[.slice a n c,.slice b m d] w fun e w'=>e = .returned (.bool o)∧Below w.heap.size w w':=by
 by_cases h:n=m
 ·subst h
  by_cases h0:n=0
  ·subst h0
   have e1:l=[]:=List.length_eq_zero_iff.1 hA.1
   have e2:k=[]:=List.length_eq_zero_iff.1 hB.1
   subst e1 e2
   rw[decide_eq_true rfl] at ho
   subst ho
   exact (Bj a b c d w).mono fun e w' ⟨h1,h2⟩=>⟨h1,h2 ▸ Below.refl _ _⟩
  ·obtain⟨b1,o1,rfl,h1⟩:=hA.2 (by omega)
   obtain⟨b2,o2,rfl,h2⟩:=hB.2 (by omega)
   exact (Bi b1 o1 b2 o2 n c d l k o w hn hA.1 hB.1 h1 h2 ho).mono fun e w' ⟨e1,q,e2⟩=>⟨e1,by rw[e2];exact below_dw w q⟩
 ·have e:l≠k:=fun e=>h (by rw[←hA.1,←hB.1,e])
  rw[decide_eq_false e] at ho
  subst ho
  exact (Bl a b n m c d w h).mono fun e w' ⟨h1,h2⟩=>⟨h1,h2 ▸ Below.refl _ _⟩
theorem An(x y:Z7)(a b:Option Addr)(n c m d:Nat)(o:Bool)(w:World)(hn:n≤maxLen)(hA:OpsAt w a n x.2)(hB:OpsAt w b m y.2)(ho:decide (x=y)=o) :
  Calls Tryz.prog 105 #[.agg #[.int .i64 x.1,.slice a n c],.agg #[.int .i64 y.1,.slice b m d]] w fun e w'=>e = .returned (.bool o)∧Below w.heap.size w w':=by
 obtain⟨x1,k⟩:=x
 obtain⟨y1,l⟩:=y
 simp only at hA hB ⊢
 have hb:=bel_on (bel_new w (.cells #[.int .i64 x1,.slice a n c] 84)) (bel_new _ (.cells #[.int .i64 y1,.slice b m d] 84))
 have HB:=hide hb
 by_cases h1:x1=y1
 ·subst h1
  have C:=hide (Fp a b n m c d k l o _ hn (hA.later hb) (hB.later hb) (by rw[←ho];simp))
  clear hA hB hb ho
  go_enter Tryz.func105,Tryz.ntmps105
  go_wp2_with fail
  refine (unhide C).mono ?_
  rintro e w2 ⟨rfl,hb2⟩
  have HB2:=hide (bel_on (unhide HB) hb2)
  clear hb2
  go_wp2
  go_ret
  exact⟨rfl,unhide HB2⟩
 ·have e:o=false:=by rw[←ho];exact decide_eq_false (fun e=>h1 (by injection e))
  have g:(x1 == y1)=false:=by simp[h1]
  subst e
  clear hA hB hb ho
  go_enter Tryz.func105,Tryz.ntmps105
  go_wp2
  go_ret
  exact⟨rfl,unhide HB⟩
theorem Sf(x y:Z7)(a b:Option Addr)(n c m d:Nat)(o:Bool)(w:World)(hn:n≤maxLen)(hA:OpsAt w a n x.2)(hB:OpsAt w b m y.2)(ho:decide (x=y)=o) :
  Calls Tryz.prog 47 #[.agg #[.int .i64 x.1,.slice a n c],.agg #[.int .i64 y.1,.slice b m d]] w fun e w'=>e = .returned (.bool o)∧Below w.heap.size w w':=by
 obtain⟨x1,k⟩:=x
 obtain⟨y1,l⟩:=y
 simp only at hA hB ⊢
 have hb:=bel_on (bel_new w (.cells #[.int .i64 x1,.slice a n c] 84)) (bel_new _ (.cells #[.int .i64 y1,.slice b m d] 84))
 have HB:=hide hb
 by_cases h1:x1=y1
 ·subst h1
  have C:=hide (Fp a b n m c d k l o _ hn (hA.later hb) (hB.later hb) (by rw[←ho];simp))
  clear hA hB hb ho
  go_enter Tryz.func47,Tryz.ntmps47
  go_wp2_with fail
  refine (unhide C).mono ?_
  rintro e w2 ⟨rfl,hb2⟩
  have HB2:=hide (bel_on (unhide HB) hb2)
  clear hb2
  go_wp2
  go_ret
  exact⟨rfl,unhide HB2⟩
 ·have e:o=false:=by rw[←ho];exact decide_eq_false (fun e=>h1 (by injection e))
  have g:(x1 == y1)=false:=by simp[h1]
  subst e
  clear hA hB hb ho
  go_enter Tryz.func47,Tryz.ntmps47
  go_wp2
  go_ret
  exact⟨rfl,unhide HB⟩
theorem Ma(w:World):Below w.heap.size w w.drew:=⟨rfl,rfl,rfl,Nat.le_refl _,fun _ _=>rfl⟩
theorem Ht:∀ (L pre:List InD),Zw pre L=0→∀ x∈L,Tm x=true∧chk x.2.2=0
 | [],_,_,x,hx=>by cases hx
 | y :: r,pre,h,x,hx=>by
  unfold Zw at h
  split at h
  ·rename_i h1
   rcases List.mem_cons.1 hx with rfl|hx
   ·unfold We at h1
    split at h1
    ·cases h1
    ·rename_i h2
     split at h1
     ·rename_i h3;exact absurd h1 h3
     ·rename_i h3
      exact⟨by simpa using h2,by simpa using h3⟩
   ·exact Ht r _ h x hx
  ·contradiction
theorem Pa:∀ (L:List Z7),Zx L=0→∀ x∈L,1≤x.1∧chk x.2=0
 | [],_,x,hx=>by cases hx
 | y :: r,h,x,hx=>by
  unfold Zx at h
  split at h
  ·rename_i h1
   rcases List.mem_cons.1 hx with rfl|hx
   ·unfold Ys at h1
    split at h1
    ·cases h1
    ·rename_i h2
     exact⟨by omega,h1⟩
   ·exact Pa r h x hx
  ·contradiction
theorem Zce:∀ (Z:List Int) (s:Int),(sm s Z).2=0→∀ z∈Z,0≤z∧z≤1000000000
 | [],_,_,z,hz=>by cases hz
 | y :: r,s,h,z,hz=>by
  unfold sm at h
  split at h
  ·rename_i h1
   split at h
   ·rcases List.mem_cons.1 hz with rfl|hz
    ·exact h1
    ·exact Zce r _ h z hz
   ·cases h
  ·cases h
structure TxOk(t:TxD):Prop where
 ins6:t.2.1.length≤6
 outs6:t.2.2.length≤6
 some:0<t.2.2.length
 hgt:0≤t.1∧t.1≤1000
 fit:Hb t=true
 chkI:Zw [] t.2.1=0
 ins:∀ x∈t.2.1,Tm x=true∧chk x.2.2=0
 outs:∀ x∈t.2.2,(1≤x.1∧x.1≤1000000000)∧chk x.2=0
theorem TxOk.of{t:TxD}(h:Zj t=0):TxOk t:=by
 unfold Zj at h
 split at h
 ·cases h
 ·rename_i h1
  split at h
  ·cases h
  ·rename_i h2
   split at h
   ·cases h
   ·rename_i h3
    split at h
    ·rename_i h4;exact absurd h h4
    ·rename_i h4
     have h4':Zw [] t.2.1=0:=by simpa using h4
     have h3':Hb t=true:=by simpa using h3
     unfold Zn at h
     split at h
     ·rename_i h5
      refine⟨by omega,by omega,by omega,?_,h3',h4',Ht _ _ h4',fun x hx=>?_⟩
      ·unfold Hb at h3'
       split at h3'
       ·simp only[Bool.and_eq_true,decide_eq_true_eq] at h3';omega
       ·have:t.1=0:=by simpa using h3'
        omega
      ·have a:=Pa _ h5 x hx
       have b:=Zce _ _ h x.1 (List.mem_map.2 ⟨x,hx,rfl⟩)
       exact⟨⟨a.1,b.2⟩,a.2⟩
     ·contradiction
theorem Q7(x:InD):Tm x=true↔(1≤x.1∧x.1≤120)∧(0≤x.2.1∧x.2.1≤5):=by
 unfold Tm;simp only[Bool.and_eq_true,decide_eq_true_eq]
end Go.Proofs.YtepmnpapdknocaaGreatDoor
