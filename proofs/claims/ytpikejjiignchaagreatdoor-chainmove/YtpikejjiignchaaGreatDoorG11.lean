import Derived.Test.YtpikejjiignchaaGreatDoorH
import Derived.Test.YtpikejjiignchaaGreatDoorG7
import Derived.Test.YtpikejjiignchaaGreatDoorG8
import Derived.Test.YtpikejjiignchaaGreatDoorG9
import Derived.Test.YtpikejjiignchaaGreatDoorG10
import Derived.Deep.WholeRow
open Go.Ending renaming returned->dX
open Go.IntKind renaming i64->J
open Go.Obj renaming cells->dW
open Go.Proofs renaming intOf->aV
open Go.Value renaming int->E,slice->F,tuple->dY,pointer->dZ
open Nat renaming lt_of_lt_of_le->aI
namespace Go.Proofs.YtpikejjiignchaaGreatDoor
open Go.RowKit
theorem Boxes.alloc{p b:Nat}{w:World}(h:Boxes p b w)(o:Obj):Boxes p b (w.alloc o):=
 have z:=(Below.refl w.heap.size w).alloc (Nat.le_refl _) o
 ⟨h.x5.later z h.x5.lt,h.x6.later z h.x6.lt,h.x7.later z h.x7.lt,h.x8.later z h.x8.lt,h.x9.later z h.x9.lt,h.x10.later z h.x10.lt,h.x13.later z h.x13.lt⟩
structure Ready(p g b bl off len:Nat)(l:List (Int×Int))(V:World):Prop where
 arr:V.heap[g]? = some (dW (Ph p b) 344 (0,0))
 ng:g≠p
 box:Boxes p b V
 nl:bl≠p
 ll:bl<V.heap.size
 cells:∀ i,i<len->V.cell? ⟨bl,off+i*2,none⟩=some (E J (l.getD i (0,0)).1)/\V.cell? ⟨bl,off+i*2+1,none⟩=some (E J (l.getD i (0,0)).2)
theorem Ready.fn{p g b bl off len:Nat}{l}{V wr:World}{s:MS}(h:Ready p g b bl off len l V)(z:Mach p s V wr)(j:Nat):wr.cell? ⟨g,j,none⟩=(Ph p b)[j]?:=
 (z.past ⟨g,j,none⟩ h.ng (lt_of_block h.arr)).trans (cell_of_row _ _ _ _ _ _ h.arr)
theorem Ready.lt{p g b bl off len:Nat}{l}{V wr:World}{s:MS}(h:Ready p g b bl off len l V)(z:Mach p s V wr):g<wr.heap.size:=aI (lt_of_block h.arr) z.size
theorem Ziz{k n:Int}(h:Xq (k,n)=0):k=1\/k=2\/k=3\/k=4\/k=5\/k=6\/k=7\/k=8\/k=9\/k=10\/k=11\/k=12\/k=13:=by
 unfold Xq at h;split at h
 ·cases h
 ·rename_i h1;simp only[not_or] at h1;omega
theorem Zhd(h:Int)(l)(o:Int×Int)(L):Xh h (l++[o]) L=(Xh h l L).bind (Yi h o.1 o.2):=by
 rw[Uv];cases Xh h l L with
 | none=>rfl
 | some M=>simp[Xh]
theorem We{s z:MS}{h:Int}{l:List (Int×Int)}{k:Nat}{q:Int×Int}(hk:k<l.length)(hq:q=l[k])(ab:z.ok)(O:z.h=h)
  (hr:z.rep=s.rep.bind (Xh h (l.take k))):(z.step q.1 q.2).rep=s.rep.bind (Xh h (l.take (k+1))):=by
 rw[MS.rep_step ab,hr,O,List.take_succ_eq_append_getElem hk,<-hq];cases s.rep with
 | none=>rfl
 | some L=>exact (Zhd h _ q L).symm
theorem Zkt{s z:MS}{h:Int}{l:List (Int×Int)}{k:Nat}(hf:z.f=true)(O:z.rep=s.rep.bind (Xh h (l.take k))):z.rep=s.rep.bind (Xh h l):=by
 have e:z.rep=none:=by unfold MS.rep;rw[hf];rfl
 rw[e] at O ⊢;cases hs:s.rep with
 | none=>rfl
 | some L=>
  rw[hs] at O;have h1:Xh h (l.take k) L=none:=O.symm;have h2:Xh h (l.take k++l.drop k) L=none:=by rw[Uv,h1];rfl
  rw[List.take_append_drop] at h2;exact h2.symm
set_option maxRecDepth 10000 in
set_option maxHeartbeats 8000000 in
theorem Zkn(p:Nat)(s:MS)(bl off len cap:Nat)(l:List (Int×Int))(W w:World)(hm:Mach p s W w)(hp:W.heap.size<=p)(hz:l.length=len)(h16:len<=16)(be:Un l=0)
  (ar:bl<W.heap.size) (hc:∀ i,i<len->W.cell? ⟨bl,off+i*2,none⟩=some (E J (l.getD i (0,0)).1)/\W.cell? ⟨bl,off+i*2+1,none⟩=some (E J (l.getD i (0,0)).2)) :
  Calls Tryz.prog 231 #[dZ (some ⟨p,0,none⟩),F (some ⟨bl,off,none⟩) len cap] w λe w'=>e = dX (dY #[])/\∃ s',Mach p s' W w'/\s'.h=s.h/\s'.rep=s.rep.bind (Xh s.h l):=by
 have HM:=Zb hm;have HC:=Zb hc;have HZ:=Zb hz;have HK:=Zb (Tu be);have av:=hm.lt;clear hm hc hz be;go_enter Tryz.func231,Tryz.ntmps231;go_wp2_with fail;refine (Ni p w av).mono ?_;rintro e w1 ⟨rfl,bd,ak⟩;have bt:=run_storeCells_new (P:=Tryz.prog) w1 344 #[.nilFunc,.nilFunc,.nilFunc,.nilFunc,.nilFunc,.nilFunc,.nilFunc,.nilFunc,.nilFunc,.nilFunc,.nilFunc,.nilFunc,.nilFunc,.nilFunc] (Ph p (w.heap.size+1)) Tryz.size344 rfl (by simp[Ph,met,Zpj,Zem,Value.oneCell']);have bu:(Ph p (w.heap.size+1)).size=14:=rfl;have ca:p<w1.heap.size:=aI av ak.size
 have z:Hid (Ready p w1.heap.size (w.heap.size+1) bl off len l (w1.alloc (dW (Ph p (w.heap.size+1)) 344))):={
  arr:=heap_alloc_new _ _
  ng:=by omega
  box:=bd.alloc _
  nl:=by omega
  ll:=by have:=ak.size;have:=HM.size;simp;omega
  cells:=λi hi=>by
   have an:bl<w.heap.size:=aI ar HM.size;have bi:bl<w1.heap.size:=aI an ak.size;have hc:=HC i hi;refine⟨?_,?_⟩
   ·rw[World.cell?_alloc_past _ _ _ bi,ak.cell (p:=⟨bl,off+i*2,none⟩) an,(Za HM).past ⟨bl,off+i*2,none⟩ (by show bl≠p;omega) ar];exact hc.1
   ·rw[World.cell?_alloc_past _ _ _ bi,ak.cell (p:=⟨bl,off+i*2+1,none⟩) an,(Za HM).past ⟨bl,off+i*2+1,none⟩ (by show bl≠p;omega) ar];exact hc.2 }
 have bj:Mach p s W w1:=⟨HM.good,(ak.block p av).trans HM.block,λk hk hl=>(ak.block k (aI hl HM.size)).trans (HM.old k hk hl),Nat.le_trans HM.size ak.size,ak.os.trans HM.os,ak.tape.trans HM.tape,ak.output.trans HM.output⟩;have ap:=Zb (bj.alloc (dW (Ph p (w.heap.size+1)) 344));clear bd ak bj;go_wp2;clear bt bu;obtain⟨g,hg⟩:=ZG (w1.heap.size);obtain⟨b,hb⟩:=ZG (w.heap.size+1);obtain⟨V,hV⟩:=ZG (w1.alloc (dW (Ph p (w.heap.size+1)) 344));rw[<-hV] at ap z ⊢;rw[<-hg,<-hb] at z;rw[<-hg];clear hg hb hV
 go_loopw [11] (λi wr=>∃ (k:Nat) (s':MS),k<=len/\i = E J k/\Mach p s' V wr/\s'.h=s.h/\s'.rep=s.rep.bind (Xh s.h (l.take k))) (λi _=>len - (aV i).toNat)
 case atStart=>exact⟨0,s,Nat.zero_le _,rfl,ap.self,rfl,by cases s.rep <;> rfl⟩
 case round=>
  obtain⟨k,s',hk,rfl,hm,hh,hr⟩:=hrel;have ad:=Zb hm;have HH:=Zb hh;have HR:=Zb hr;have bz:=hm.lt;have bw:=z.lt hm;have ba:=hm.cell_f;clear hh hr;by_cases an:k<len
  ·have ag:k<l.length:=(by rw[Za HZ];exact an);obtain⟨c1,c2⟩:=z.cells k an;rw[<-hm.past ⟨bl,off+k*2,none⟩ (Za z).nl (Za z).ll] at c1;rw[<-hm.past ⟨bl,off+k*2+1,none⟩ (Za z).nl (Za z).ll] at c2;obtain⟨q,hq⟩:=ZG (l.getD k (0,0));rw[<-hq] at c1 c2;have ax:q=l[k]:=(by rw[hq];simp[ag]);have aq:=HK k ag;rw[<-ax] at aq;have HQ:=Zb ax;clear hm hq ax;obtain⟨kd,n⟩:=q;have O:=Zb (ad.alloc (dW #[E J kd,E J n] 122));cases hf:s'.f with
   | true=>
    rw[hf] at ba;have HF:=Zb hf;clear hf aq;go_wp2
    first|go_end0|(simp only[Exit.inBlock,Exit.then];refine bodyPost_ret (results_none rfl _ _ _) rfl ?_)|refine bodyPost_ret (results_none rfl _ _ _) rfl ?_
    exact⟨rfl,s',ap.trans O,Za HH,Zkt HF HR⟩
   | false=>
   rw[hf] at ba;clear hf;have bs:=Ziz aq;clear aq
   rcases bs with rfl|rfl|rfl|rfl|rfl|rfl|rfl|rfl|rfl|rfl|rfl|rfl|rfl
   ·have cf:wr.cell? ⟨g,1,none⟩=some (.func (.func 247) #[dZ (some ⟨p,0,none⟩)] #[]):=z.fn ad 1;go_wp2
    go_region_with (go_at_call 247;refine (Wt p s' n V _ ?_).mono ?_;(first|exact O|exact O.drew|exact O.drewN _);rintro e w' ⟨rfl,aa⟩)
    all_goals
     have ae:=Zb aa;clear aa;go_wp2;go_roundw
    all_goals try (simp[aV];omega)
    all_goals
     refine⟨k+1,s'.step 1 n,by omega,by go_num,Za ae,(MS.step_h _ _ _).trans HH,?_⟩;exact We ag HQ ad.good HH HR
   ·have cf:wr.cell? ⟨g,2,none⟩=some (.func (.func 254) #[dZ (some ⟨p,0,none⟩)] #[]):=z.fn ad 2;go_wp2
    go_region_with (go_at_call 254;refine (Zpa p s' n V _ ?_).mono ?_;(first|exact O|exact O.drew|exact O.drewN _);rintro e w' ⟨rfl,aa⟩)
    all_goals
     have ae:=Zb aa;clear aa;go_wp2;go_roundw
    all_goals try (simp[aV];omega)
    all_goals
     refine⟨k+1,s'.step 2 n,by omega,by go_num,Za ae,(MS.step_h _ _ _).trans HH,?_⟩;exact We ag HQ ad.good HH HR
   ·have cf:wr.cell? ⟨g,3,none⟩=some (.func (.func 255) #[dZ (some ⟨p,0,none⟩)] #[]):=z.fn ad 3;go_wp2
    go_region_with (go_at_call 255;refine (Zjt p s' n V _ ?_).mono ?_;(first|exact O|exact O.drew|exact O.drewN _);rintro e w' ⟨rfl,aa⟩)
    all_goals
     have ae:=Zb aa;clear aa;go_wp2;go_roundw
    all_goals try (simp[aV];omega)
    all_goals
     refine⟨k+1,s'.step 3 n,by omega,by go_num,Za ae,(MS.step_h _ _ _).trans HH,?_⟩;exact We ag HQ ad.good HH HR
   ·have cf:wr.cell? ⟨g,4,none⟩=some (.func (.func 256) #[dZ (some ⟨p,0,none⟩)] #[]):=z.fn ad 4;go_wp2
    go_region_with (go_at_call 256;refine (Zmp p s' n V _ ?_).mono ?_;(first|exact O|exact O.drew|exact O.drewN _);rintro e w' ⟨rfl,aa⟩)
    all_goals
     have ae:=Zb aa;clear aa;go_wp2;go_roundw
    all_goals try (simp[aV];omega)
    all_goals
     refine⟨k+1,s'.step 4 n,by omega,by go_num,Za ae,(MS.step_h _ _ _).trans HH,?_⟩;exact We ag HQ ad.good HH HR
   ·have cf:wr.cell? ⟨g,5,none⟩=some (.func (.func 271) #[] #[dZ (some ⟨b,0,none⟩),dZ (some ⟨b+1,0,none⟩)]):=z.fn ad 5;go_wp2
    go_region_with (go_at_call 271;refine (Zqc p b (b+1) s' n V _ ?_ z.box.x5.n0 z.box.x5.n1 (Nat.lt_of_succ_lt z.box.x5.lt) z.box.x5.lt z.box.x5.c0 z.box.x5.c1).mono ?_;(first|exact O|exact O.drew|exact O.drewN _);rintro e w' ⟨rfl,aa⟩)
    all_goals
     have ae:=Zb aa;clear aa;go_wp2;go_roundw
    all_goals try (simp[aV];omega)
    all_goals
     refine⟨k+1,s'.step 5 n,by omega,by go_num,Za ae,(MS.step_h _ _ _).trans HH,?_⟩;exact We ag HQ ad.good HH HR
   ·have cf:wr.cell? ⟨g,6,none⟩=some (.func (.func 271) #[] #[dZ (some ⟨b+2,0,none⟩),dZ (some ⟨b+2+1,0,none⟩)]):=z.fn ad 6;go_wp2
    go_region_with (go_at_call 271;refine (Zqb p (b+2) ((b+2)+1) s' n V _ ?_ z.box.x6.n0 z.box.x6.n1 (Nat.lt_of_succ_lt z.box.x6.lt) z.box.x6.lt z.box.x6.c0 z.box.x6.c1).mono ?_;(first|exact O|exact O.drew|exact O.drewN _);rintro e w' ⟨rfl,aa⟩)
    all_goals
     have ae:=Zb aa;clear aa;go_wp2;go_roundw
    all_goals try (simp[aV];omega)
    all_goals
     refine⟨k+1,s'.step 6 n,by omega,by go_num,Za ae,(MS.step_h _ _ _).trans HH,?_⟩;exact We ag HQ ad.good HH HR
   ·have cf:wr.cell? ⟨g,7,none⟩=some (.func (.func 271) #[] #[dZ (some ⟨b+4,0,none⟩),dZ (some ⟨b+4+1,0,none⟩)]):=z.fn ad 7;go_wp2
    go_region_with (go_at_call 271;refine (Zqa p (b+4) ((b+4)+1) s' n V _ ?_ z.box.x7.n0 z.box.x7.n1 (Nat.lt_of_succ_lt z.box.x7.lt) z.box.x7.lt z.box.x7.c0 z.box.x7.c1).mono ?_;(first|exact O|exact O.drew|exact O.drewN _);rintro e w' ⟨rfl,aa⟩)
    all_goals
     have ae:=Zb aa;clear aa;go_wp2;go_roundw
    all_goals try (simp[aV];omega)
    all_goals
     refine⟨k+1,s'.step 7 n,by omega,by go_num,Za ae,(MS.step_h _ _ _).trans HH,?_⟩;exact We ag HQ ad.good HH HR
   ·have cf:wr.cell? ⟨g,8,none⟩=some (.func (.func 271) #[] #[dZ (some ⟨b+6,0,none⟩),dZ (some ⟨b+6+1,0,none⟩)]):=z.fn ad 8;go_wp2
    go_region_with (go_at_call 271;refine (Zpz p (b+6) ((b+6)+1) s' n V _ ?_ z.box.x8.n0 z.box.x8.n1 (Nat.lt_of_succ_lt z.box.x8.lt) z.box.x8.lt z.box.x8.c0 z.box.x8.c1).mono ?_;(first|exact O|exact O.drew|exact O.drewN _);rintro e w' ⟨rfl,aa⟩)
    all_goals
     have ae:=Zb aa;clear aa;go_wp2;go_roundw
    all_goals try (simp[aV];omega)
    all_goals
     refine⟨k+1,s'.step 8 n,by omega,by go_num,Za ae,(MS.step_h _ _ _).trans HH,?_⟩;exact We ag HQ ad.good HH HR
   ·have cf:wr.cell? ⟨g,9,none⟩=some (.func (.func 272) #[] #[dZ (some ⟨b+8,0,none⟩),dZ (some ⟨b+8+1,0,none⟩)]):=z.fn ad 9;go_wp2
    go_region_with (go_at_call 272;refine (Zqg p (b+8) ((b+8)+1) s' n V _ ?_ z.box.x9.n0 z.box.x9.n1 (Nat.lt_of_succ_lt z.box.x9.lt) z.box.x9.lt z.box.x9.c0 z.box.x9.c1).mono ?_;(first|exact O|exact O.drew|exact O.drewN _);rintro e w' ⟨rfl,aa⟩)
    all_goals
     have ae:=Zb aa;clear aa;go_wp2;go_roundw
    all_goals try (simp[aV];omega)
    all_goals
     refine⟨k+1,s'.step 9 n,by omega,by go_num,Za ae,(MS.step_h _ _ _).trans HH,?_⟩;exact We ag HQ ad.good HH HR
   ·have cf:wr.cell? ⟨g,10,none⟩=some (.func (.func 271) #[] #[dZ (some ⟨b+10,0,none⟩),dZ (some ⟨b+10+1,0,none⟩)]):=z.fn ad 10;go_wp2
    go_region_with (go_at_call 271;refine (Zpy p (b+10) ((b+10)+1) s' n V _ ?_ z.box.x10.n0 z.box.x10.n1 (Nat.lt_of_succ_lt z.box.x10.lt) z.box.x10.lt z.box.x10.c0 z.box.x10.c1).mono ?_;(first|exact O|exact O.drew|exact O.drewN _);rintro e w' ⟨rfl,aa⟩)
    all_goals
     have ae:=Zb aa;clear aa;go_wp2;go_roundw
    all_goals try (simp[aV];omega)
    all_goals
     refine⟨k+1,s'.step 10 n,by omega,by go_num,Za ae,(MS.step_h _ _ _).trans HH,?_⟩;exact We ag HQ ad.good HH HR
   ·have cf:wr.cell? ⟨g,11,none⟩=some (.func (.func 266) #[dZ (some ⟨p,0,none⟩)] #[]):=z.fn ad 11;go_wp2
    go_region_with (go_at_call 266;refine (Zcv p s' n V _ ?_).mono ?_;(first|exact O|exact O.drew|exact O.drewN _);rintro e w' ⟨rfl,aa⟩)
    all_goals
     have ae:=Zb aa;clear aa;go_wp2;go_roundw
    all_goals try (simp[aV];omega)
    all_goals
     refine⟨k+1,s'.step 11 n,by omega,by go_num,Za ae,(MS.step_h _ _ _).trans HH,?_⟩;exact We ag HQ ad.good HH HR
   ·have cf:wr.cell? ⟨g,12,none⟩=some (.func (.func 267) #[dZ (some ⟨p,0,none⟩)] #[]):=z.fn ad 12;go_wp2
    go_region_with (go_at_call 267;refine (Ff p s' n V _ ?_).mono ?_;(first|exact O|exact O.drew|exact O.drewN _);rintro e w' ⟨rfl,aa⟩)
    all_goals
     have ae:=Zb aa;clear aa;go_wp2;go_roundw
    all_goals try (simp[aV];omega)
    all_goals
     refine⟨k+1,s'.step 12 n,by omega,by go_num,Za ae,(MS.step_h _ _ _).trans HH,?_⟩;exact We ag HQ ad.good HH HR
   ·have cf:wr.cell? ⟨g,13,none⟩=some (.func (.func 272) #[] #[dZ (some ⟨b+12,0,none⟩),dZ (some ⟨b+12+1,0,none⟩)]):=z.fn ad 13;go_wp2
    go_region_with (go_at_call 272;refine (Zoh p (b+12) ((b+12)+1) s' n V _ ?_ z.box.x13.n0 z.box.x13.n1 (Nat.lt_of_succ_lt z.box.x13.lt) z.box.x13.lt z.box.x13.c0 z.box.x13.c1).mono ?_;(first|exact O|exact O.drew|exact O.drewN _);rintro e w' ⟨rfl,aa⟩)
    all_goals
     have ae:=Zb aa;clear aa;go_wp2;go_roundw
    all_goals try (simp[aV];omega)
    all_goals
     refine⟨k+1,s'.step 13 n,by omega,by go_num,Za ae,(MS.step_h _ _ _).trans HH,?_⟩;exact We ag HQ ad.good HH HR
  ·clear hm;go_wp2;go_end0;have e:k=len:=(by omega);subst e;refine⟨rfl,s',ap.trans ad,Za HH,?_⟩;rw[Za HR,<-Za HZ,List.take_length]
