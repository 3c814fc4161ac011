import Derived.Test.YtmomfkikogbdeaaGreatDoorH
import Derived.Test.YtmomfkikogbdeaaGreatDoorG6
import Derived.Test.YtmomfkikogbdeaaGreatDoorG7
import Derived.Test.YtmomfkikogbdeaaGreatDoorG8
import Derived.Test.YtmomfkikogbdeaaGreatDoorG9
import Derived.Deep.WholeRow
open Go.Ending renaming returned->dA
open Go.IntKind renaming i64->J
open Go.Obj renaming cells->cZ
open Go.RowKit renaming intOf->cK
open Go.Value renaming int->E,slice->F,tuple->dB,pointer->dC
open Nat renaming lt_of_lt_of_le->aD
namespace Go.Proofs.YtmomfkikogbdeaaGreatDoor
open Go.RowKit
theorem Boxes.alloc{p b:Nat}{w:World}(h:Boxes p b w)(o:Obj):Boxes p b (w.alloc o):=
 have z:=(Below.refl w.heap.size w).alloc (Nat.le_refl _) o
 ⟨h.x5.later z h.x5.lt,h.x6.later z h.x6.lt,h.x7.later z h.x7.lt,h.x8.later z h.x8.lt,h.x9.later z h.x9.lt,h.x10.later z h.x10.lt,h.x13.later z h.x13.lt⟩
structure Ready(p g b bl off len:Nat)(l:List (Int×Int))(V:World):Prop where
 arr:V.heap[g]? = some (cZ (Tt p b) 376 (0,0))
 ng:g≠p
 box:Boxes p b V
 nl:bl≠p
 ll:bl<V.heap.size
 cells:∀ i,i<len->V.cell? ⟨bl,off+i*2,none⟩=some (E J (l.getD i (0,0)).1)/\V.cell? ⟨bl,off+i*2+1,none⟩=some (E J (l.getD i (0,0)).2)
theorem Ready.fn{p g b bl off len:Nat}{l}{V wr:World}{s:MS}(h:Ready p g b bl off len l V)(z:Mach p s V wr)(j:Nat):wr.cell? ⟨g,j,none⟩=(Tt p b)[j]?:=
 (z.past ⟨g,j,none⟩ h.ng (lt_of_block h.arr)).trans (cell_of_row _ _ _ _ _ _ h.arr)
theorem Ready.lt{p g b bl off len:Nat}{l}{V wr:World}{s:MS}(h:Ready p g b bl off len l V)(z:Mach p s V wr):g<wr.heap.size:=aD (lt_of_block h.arr) z.size
theorem Zif{k n:Int}(h:Xy (k,n)=0):k=1\/k=2\/k=3\/k=4\/k=5\/k=6\/k=7\/k=8\/k=9\/k=10\/k=11\/k=12\/k=13:=by
 unfold Xy at h;split at h
 ·cases h
 ·rename_i h1;simp only[not_or] at h1;omega
theorem Zfq(h:Int)(l)(o:Int×Int)(L):Wt h (l++[o]) L=(Wt h l L).bind (Gj h o.1 o.2):=by
 rw[J1];cases Wt h l L with
 | none=>rfl
 | some M=>simp[Wt]
theorem Xd{s z:MS}{h:Int}{l:List (Int×Int)}{k:Nat}{q:Int×Int}(hk:k<l.length)(hq:q=l[k])(ab:z.ok)(Q:z.h=h)
  (hr:z.rep=s.rep.bind (Wt h (l.take k))):(z.step q.1 q.2).rep=s.rep.bind (Wt h (l.take (k+1))):=by
 rw[MS.rep_step ab,hr,Q,List.take_succ_eq_append_getElem hk,<-hq];cases s.rep with
 | none=>rfl
 | some L=>exact (Zfq h _ q L).symm
theorem Zjr{s z:MS}{h:Int}{l:List (Int×Int)}{k:Nat}(hf:z.f=true)(Q:z.rep=s.rep.bind (Wt h (l.take k))):z.rep=s.rep.bind (Wt h l):=by
 have e:z.rep=none:=by unfold MS.rep;rw[hf];rfl
 rw[e] at Q ⊢;cases hs:s.rep with
 | none=>rfl
 | some L=>
  rw[hs] at Q;have h1:Wt h (l.take k) L=none:=Q.symm;have h2:Wt h (l.take k++l.drop k) L=none:=by rw[J1,h1];rfl
  rw[List.take_append_drop] at h2;exact h2.symm
set_option maxRecDepth 10000 in
set_option maxHeartbeats 8000000 in
theorem Zjm(p:Nat)(s:MS)(bl off len cap:Nat)(l:List (Int×Int))(W w:World)(hm:Mach p s W w)(hp:W.heap.size<=p)(hz:l.length=len)(h16:len<=16)(bi:U8 l=0)
  (av:bl<W.heap.size) (hc:∀ i,i<len->W.cell? ⟨bl,off+i*2,none⟩=some (E J (l.getD i (0,0)).1)/\W.cell? ⟨bl,off+i*2+1,none⟩=some (E J (l.getD i (0,0)).2)) :
  Calls Tryz.prog 281 #[dC (some ⟨p,0,none⟩),F (some ⟨bl,off,none⟩) len cap] w λe w'=>e = dA (dB #[])/\∃ s',Mach p s' W w'/\s'.h=s.h/\s'.rep=s.rep.bind (Wt s.h l):=by
 obtain⟨HM,HC,HZ,HK⟩:=kh4 hm hc hz (Qv bi);have ax:=hm.lt;clear hm hc hz bi;go_enter Tryz.func281,Tryz.ntmps281;go_wp2_with fail;refine (K7 p w ax).mono ?_;rintro e w1 ⟨rfl,bh,al⟩;have bz:=run_storeCells_new (P:=Tryz.prog) w1 376 #[.nilFunc,.nilFunc,.nilFunc,.nilFunc,.nilFunc,.nilFunc,.nilFunc,.nilFunc,.nilFunc,.nilFunc,.nilFunc,.nilFunc,.nilFunc,.nilFunc] (Tt p (w.heap.size+1)) Tryz.size376 rfl (by simp[Tt,met,Zpi,Zcj,Value.oneCell']);have ca:(Tt p (w.heap.size+1)).size=14:=rfl;have ce:p<w1.heap.size:=aD ax al.size
 have z:Hid (Ready p w1.heap.size (w.heap.size+1) bl off len l (w1.alloc (cZ (Tt p (w.heap.size+1)) 376))):={
  arr:=heap_alloc_new _ _
  ng:=by omega
  box:=bh.alloc _
  nl:=by omega
  ll:=by have:=al.size;have:=HM.size;simp;omega
  cells:=λi hi=>by
   have ap:bl<w.heap.size:=aD av HM.size;have bq:bl<w1.heap.size:=aD ap al.size;have hc:=HC i hi;refine⟨?_,?_⟩
   ·rw[World.cell?_alloc_past _ _ _ bq,al.cell (p:=⟨bl,off+i*2,none⟩) ap,(Za HM).past ⟨bl,off+i*2,none⟩ (by show bl≠p;omega) av];exact hc.1
   ·rw[World.cell?_alloc_past _ _ _ bq,al.cell (p:=⟨bl,off+i*2+1,none⟩) ap,(Za HM).past ⟨bl,off+i*2+1,none⟩ (by show bl≠p;omega) av];exact hc.2 }
 have br:Mach p s W w1:=⟨HM.good,(al.block p ax).trans HM.block,λk hk hl=>(al.block k (aD hl HM.size)).trans (HM.old k hk hl),Nat.le_trans HM.size al.size,al.os.trans HM.os,al.tape.trans HM.tape,al.output.trans HM.output⟩;have ar:=Zd (br.alloc (cZ (Tt p (w.heap.size+1)) 376));clear bh al br HC HM;go_wp2;clear bz ca;obtain⟨g,hg⟩:=ZG (w1.heap.size);obtain⟨b,hb⟩:=ZG (w.heap.size+1);obtain⟨V,hV⟩:=ZG (w1.alloc (cZ (Tt p (w.heap.size+1)) 376));rw[<-hV] at ar z ⊢;rw[<-hg,<-hb] at z;rw[<-hg];clear hg hb hV
 go_loopw [11] (λi wr=>∃ (k:Nat) (s':MS),k<=len/\i = E J k/\Mach p s' V wr/\s'.h=s.h/\s'.rep=s.rep.bind (Wt s.h (l.take k))) (λi _=>len - (cK i).toNat)
 case atStart=>exact⟨0,s,Nat.zero_le _,rfl,ar.self,rfl,by cases s.rep <;> rfl⟩
 case round=>
  obtain⟨k,s',hk,rfl,hm,hh,hr⟩:=hrel;have ad:=Zd hm;obtain⟨HH,HR⟩:=kh2 hh hr;have cd:=hm.lt;have cc:=z.lt hm;have be:=hm.cell_f;clear hh hr;by_cases ap:k<len
  ·have ag:k<l.length:=(by rw[Za HZ];exact ap);obtain⟨c1,c2⟩:=z.cells k ap;rw[<-hm.past ⟨bl,off+k*2,none⟩ z.nl z.ll] at c1;rw[<-hm.past ⟨bl,off+k*2+1,none⟩ z.nl z.ll] at c2;obtain⟨q,hq⟩:=ZG (l.getD k (0,0));rw[<-hq] at c1 c2;have ay:q=l[k]:=(by rw[hq];simp[ag]);have au:=HK k ag;rw[<-ay] at au;have HQ:=Zd ay;clear hm hq ay;obtain⟨kd,n⟩:=q;have Q:=Zd (ad.alloc (cZ #[E J kd,E J n] 164));cases hf:s'.f with
   | true=>
    rw[hf] at be;have HF:=Zd hf;clear hf au;go_wp2
    first|go_end0|(simp only[Exit.inBlock,Exit.then];refine bodyPost_ret (results_none rfl _ _ _) rfl ?_)|refine bodyPost_ret (results_none rfl _ _ _) rfl ?_
    exact⟨rfl,s',ar.trans Q,Za HH,Zjr HF HR⟩
   | false=>
   rw[hf] at be;clear hf;have bx:=Zif au;clear au
   rcases bx with rfl|rfl|rfl|rfl|rfl|rfl|rfl|rfl|rfl|rfl|rfl|rfl|rfl
   ·have cf:wr.cell? ⟨g,1,none⟩=some (.func (.func 303) #[dC (some ⟨p,0,none⟩)] #[]):=z.fn ad 1;go_wp2
    go_region_with (go_at_call 303;refine (Xw p s' n V _ ?_).mono ?_;(first|exact Q|exact Q.drew|exact Q.drewN _);rintro e w' ⟨rfl,aa⟩)
    all_goals
     have ae:=Zd aa;clear aa;go_wp2;go_roundw
    all_goals try (simp[cK];omega)
    all_goals
     refine⟨k+1,s'.step 1 n,by omega,by go_num,Za ae,(MS.step_h _ _ _).trans HH,?_⟩;exact Xd ag HQ ad.good HH HR
   ·have cf:wr.cell? ⟨g,2,none⟩=some (.func (.func 314) #[dC (some ⟨p,0,none⟩)] #[]):=z.fn ad 2;go_wp2
    go_region_with (go_at_call 314;refine (Zpa p s' n V _ ?_).mono ?_;(first|exact Q|exact Q.drew|exact Q.drewN _);rintro e w' ⟨rfl,aa⟩)
    all_goals
     have ae:=Zd aa;clear aa;go_wp2;go_roundw
    all_goals try (simp[cK];omega)
    all_goals
     refine⟨k+1,s'.step 2 n,by omega,by go_num,Za ae,(MS.step_h _ _ _).trans HH,?_⟩;exact Xd ag HQ ad.good HH HR
   ·have cf:wr.cell? ⟨g,3,none⟩=some (.func (.func 315) #[dC (some ⟨p,0,none⟩)] #[]):=z.fn ad 3;go_wp2
    go_region_with (go_at_call 315;refine (Zja p s' n V _ ?_).mono ?_;(first|exact Q|exact Q.drew|exact Q.drewN _);rintro e w' ⟨rfl,aa⟩)
    all_goals
     have ae:=Zd aa;clear aa;go_wp2;go_roundw
    all_goals try (simp[cK];omega)
    all_goals
     refine⟨k+1,s'.step 3 n,by omega,by go_num,Za ae,(MS.step_h _ _ _).trans HH,?_⟩;exact Xd ag HQ ad.good HH HR
   ·have cf:wr.cell? ⟨g,4,none⟩=some (.func (.func 316) #[dC (some ⟨p,0,none⟩)] #[]):=z.fn ad 4;go_wp2
    go_region_with (go_at_call 316;refine (Zlr p s' n V _ ?_).mono ?_;(first|exact Q|exact Q.drew|exact Q.drewN _);rintro e w' ⟨rfl,aa⟩)
    all_goals
     have ae:=Zd aa;clear aa;go_wp2;go_roundw
    all_goals try (simp[cK];omega)
    all_goals
     refine⟨k+1,s'.step 4 n,by omega,by go_num,Za ae,(MS.step_h _ _ _).trans HH,?_⟩;exact Xd ag HQ ad.good HH HR
   ·have cf:wr.cell? ⟨g,5,none⟩=some (.func (.func 334) #[] #[dC (some ⟨b,0,none⟩),dC (some ⟨b+1,0,none⟩)]):=z.fn ad 5;go_wp2
    go_region_with (go_at_call 334;refine (Zqo p b (b+1) s' n V _ ?_ z.box.x5.n0 z.box.x5.n1 (Nat.lt_of_succ_lt z.box.x5.lt) z.box.x5.lt z.box.x5.c0 z.box.x5.c1).mono ?_;(first|exact Q|exact Q.drew|exact Q.drewN _);rintro e w' ⟨rfl,aa⟩)
    all_goals
     have ae:=Zd aa;clear aa;go_wp2;go_roundw
    all_goals try (simp[cK];omega)
    all_goals
     refine⟨k+1,s'.step 5 n,by omega,by go_num,Za ae,(MS.step_h _ _ _).trans HH,?_⟩;exact Xd ag HQ ad.good HH HR
   ·have cf:wr.cell? ⟨g,6,none⟩=some (.func (.func 334) #[] #[dC (some ⟨b+2,0,none⟩),dC (some ⟨b+2+1,0,none⟩)]):=z.fn ad 6;go_wp2
    go_region_with (go_at_call 334;refine (Zqn p (b+2) ((b+2)+1) s' n V _ ?_ z.box.x6.n0 z.box.x6.n1 (Nat.lt_of_succ_lt z.box.x6.lt) z.box.x6.lt z.box.x6.c0 z.box.x6.c1).mono ?_;(first|exact Q|exact Q.drew|exact Q.drewN _);rintro e w' ⟨rfl,aa⟩)
    all_goals
     have ae:=Zd aa;clear aa;go_wp2;go_roundw
    all_goals try (simp[cK];omega)
    all_goals
     refine⟨k+1,s'.step 6 n,by omega,by go_num,Za ae,(MS.step_h _ _ _).trans HH,?_⟩;exact Xd ag HQ ad.good HH HR
   ·have cf:wr.cell? ⟨g,7,none⟩=some (.func (.func 334) #[] #[dC (some ⟨b+4,0,none⟩),dC (some ⟨b+4+1,0,none⟩)]):=z.fn ad 7;go_wp2
    go_region_with (go_at_call 334;refine (Zqm p (b+4) ((b+4)+1) s' n V _ ?_ z.box.x7.n0 z.box.x7.n1 (Nat.lt_of_succ_lt z.box.x7.lt) z.box.x7.lt z.box.x7.c0 z.box.x7.c1).mono ?_;(first|exact Q|exact Q.drew|exact Q.drewN _);rintro e w' ⟨rfl,aa⟩)
    all_goals
     have ae:=Zd aa;clear aa;go_wp2;go_roundw
    all_goals try (simp[cK];omega)
    all_goals
     refine⟨k+1,s'.step 7 n,by omega,by go_num,Za ae,(MS.step_h _ _ _).trans HH,?_⟩;exact Xd ag HQ ad.good HH HR
   ·have cf:wr.cell? ⟨g,8,none⟩=some (.func (.func 334) #[] #[dC (some ⟨b+6,0,none⟩),dC (some ⟨b+6+1,0,none⟩)]):=z.fn ad 8;go_wp2
    go_region_with (go_at_call 334;refine (Zql p (b+6) ((b+6)+1) s' n V _ ?_ z.box.x8.n0 z.box.x8.n1 (Nat.lt_of_succ_lt z.box.x8.lt) z.box.x8.lt z.box.x8.c0 z.box.x8.c1).mono ?_;(first|exact Q|exact Q.drew|exact Q.drewN _);rintro e w' ⟨rfl,aa⟩)
    all_goals
     have ae:=Zd aa;clear aa;go_wp2;go_roundw
    all_goals try (simp[cK];omega)
    all_goals
     refine⟨k+1,s'.step 8 n,by omega,by go_num,Za ae,(MS.step_h _ _ _).trans HH,?_⟩;exact Xd ag HQ ad.good HH HR
   ·have cf:wr.cell? ⟨g,9,none⟩=some (.func (.func 335) #[] #[dC (some ⟨b+8,0,none⟩),dC (some ⟨b+8+1,0,none⟩)]):=z.fn ad 9;go_wp2
    go_region_with (go_at_call 335;refine (Zqy p (b+8) ((b+8)+1) s' n V _ ?_ z.box.x9.n0 z.box.x9.n1 (Nat.lt_of_succ_lt z.box.x9.lt) z.box.x9.lt z.box.x9.c0 z.box.x9.c1).mono ?_;(first|exact Q|exact Q.drew|exact Q.drewN _);rintro e w' ⟨rfl,aa⟩)
    all_goals
     have ae:=Zd aa;clear aa;go_wp2;go_roundw
    all_goals try (simp[cK];omega)
    all_goals
     refine⟨k+1,s'.step 9 n,by omega,by go_num,Za ae,(MS.step_h _ _ _).trans HH,?_⟩;exact Xd ag HQ ad.good HH HR
   ·have cf:wr.cell? ⟨g,10,none⟩=some (.func (.func 334) #[] #[dC (some ⟨b+10,0,none⟩),dC (some ⟨b+10+1,0,none⟩)]):=z.fn ad 10;go_wp2
    go_region_with (go_at_call 334;refine (Zqk p (b+10) ((b+10)+1) s' n V _ ?_ z.box.x10.n0 z.box.x10.n1 (Nat.lt_of_succ_lt z.box.x10.lt) z.box.x10.lt z.box.x10.c0 z.box.x10.c1).mono ?_;(first|exact Q|exact Q.drew|exact Q.drewN _);rintro e w' ⟨rfl,aa⟩)
    all_goals
     have ae:=Zd aa;clear aa;go_wp2;go_roundw
    all_goals try (simp[cK];omega)
    all_goals
     refine⟨k+1,s'.step 10 n,by omega,by go_num,Za ae,(MS.step_h _ _ _).trans HH,?_⟩;exact Xd ag HQ ad.good HH HR
   ·have cf:wr.cell? ⟨g,11,none⟩=some (.func (.func 326) #[dC (some ⟨p,0,none⟩)] #[]):=z.fn ad 11;go_wp2
    go_region_with (go_at_call 326;refine (Zaa p s' n V _ ?_).mono ?_;(first|exact Q|exact Q.drew|exact Q.drewN _);rintro e w' ⟨rfl,aa⟩)
    all_goals
     have ae:=Zd aa;clear aa;go_wp2;go_roundw
    all_goals try (simp[cK];omega)
    all_goals
     refine⟨k+1,s'.step 11 n,by omega,by go_num,Za ae,(MS.step_h _ _ _).trans HH,?_⟩;exact Xd ag HQ ad.good HH HR
   ·have cf:wr.cell? ⟨g,12,none⟩=some (.func (.func 327) #[dC (some ⟨p,0,none⟩)] #[]):=z.fn ad 12;go_wp2
    go_region_with (go_at_call 327;refine (Ms p s' n V _ ?_).mono ?_;(first|exact Q|exact Q.drew|exact Q.drewN _);rintro e w' ⟨rfl,aa⟩)
    all_goals
     have ae:=Zd aa;clear aa;go_wp2;go_roundw
    all_goals try (simp[cK];omega)
    all_goals
     refine⟨k+1,s'.step 12 n,by omega,by go_num,Za ae,(MS.step_h _ _ _).trans HH,?_⟩;exact Xd ag HQ ad.good HH HR
   ·have cf:wr.cell? ⟨g,13,none⟩=some (.func (.func 335) #[] #[dC (some ⟨b+12,0,none⟩),dC (some ⟨b+12+1,0,none⟩)]):=z.fn ad 13;go_wp2
    go_region_with (go_at_call 335;refine (Zny p (b+12) ((b+12)+1) s' n V _ ?_ z.box.x13.n0 z.box.x13.n1 (Nat.lt_of_succ_lt z.box.x13.lt) z.box.x13.lt z.box.x13.c0 z.box.x13.c1).mono ?_;(first|exact Q|exact Q.drew|exact Q.drewN _);rintro e w' ⟨rfl,aa⟩)
    all_goals
     have ae:=Zd aa;clear aa;go_wp2;go_roundw
    all_goals try (simp[cK];omega)
    all_goals
     refine⟨k+1,s'.step 13 n,by omega,by go_num,Za ae,(MS.step_h _ _ _).trans HH,?_⟩;exact Xd ag HQ ad.good HH HR
  ·clear hm;go_wp2;go_end0;have e:k=len:=(by omega);subst e;refine⟨rfl,s',ar.trans ad,Za HH,?_⟩;rw[Za HR,<-Za HZ,List.take_length]
