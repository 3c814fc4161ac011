import Derived.Test.YtmomfkikogbdeaaGreatDoorH
import Derived.Test.YtmomfkikogbdeaaGreatDoorG7
import Derived.Test.YtmomfkikogbdeaaGreatDoorG8
import Derived.Test.YtmomfkikogbdeaaGreatDoorG9
import Derived.Test.YtmomfkikogbdeaaGreatDoorG10
import Derived.Deep.WholeRow
open Go.Ending renaming returned->dF
open Go.IntKind renaming i64->J
open Go.Obj renaming cells->dE
open Go.Value renaming int->E,slice->F,tuple->dG,pointer->dH
open Nat renaming lt_of_lt_of_le->aD
namespace Go.Proofs.YtmomfkikogbdeaaGreatDoor
open Go.RowKit
theorem Boxes.alloc{p b:Nat}{w:World}(h:Boxes p b w)(o:Obj):Boxes p b (w.alloc o):=
 have hb:=(Below.refl w.heap.size w).alloc (Nat.le_refl _) o
 ⟨h.x5.later hb h.x5.lt,h.x6.later hb h.x6.lt,h.x7.later hb h.x7.lt,h.x8.later hb h.x8.lt,h.x9.later hb h.x9.lt,h.x10.later hb h.x10.lt,h.x13.later hb h.x13.lt⟩
structure Ready(p g b bl off len:Nat)(l:List (Int×Int))(V:World):Prop where
 arr:V.heap[g]? = some (dE (Tf p b) 376 (0,0))
 ng:g≠p
 box:Boxes p b V
 nl:bl≠p
 ll:bl<V.heap.size
 cells:∀ i,i<len->V.cell? ⟨bl,off+i*2,none⟩=some (E J (l.getD i (0,0)).1)/\V.cell? ⟨bl,off+i*2+1,none⟩=some (E J (l.getD i (0,0)).2)
theorem Ready.fn{p g b bl off len:Nat}{l}{V wr:World}{s:MS}(h:Ready p g b bl off len l V)(hm:Mach p s V wr)(j:Nat):wr.cell? ⟨g,j,none⟩=(Tf p b)[j]?:=
 (hm.past ⟨g,j,none⟩ h.ng (lt_of_block h.arr)).trans (cell_of_row _ _ _ _ _ _ h.arr)
theorem Ready.lt{p g b bl off len:Nat}{l}{V wr:World}{s:MS}(h:Ready p g b bl off len l V)(hm:Mach p s V wr):g<wr.heap.size:=aD (lt_of_block h.arr) hm.size
theorem Zho{k n:Int}(h:Xp (k,n)=0):k=1\/k=2\/k=3\/k=4\/k=5\/k=6\/k=7\/k=8\/k=9\/k=10\/k=11\/k=12\/k=13:=by
 unfold Xp at h;split at h
 ·cases h
 ·rename_i h1;simp only[not_or] at h1;omega
theorem Zfg(h:Int)(l)(o:Int×Int)(L):Wg h (l++[o]) L=(Wg h l L).bind (Pv h o.1 o.2):=by
 rw[Jj];cases Wg h l L with
 | none=>rfl
 | some M=>simp[Wg]
theorem Y4{s s':MS}{h:Int}{l:List (Int×Int)}{k:Nat}{q:Int×Int}(hk:k<l.length)(hq:q=l[k])(ad:s'.ok)(hh:s'.h=h)
  (hr:s'.rep=s.rep.bind (Wg h (l.take k))):(s'.step q.1 q.2).rep=s.rep.bind (Wg h (l.take (k+1))):=by
 rw[MS.rep_step ad,hr,hh,List.take_succ_eq_append_getElem hk,<-hq];cases s.rep with
 | none=>rfl
 | some L=>exact (Zfg h _ q L).symm
theorem Zjf{s s':MS}{h:Int}{l:List (Int×Int)}{k:Nat}(hf:s'.f=true)(hr:s'.rep=s.rep.bind (Wg h (l.take k))):s'.rep=s.rep.bind (Wg h l):=by
 have e:s'.rep=none:=by unfold MS.rep;rw[hf];rfl
 rw[e] at hr ⊢;cases hs:s.rep with
 | none=>rfl
 | some L=>
  rw[hs] at hr;have h1:Wg h (l.take k) L=none:=hr.symm;have h2:Wg h (l.take k++l.drop k) L=none:=by rw[Jj,h1];rfl
  rw[List.take_append_drop] at h2;exact h2.symm
set_option maxRecDepth 10000 in
set_option maxHeartbeats 8000000 in
theorem Ziw(p:Nat)(s:MS)(bl off len cap:Nat)(l:List (Int×Int))(W w:World)(hm:Mach p s W w)(hp:W.heap.size<=p)(hz:l.length=len)(h16:len<=16)(bo:U5 l=0)
  (ay:bl<W.heap.size) (hc:∀ i,i<len->W.cell? ⟨bl,off+i*2,none⟩=some (E J (l.getD i (0,0)).1)/\W.cell? ⟨bl,off+i*2+1,none⟩=some (E J (l.getD i (0,0)).2)) :
  Calls Tryz.prog 281 #[dH (some ⟨p,0,none⟩),F (some ⟨bl,off,none⟩) len cap] w λe w'=>e = dF (dG #[])/\∃ s',Mach p s' W w'/\s'.h=s.h/\s'.rep=s.rep.bind (Wg s.h l):=by
 obtain⟨HM,HC,HZ,HK⟩:=kh4 hm hc hz (Qk bo);have bb:=hm.lt;clear hm hc hz bo;go_enter Tryz.func281,Tryz.ntmps281;go_wp2_with fail;refine (Kr p w bb).mono ?_;rintro e w1 ⟨rfl,bk,ap⟩;have cc:=run_storeCells_new (P:=Tryz.prog) w1 376 #[.nilFunc,.nilFunc,.nilFunc,.nilFunc,.nilFunc,.nilFunc,.nilFunc,.nilFunc,.nilFunc,.nilFunc,.nilFunc,.nilFunc,.nilFunc,.nilFunc] (Tf p (w.heap.size+1)) Tryz.size376 rfl (by simp[Tf,met,Zow,Zck,Value.oneCell']);have cd:(Tf p (w.heap.size+1)).size=14:=rfl;have cj:p<w1.heap.size:=aD bb ap.size
 have RD:Hid (Ready p w1.heap.size (w.heap.size+1) bl off len l (w1.alloc (dE (Tf p (w.heap.size+1)) 376))):={
  arr:=heap_alloc_new _ _
  ng:=by omega
  box:=bk.alloc _
  nl:=by omega
  ll:=by have:=ap.size;have:=HM.size;simp;omega
  cells:=λi hi=>by
   have au:bl<w.heap.size:=aD ay HM.size;have bt:bl<w1.heap.size:=aD au ap.size;have hc:=HC i hi;refine⟨?_,?_⟩
   ·rw[World.cell?_alloc_past _ _ _ bt,ap.cell (p:=⟨bl,off+i*2,none⟩) au,(Za HM).past ⟨bl,off+i*2,none⟩ (by show bl≠p;omega) ay];exact hc.1
   ·rw[World.cell?_alloc_past _ _ _ bt,ap.cell (p:=⟨bl,off+i*2+1,none⟩) au,(Za HM).past ⟨bl,off+i*2+1,none⟩ (by show bl≠p;omega) ay];exact hc.2 }
 have bu:Mach p s W w1:=⟨HM.good,(ap.block p bb).trans HM.block,λk hk hl=>(ap.block k (aD hl HM.size)).trans (HM.old k hk hl),Nat.le_trans HM.size ap.size,ap.os.trans HM.os,ap.tape.trans HM.tape,ap.output.trans HM.output⟩;have aw:=Zd (bu.alloc (dE (Tf p (w.heap.size+1)) 376));clear bk ap bu HC HM;go_wp2;clear cc cd;obtain⟨g,hg⟩:=ZG (w1.heap.size);obtain⟨b,hb⟩:=ZG (w.heap.size+1);obtain⟨V,hV⟩:=ZG (w1.alloc (dE (Tf p (w.heap.size+1)) 376));rw[<-hV] at aw RD ⊢;rw[<-hg,<-hb] at RD;rw[<-hg];clear hg hb hV
 go_loopw [11] (λi wr=>∃ (k:Nat) (s':MS),k<=len/\i = E J k/\Mach p s' V wr/\s'.h=s.h/\s'.rep=s.rep.bind (Wg s.h (l.take k))) (λi _=>len - (intOf i).toNat)
 case atStart=>exact⟨0,s,Nat.zero_le _,rfl,aw.self,rfl,by cases s.rep <;> rfl⟩
 case round=>
  obtain⟨k,s',hk,rfl,hm,hh,hr⟩:=hrel;have af:=Zd hm;obtain⟨HH,HR⟩:=kh2 hh hr;have cg:=hm.lt;have cf:=RD.lt hm;have bh:=hm.cell_f;clear hh hr;by_cases au:k<len
  ·have aj:k<l.length:=(by rw[Za HZ];exact au);obtain⟨c1,c2⟩:=RD.cells k au;rw[<-hm.past ⟨bl,off+k*2,none⟩ RD.nl RD.ll] at c1;rw[<-hm.past ⟨bl,off+k*2+1,none⟩ RD.nl RD.ll] at c2;obtain⟨q,hq⟩:=ZG (l.getD k (0,0));rw[<-hq] at c1 c2;have bd:q=l[k]:=(by rw[hq];simp[aj]);have ax:=HK k aj;rw[<-bd] at ax;have HQ:=Zd bd;clear hm hq bd;obtain⟨kd,n⟩:=q;have ab:=Zd (af.alloc (dE #[E J kd,E J n] 164));cases hf:s'.f with
   | true=>
    rw[hf] at bh;have HF:=Zd hf;clear hf ax;go_wp2
    first|go_end0|(simp only[Exit.inBlock,Exit.then];refine bodyPost_ret (results_none rfl _ _ _) rfl ?_)|refine bodyPost_ret (results_none rfl _ _ _) rfl ?_
    exact⟨rfl,s',aw.trans ab,Za HH,Zjf HF HR⟩
   | false=>
   rw[hf] at bh;clear hf;have cb:=Zho ax;clear ax
   rcases cb with rfl|rfl|rfl|rfl|rfl|rfl|rfl|rfl|rfl|rfl|rfl|rfl|rfl
   ·have cl:wr.cell? ⟨g,1,none⟩=some (.func (.func 303) #[dH (some ⟨p,0,none⟩)] #[]):=RD.fn af 1;go_wp2
    go_region_with (go_at_call 303;refine (Xk p s' n V _ ?_).mono ?_;(first|exact ab|exact ab.drew|exact ab.drewN _);rintro e w' ⟨rfl,ac⟩)
    all_goals
     have ag:=Zd ac;clear ac;go_wp2;go_roundw
    all_goals try (simp[intOf];omega)
    all_goals
     refine⟨k+1,s'.step 1 n,by omega,by go_num,Za ag,(MS.step_h _ _ _).trans HH,?_⟩;exact Y4 aj HQ af.good HH HR
   ·have cl:wr.cell? ⟨g,2,none⟩=some (.func (.func 314) #[dH (some ⟨p,0,none⟩)] #[]):=RD.fn af 2;go_wp2
    go_region_with (go_at_call 314;refine (Zop p s' n V _ ?_).mono ?_;(first|exact ab|exact ab.drew|exact ab.drewN _);rintro e w' ⟨rfl,ac⟩)
    all_goals
     have ag:=Zd ac;clear ac;go_wp2;go_roundw
    all_goals try (simp[intOf];omega)
    all_goals
     refine⟨k+1,s'.step 2 n,by omega,by go_num,Za ag,(MS.step_h _ _ _).trans HH,?_⟩;exact Y4 aj HQ af.good HH HR
   ·have cl:wr.cell? ⟨g,3,none⟩=some (.func (.func 315) #[dH (some ⟨p,0,none⟩)] #[]):=RD.fn af 3;go_wp2
    go_region_with (go_at_call 315;refine (Zik p s' n V _ ?_).mono ?_;(first|exact ab|exact ab.drew|exact ab.drewN _);rintro e w' ⟨rfl,ac⟩)
    all_goals
     have ag:=Zd ac;clear ac;go_wp2;go_roundw
    all_goals try (simp[intOf];omega)
    all_goals
     refine⟨k+1,s'.step 3 n,by omega,by go_num,Za ag,(MS.step_h _ _ _).trans HH,?_⟩;exact Y4 aj HQ af.good HH HR
   ·have cl:wr.cell? ⟨g,4,none⟩=some (.func (.func 316) #[dH (some ⟨p,0,none⟩)] #[]):=RD.fn af 4;go_wp2
    go_region_with (go_at_call 316;refine (Zlb p s' n V _ ?_).mono ?_;(first|exact ab|exact ab.drew|exact ab.drewN _);rintro e w' ⟨rfl,ac⟩)
    all_goals
     have ag:=Zd ac;clear ac;go_wp2;go_roundw
    all_goals try (simp[intOf];omega)
    all_goals
     refine⟨k+1,s'.step 4 n,by omega,by go_num,Za ag,(MS.step_h _ _ _).trans HH,?_⟩;exact Y4 aj HQ af.good HH HR
   ·have cl:wr.cell? ⟨g,5,none⟩=some (.func (.func 334) #[] #[dH (some ⟨b,0,none⟩),dH (some ⟨b+1,0,none⟩)]):=RD.fn af 5;go_wp2
    go_region_with (go_at_call 334;refine (Zpz p b (b+1) s' n V _ ?_ RD.box.x5.n0 RD.box.x5.n1 (Nat.lt_of_succ_lt RD.box.x5.lt) RD.box.x5.lt RD.box.x5.c0 RD.box.x5.c1).mono ?_;(first|exact ab|exact ab.drew|exact ab.drewN _);rintro e w' ⟨rfl,ac⟩)
    all_goals
     have ag:=Zd ac;clear ac;go_wp2;go_roundw
    all_goals try (simp[intOf];omega)
    all_goals
     refine⟨k+1,s'.step 5 n,by omega,by go_num,Za ag,(MS.step_h _ _ _).trans HH,?_⟩;exact Y4 aj HQ af.good HH HR
   ·have cl:wr.cell? ⟨g,6,none⟩=some (.func (.func 334) #[] #[dH (some ⟨b+2,0,none⟩),dH (some ⟨b+2+1,0,none⟩)]):=RD.fn af 6;go_wp2
    go_region_with (go_at_call 334;refine (Zpy p (b+2) ((b+2)+1) s' n V _ ?_ RD.box.x6.n0 RD.box.x6.n1 (Nat.lt_of_succ_lt RD.box.x6.lt) RD.box.x6.lt RD.box.x6.c0 RD.box.x6.c1).mono ?_;(first|exact ab|exact ab.drew|exact ab.drewN _);rintro e w' ⟨rfl,ac⟩)
    all_goals
     have ag:=Zd ac;clear ac;go_wp2;go_roundw
    all_goals try (simp[intOf];omega)
    all_goals
     refine⟨k+1,s'.step 6 n,by omega,by go_num,Za ag,(MS.step_h _ _ _).trans HH,?_⟩;exact Y4 aj HQ af.good HH HR
   ·have cl:wr.cell? ⟨g,7,none⟩=some (.func (.func 334) #[] #[dH (some ⟨b+4,0,none⟩),dH (some ⟨b+4+1,0,none⟩)]):=RD.fn af 7;go_wp2
    go_region_with (go_at_call 334;refine (Zpx p (b+4) ((b+4)+1) s' n V _ ?_ RD.box.x7.n0 RD.box.x7.n1 (Nat.lt_of_succ_lt RD.box.x7.lt) RD.box.x7.lt RD.box.x7.c0 RD.box.x7.c1).mono ?_;(first|exact ab|exact ab.drew|exact ab.drewN _);rintro e w' ⟨rfl,ac⟩)
    all_goals
     have ag:=Zd ac;clear ac;go_wp2;go_roundw
    all_goals try (simp[intOf];omega)
    all_goals
     refine⟨k+1,s'.step 7 n,by omega,by go_num,Za ag,(MS.step_h _ _ _).trans HH,?_⟩;exact Y4 aj HQ af.good HH HR
   ·have cl:wr.cell? ⟨g,8,none⟩=some (.func (.func 334) #[] #[dH (some ⟨b+6,0,none⟩),dH (some ⟨b+6+1,0,none⟩)]):=RD.fn af 8;go_wp2
    go_region_with (go_at_call 334;refine (Zpw p (b+6) ((b+6)+1) s' n V _ ?_ RD.box.x8.n0 RD.box.x8.n1 (Nat.lt_of_succ_lt RD.box.x8.lt) RD.box.x8.lt RD.box.x8.c0 RD.box.x8.c1).mono ?_;(first|exact ab|exact ab.drew|exact ab.drewN _);rintro e w' ⟨rfl,ac⟩)
    all_goals
     have ag:=Zd ac;clear ac;go_wp2;go_roundw
    all_goals try (simp[intOf];omega)
    all_goals
     refine⟨k+1,s'.step 8 n,by omega,by go_num,Za ag,(MS.step_h _ _ _).trans HH,?_⟩;exact Y4 aj HQ af.good HH HR
   ·have cl:wr.cell? ⟨g,9,none⟩=some (.func (.func 335) #[] #[dH (some ⟨b+8,0,none⟩),dH (some ⟨b+8+1,0,none⟩)]):=RD.fn af 9;go_wp2
    go_region_with (go_at_call 335;refine (Zqm p (b+8) ((b+8)+1) s' n V _ ?_ RD.box.x9.n0 RD.box.x9.n1 (Nat.lt_of_succ_lt RD.box.x9.lt) RD.box.x9.lt RD.box.x9.c0 RD.box.x9.c1).mono ?_;(first|exact ab|exact ab.drew|exact ab.drewN _);rintro e w' ⟨rfl,ac⟩)
    all_goals
     have ag:=Zd ac;clear ac;go_wp2;go_roundw
    all_goals try (simp[intOf];omega)
    all_goals
     refine⟨k+1,s'.step 9 n,by omega,by go_num,Za ag,(MS.step_h _ _ _).trans HH,?_⟩;exact Y4 aj HQ af.good HH HR
   ·have cl:wr.cell? ⟨g,10,none⟩=some (.func (.func 334) #[] #[dH (some ⟨b+10,0,none⟩),dH (some ⟨b+10+1,0,none⟩)]):=RD.fn af 10;go_wp2
    go_region_with (go_at_call 334;refine (Zpv p (b+10) ((b+10)+1) s' n V _ ?_ RD.box.x10.n0 RD.box.x10.n1 (Nat.lt_of_succ_lt RD.box.x10.lt) RD.box.x10.lt RD.box.x10.c0 RD.box.x10.c1).mono ?_;(first|exact ab|exact ab.drew|exact ab.drewN _);rintro e w' ⟨rfl,ac⟩)
    all_goals
     have ag:=Zd ac;clear ac;go_wp2;go_roundw
    all_goals try (simp[intOf];omega)
    all_goals
     refine⟨k+1,s'.step 10 n,by omega,by go_num,Za ag,(MS.step_h _ _ _).trans HH,?_⟩;exact Y4 aj HQ af.good HH HR
   ·have cl:wr.cell? ⟨g,11,none⟩=some (.func (.func 326) #[dH (some ⟨p,0,none⟩)] #[]):=RD.fn af 11;go_wp2
    go_region_with (go_at_call 326;refine (Zaj p s' n V _ ?_).mono ?_;(first|exact ab|exact ab.drew|exact ab.drewN _);rintro e w' ⟨rfl,ac⟩)
    all_goals
     have ag:=Zd ac;clear ac;go_wp2;go_roundw
    all_goals try (simp[intOf];omega)
    all_goals
     refine⟨k+1,s'.step 11 n,by omega,by go_num,Za ag,(MS.step_h _ _ _).trans HH,?_⟩;exact Y4 aj HQ af.good HH HR
   ·have cl:wr.cell? ⟨g,12,none⟩=some (.func (.func 327) #[dH (some ⟨p,0,none⟩)] #[]):=RD.fn af 12;go_wp2
    go_region_with (go_at_call 327;refine (Mj p s' n V _ ?_).mono ?_;(first|exact ab|exact ab.drew|exact ab.drewN _);rintro e w' ⟨rfl,ac⟩)
    all_goals
     have ag:=Zd ac;clear ac;go_wp2;go_roundw
    all_goals try (simp[intOf];omega)
    all_goals
     refine⟨k+1,s'.step 12 n,by omega,by go_num,Za ag,(MS.step_h _ _ _).trans HH,?_⟩;exact Y4 aj HQ af.good HH HR
   ·have cl:wr.cell? ⟨g,13,none⟩=some (.func (.func 335) #[] #[dH (some ⟨b+12,0,none⟩),dH (some ⟨b+12+1,0,none⟩)]):=RD.fn af 13;go_wp2
    go_region_with (go_at_call 335;refine (Znm p (b+12) ((b+12)+1) s' n V _ ?_ RD.box.x13.n0 RD.box.x13.n1 (Nat.lt_of_succ_lt RD.box.x13.lt) RD.box.x13.lt RD.box.x13.c0 RD.box.x13.c1).mono ?_;(first|exact ab|exact ab.drew|exact ab.drewN _);rintro e w' ⟨rfl,ac⟩)
    all_goals
     have ag:=Zd ac;clear ac;go_wp2;go_roundw
    all_goals try (simp[intOf];omega)
    all_goals
     refine⟨k+1,s'.step 13 n,by omega,by go_num,Za ag,(MS.step_h _ _ _).trans HH,?_⟩;exact Y4 aj HQ af.good HH HR
  ·clear hm;go_wp2;go_end0;have e:k=len:=(by omega);subst e;refine⟨rfl,s',aw.trans af,Za HH,?_⟩;rw[Za HR,<-Za HZ,List.take_length]
