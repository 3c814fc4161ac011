import Derived.Test.YtpikejjiignchaaGreatDoorG8
import Derived.Test.YtpikejjiignchaaGreatDoorG9
import Derived.Test.YtpikejjiignchaaGreatDoorG10
import Derived.Test.YtpikejjiignchaaGreatDoorG11
import Derived.Deep.WholeRow
namespace Go.Proofs.YtpikejjiignchaaGreatDoor
open Go.RowKit
theorem Boxes.alloc{p b:Nat}{w:World}(h:Boxes p b w)(o:Obj):Boxes p b (w.alloc o):=
 have hb:=(Below.refl w.heap.size w).alloc (Nat.le_refl _) o
 ⟨h.x5.later hb h.x5.lt,h.x6.later hb h.x6.lt,h.x7.later hb h.x7.lt,h.x8.later hb h.x8.lt,h.x9.later hb h.x9.lt,h.x10.later hb h.x10.lt,h.x13.later hb h.x13.lt⟩
structure Ready(p g b bl off len:Nat)(l:List (Int×Int))(V:World):Prop where
 arr:V.heap[g]? = some (.cells (Tg p b) 344 (0,0))
 ng:g≠p
 box:Boxes p b V
 nl:bl≠p
 ll:bl<V.heap.size
 cells:∀ i,i<len→V.cell? ⟨bl,off+i*2,none⟩=some (.int .i64 (l.getD i (0,0)).1)∧V.cell? ⟨bl,off+i*2+1,none⟩=some (.int .i64 (l.getD i (0,0)).2)
theorem Ready.fn{p g b bl off len:Nat}{l:List (Int×Int)}{V wr:World}{s:MS}(h:Ready p g b bl off len l V)(hm:Mach p s V wr)(j:Nat):wr.cell? ⟨g,j,none⟩=(Tg p b)[j]?:=
 (hm.past ⟨g,j,none⟩ h.ng (lt_of_block h.arr)).trans (cell_of_row _ _ _ _ _ _ h.arr)
theorem Ready.lt{p g b bl off len:Nat}{l:List (Int×Int)}{V wr:World}{s:MS}(h:Ready p g b bl off len l V)(hm:Mach p s V wr):g<wr.heap.size:=Nat.lt_of_lt_of_le (lt_of_block h.arr) hm.size
theorem Zel{k n:Int}(h:Xc (k,n)=0):k=1∨k=2∨k=3∨k=4∨k=5∨k=6∨k=7∨k=8∨k=9∨k=10∨k=11∨k=12∨k=13:=by
 unfold Xc at h
 split at h
 ·cases h
 ·rename_i h1
  simp only[not_or] at h1
  omega
theorem Zcz(h:Int)(l:List (Int×Int))(o:Int×Int)(L:List Int):Y0 h (l++[o]) L=(Y0 h l L).bind (Z8 h o.1 o.2):=by
 rw[V6]
 cases Y0 h l L with
 | none=>rfl
 | some M=>simp[Y0]
theorem Xs{s s':MS}{h:Int}{l:List (Int×Int)}{k:Nat}{q:Int×Int}(hk:k<l.length)(hq:q=l[k])(hok:s'.ok)(hh:s'.h=h)
  (hr:s'.rep=s.rep.bind (Y0 h (l.take k))):(s'.step q.1 q.2).rep=s.rep.bind (Y0 h (l.take (k+1))):=by
 rw[MS.rep_step hok,hr,hh,List.take_succ_eq_append_getElem hk,←hq]
 cases s.rep with
 | none=>rfl
 | some L=>exact (Zcz h _ q L).symm
theorem Zgg{s s':MS}{h:Int}{l:List (Int×Int)}{k:Nat}(hf:s'.f=true)(hr:s'.rep=s.rep.bind (Y0 h (l.take k))):s'.rep=s.rep.bind (Y0 h l):=by
 have e:s'.rep=none:=by unfold MS.rep;rw[hf];rfl
 rw[e] at hr ⊢
 cases hs:s.rep with
 | none=>rfl
 | some L=>
  rw[hs] at hr
  have h1:Y0 h (l.take k) L=none:=hr.symm
  have h2:Y0 h (l.take k++l.drop k) L=none:=by rw[V6,h1];rfl
  rw[List.take_append_drop] at h2
  exact h2.symm
set_option maxRecDepth 10000 in
set_option maxHeartbeats 8000000 in
theorem Zfz(p:Nat)(s:MS)(bl off len cap:Nat)(l:List (Int×Int))(W w:World)(hm:Mach p s W w)(hp:W.heap.size≤p)(hz:l.length=len)(h16:len≤16)(hck:Vv l=0)
  (hbl:bl<W.heap.size) (hc:∀ i,i<len→W.cell? ⟨bl,off+i*2,none⟩=some (.int .i64 (l.getD i (0,0)).1)∧W.cell? ⟨bl,off+i*2+1,none⟩=some (.int .i64 (l.getD i (0,0)).2)) :
  Calls Tryz.prog 231 #[.pointer (some ⟨p,0,none⟩),.slice (some ⟨bl,off,none⟩) len cap] w fun e w'=>e = .returned (.tuple #[])∧∃ s',Mach p s' W w'∧s'.h=s.h∧s'.rep=s.rep.bind (Y0 s.h l):=by
 have HM:=Zb hm
 have HC:=Zb hc
 have HZ:=Zb hz
 have HK:=Zb (Rb hck)
 have hpw:=hm.lt
 clear hm hc hz hck
 go_enter Tryz.func231,Tryz.ntmps231
 go_wp2_with fail
 refine (Kt p w hpw).mono ?_
 rintro e w1 ⟨rfl,hbx,hbw⟩
 have hs1:=run_storeCells_new (P:=Tryz.prog) w1 344 #[.nilFunc,.nilFunc,.nilFunc,.nilFunc,.nilFunc,.nilFunc,.nilFunc,.nilFunc,.nilFunc,.nilFunc,.nilFunc,.nilFunc,.nilFunc,.nilFunc] (Tg p (w.heap.size+1)) Tryz.size344 rfl (by simp[Tg,met,Zkh,Zas,Value.oneCell'])
 have hs2:(Tg p (w.heap.size+1)).size=14:=rfl
 have hpw1:p<w1.heap.size:=Nat.lt_of_lt_of_le hpw hbw.size
 have RD:Hid (Ready p w1.heap.size (w.heap.size+1) bl off len l (w1.alloc (.cells (Tg p (w.heap.size+1)) 344))):={
  arr:=heap_alloc_new _ _
  ng:=by omega
  box:=hbx.alloc _
  nl:=by omega
  ll:=by have:=hbw.size;have:=(Za HM).size;simp;omega
  cells:=fun i hi=>by
   have hlt:bl<w.heap.size:=Nat.lt_of_lt_of_le hbl (Za HM).size
   have hlt1:bl<w1.heap.size:=Nat.lt_of_lt_of_le hlt hbw.size
   have hc:=(Za HC) i hi
   refine⟨?_,?_⟩
   ·rw[World.cell?_alloc_past _ _ _ hlt1,hbw.cell (p:=⟨bl,off+i*2,none⟩) hlt,(Za HM).past ⟨bl,off+i*2,none⟩ (by show bl≠p;omega) hbl];exact hc.1
   ·rw[World.cell?_alloc_past _ _ _ hlt1,hbw.cell (p:=⟨bl,off+i*2+1,none⟩) hlt,(Za HM).past ⟨bl,off+i*2+1,none⟩ (by show bl≠p;omega) hbl];exact hc.2 }
 have hm1:Mach p s W w1:=⟨(Za HM).good,(hbw.block p hpw).trans (Za HM).block,fun k hk hl=>(hbw.block k (Nat.lt_of_lt_of_le hl (Za HM).size)).trans ((Za HM).old k hk hl),Nat.le_trans (Za HM).size hbw.size,hbw.os.trans (Za HM).os,hbw.tape.trans (Za HM).tape,hbw.output.trans (Za HM).output⟩
 have HM2:=Zb (hm1.alloc (.cells (Tg p (w.heap.size+1)) 344))
 clear hbx hbw hm1 HC HM
 go_wp2
 clear hs1 hs2
 obtain⟨g,hg⟩:∃ g,g=w1.heap.size:=⟨_,rfl⟩
 obtain⟨b,hb⟩:∃ b,b=w.heap.size+1:=⟨_,rfl⟩
 obtain⟨V,hV⟩:∃ V,V=w1.alloc (.cells (Tg p (w.heap.size+1)) 344):=⟨_,rfl⟩
 rw[←hV] at HM2 RD ⊢
 rw[←hg,←hb] at RD
 rw[←hg]
 clear hg hb hV
 go_loopw [11] (fun i wr=>∃ (k:Nat) (s':MS),k≤len∧i = .int .i64 k∧Mach p s' V wr∧s'.h=s.h∧s'.rep=s.rep.bind (Y0 s.h (l.take k))) (fun i _=>len - (intOf i).toNat)
 case atStart=>exact⟨0,s,Nat.zero_le _,rfl,(Za HM2).self,rfl,by cases s.rep <;> rfl⟩
 case round=>
  obtain⟨k,s',hk,rfl,hm,hh,hr⟩:=hrel
  have HM':=Zb hm
  have HH:=Zb hh
  have HR:=Zb hr
  have hpr:=hm.lt
  have hgr:=(Za RD).lt hm
  have cfl:=hm.cell_f
  clear hh hr
  by_cases hlt:k<len
  ·have hlk:k<l.length:=by rw[Za HZ];exact hlt
   obtain⟨c1,c2⟩:=(Za RD).cells k hlt
   rw[←hm.past ⟨bl,off+k*2,none⟩ (Za RD).nl (Za RD).ll] at c1
   rw[←hm.past ⟨bl,off+k*2+1,none⟩ (Za RD).nl (Za RD).ll] at c2
   obtain⟨q,hq⟩:∃ q,q=l.getD k (0,0):=⟨_,rfl⟩
   rw[←hq] at c1 c2
   have hq':q=l[k]:=by rw[hq];simp[hlk]
   have hkk:=(Za HK) k hlk
   rw[←hq'] at hkk
   have HQ:=Zb hq'
   clear hm hq hq'
   obtain⟨kd,n⟩:=q
   have HMA:=Zb ((Za HM').alloc (.cells #[.int .i64 kd,.int .i64 n] 122))
   cases hf:s'.f with
   | true=>
    rw[hf] at cfl
    have HF:=Zb hf
    clear hf hkk
    go_wp2
    first|go_end0|(simp only[Exit.inBlock,Exit.then];refine bodyPost_ret (results_none rfl _ _ _) rfl ?_)|refine bodyPost_ret (results_none rfl _ _ _) rfl ?_
    exact⟨rfl,s',(Za HM2).trans (Za HMA),Za HH,Zgg (Za HF) (Za HR)⟩
   | false=>
   rw[hf] at cfl
   clear hf
   have hkk':=Zel hkk
   clear hkk
   rcases hkk' with rfl|rfl|rfl|rfl|rfl|rfl|rfl|rfl|rfl|rfl|rfl|rfl|rfl
   ·have cf:wr.cell? ⟨g,1,none⟩=some (.func (.func 247) #[.pointer (some ⟨p,0,none⟩)] #[]):=(Za RD).fn (Za HM') 1
    go_wp2
    go_region_with (go_at_call 247;refine (Wb p s' n V _ ?_).mono ?_;(first|exact (Za HMA)|exact (Za HMA).drew|exact (Za HMA).drewN _);rintro e w' ⟨rfl,hm'⟩)
    all_goals
     have HM1:=Zb hm'
     clear hm'
     go_wp2
     go_roundw
    all_goals try (simp[intOf];omega)
    all_goals
     refine⟨k+1,s'.step 1 n,by omega,by go_num,Za HM1,(MS.step_h _ _ _).trans (Za HH),?_⟩
     exact Xs hlk (Za HQ) (Za HM').good (Za HH) (Za HR)
   ·have cf:wr.cell? ⟨g,2,none⟩=some (.func (.func 254) #[.pointer (some ⟨p,0,none⟩)] #[]):=(Za RD).fn (Za HM') 2
    go_wp2
    go_region_with (go_at_call 254;refine (Zkc p s' n V _ ?_).mono ?_;(first|exact (Za HMA)|exact (Za HMA).drew|exact (Za HMA).drewN _);rintro e w' ⟨rfl,hm'⟩)
    all_goals
     have HM1:=Zb hm'
     clear hm'
     go_wp2
     go_roundw
    all_goals try (simp[intOf];omega)
    all_goals
     refine⟨k+1,s'.step 2 n,by omega,by go_num,Za HM1,(MS.step_h _ _ _).trans (Za HH),?_⟩
     exact Xs hlk (Za HQ) (Za HM').good (Za HH) (Za HR)
   ·have cf:wr.cell? ⟨g,3,none⟩=some (.func (.func 255) #[.pointer (some ⟨p,0,none⟩)] #[]):=(Za RD).fn (Za HM') 3
    go_wp2
    go_region_with (go_at_call 255;refine (Zfh p s' n V _ ?_).mono ?_;(first|exact (Za HMA)|exact (Za HMA).drew|exact (Za HMA).drewN _);rintro e w' ⟨rfl,hm'⟩)
    all_goals
     have HM1:=Zb hm'
     clear hm'
     go_wp2
     go_roundw
    all_goals try (simp[intOf];omega)
    all_goals
     refine⟨k+1,s'.step 3 n,by omega,by go_num,Za HM1,(MS.step_h _ _ _).trans (Za HH),?_⟩
     exact Xs hlk (Za HQ) (Za HM').good (Za HH) (Za HR)
   ·have cf:wr.cell? ⟨g,4,none⟩=some (.func (.func 256) #[.pointer (some ⟨p,0,none⟩)] #[]):=(Za RD).fn (Za HM') 4
    go_wp2
    go_region_with (go_at_call 256;refine (Zhu p s' n V _ ?_).mono ?_;(first|exact (Za HMA)|exact (Za HMA).drew|exact (Za HMA).drewN _);rintro e w' ⟨rfl,hm'⟩)
    all_goals
     have HM1:=Zb hm'
     clear hm'
     go_wp2
     go_roundw
    all_goals try (simp[intOf];omega)
    all_goals
     refine⟨k+1,s'.step 4 n,by omega,by go_num,Za HM1,(MS.step_h _ _ _).trans (Za HH),?_⟩
     exact Xs hlk (Za HQ) (Za HM').good (Za HH) (Za HR)
   ·have cf:wr.cell? ⟨g,5,none⟩=some (.func (.func 271) #[] #[.pointer (some ⟨b,0,none⟩),.pointer (some ⟨b+1,0,none⟩)]):=(Za RD).fn (Za HM') 5
    go_wp2
    go_region_with (go_at_call 271;refine (Zkw p b (b+1) s' n V _ ?_ (Za RD).box.x5.n0 (Za RD).box.x5.n1 (Nat.lt_of_succ_lt (Za RD).box.x5.lt) (Za RD).box.x5.lt (Za RD).box.x5.c0 (Za RD).box.x5.c1).mono ?_;(first|exact (Za HMA)|exact (Za HMA).drew|exact (Za HMA).drewN _);rintro e w' ⟨rfl,hm'⟩)
    all_goals
     have HM1:=Zb hm'
     clear hm'
     go_wp2
     go_roundw
    all_goals try (simp[intOf];omega)
    all_goals
     refine⟨k+1,s'.step 5 n,by omega,by go_num,Za HM1,(MS.step_h _ _ _).trans (Za HH),?_⟩
     exact Xs hlk (Za HQ) (Za HM').good (Za HH) (Za HR)
   ·have cf:wr.cell? ⟨g,6,none⟩=some (.func (.func 271) #[] #[.pointer (some ⟨b+2,0,none⟩),.pointer (some ⟨b+2+1,0,none⟩)]):=(Za RD).fn (Za HM') 6
    go_wp2
    go_region_with (go_at_call 271;refine (Zkv p (b+2) ((b+2)+1) s' n V _ ?_ (Za RD).box.x6.n0 (Za RD).box.x6.n1 (Nat.lt_of_succ_lt (Za RD).box.x6.lt) (Za RD).box.x6.lt (Za RD).box.x6.c0 (Za RD).box.x6.c1).mono ?_;(first|exact (Za HMA)|exact (Za HMA).drew|exact (Za HMA).drewN _);rintro e w' ⟨rfl,hm'⟩)
    all_goals
     have HM1:=Zb hm'
     clear hm'
     go_wp2
     go_roundw
    all_goals try (simp[intOf];omega)
    all_goals
     refine⟨k+1,s'.step 6 n,by omega,by go_num,Za HM1,(MS.step_h _ _ _).trans (Za HH),?_⟩
     exact Xs hlk (Za HQ) (Za HM').good (Za HH) (Za HR)
   ·have cf:wr.cell? ⟨g,7,none⟩=some (.func (.func 271) #[] #[.pointer (some ⟨b+4,0,none⟩),.pointer (some ⟨b+4+1,0,none⟩)]):=(Za RD).fn (Za HM') 7
    go_wp2
    go_region_with (go_at_call 271;refine (Zku p (b+4) ((b+4)+1) s' n V _ ?_ (Za RD).box.x7.n0 (Za RD).box.x7.n1 (Nat.lt_of_succ_lt (Za RD).box.x7.lt) (Za RD).box.x7.lt (Za RD).box.x7.c0 (Za RD).box.x7.c1).mono ?_;(first|exact (Za HMA)|exact (Za HMA).drew|exact (Za HMA).drewN _);rintro e w' ⟨rfl,hm'⟩)
    all_goals
     have HM1:=Zb hm'
     clear hm'
     go_wp2
     go_roundw
    all_goals try (simp[intOf];omega)
    all_goals
     refine⟨k+1,s'.step 7 n,by omega,by go_num,Za HM1,(MS.step_h _ _ _).trans (Za HH),?_⟩
     exact Xs hlk (Za HQ) (Za HM').good (Za HH) (Za HR)
   ·have cf:wr.cell? ⟨g,8,none⟩=some (.func (.func 271) #[] #[.pointer (some ⟨b+6,0,none⟩),.pointer (some ⟨b+6+1,0,none⟩)]):=(Za RD).fn (Za HM') 8
    go_wp2
    go_region_with (go_at_call 271;refine (Zkt p (b+6) ((b+6)+1) s' n V _ ?_ (Za RD).box.x8.n0 (Za RD).box.x8.n1 (Nat.lt_of_succ_lt (Za RD).box.x8.lt) (Za RD).box.x8.lt (Za RD).box.x8.c0 (Za RD).box.x8.c1).mono ?_;(first|exact (Za HMA)|exact (Za HMA).drew|exact (Za HMA).drewN _);rintro e w' ⟨rfl,hm'⟩)
    all_goals
     have HM1:=Zb hm'
     clear hm'
     go_wp2
     go_roundw
    all_goals try (simp[intOf];omega)
    all_goals
     refine⟨k+1,s'.step 8 n,by omega,by go_num,Za HM1,(MS.step_h _ _ _).trans (Za HH),?_⟩
     exact Xs hlk (Za HQ) (Za HM').good (Za HH) (Za HR)
   ·have cf:wr.cell? ⟨g,9,none⟩=some (.func (.func 272) #[] #[.pointer (some ⟨b+8,0,none⟩),.pointer (some ⟨b+8+1,0,none⟩)]):=(Za RD).fn (Za HM') 9
    go_wp2
    go_region_with (go_at_call 272;refine (Zlb p (b+8) ((b+8)+1) s' n V _ ?_ (Za RD).box.x9.n0 (Za RD).box.x9.n1 (Nat.lt_of_succ_lt (Za RD).box.x9.lt) (Za RD).box.x9.lt (Za RD).box.x9.c0 (Za RD).box.x9.c1).mono ?_;(first|exact (Za HMA)|exact (Za HMA).drew|exact (Za HMA).drewN _);rintro e w' ⟨rfl,hm'⟩)
    all_goals
     have HM1:=Zb hm'
     clear hm'
     go_wp2
     go_roundw
    all_goals try (simp[intOf];omega)
    all_goals
     refine⟨k+1,s'.step 9 n,by omega,by go_num,Za HM1,(MS.step_h _ _ _).trans (Za HH),?_⟩
     exact Xs hlk (Za HQ) (Za HM').good (Za HH) (Za HR)
   ·have cf:wr.cell? ⟨g,10,none⟩=some (.func (.func 271) #[] #[.pointer (some ⟨b+10,0,none⟩),.pointer (some ⟨b+10+1,0,none⟩)]):=(Za RD).fn (Za HM') 10
    go_wp2
    go_region_with (go_at_call 271;refine (Zks p (b+10) ((b+10)+1) s' n V _ ?_ (Za RD).box.x10.n0 (Za RD).box.x10.n1 (Nat.lt_of_succ_lt (Za RD).box.x10.lt) (Za RD).box.x10.lt (Za RD).box.x10.c0 (Za RD).box.x10.c1).mono ?_;(first|exact (Za HMA)|exact (Za HMA).drew|exact (Za HMA).drewN _);rintro e w' ⟨rfl,hm'⟩)
    all_goals
     have HM1:=Zb hm'
     clear hm'
     go_wp2
     go_roundw
    all_goals try (simp[intOf];omega)
    all_goals
     refine⟨k+1,s'.step 10 n,by omega,by go_num,Za HM1,(MS.step_h _ _ _).trans (Za HH),?_⟩
     exact Xs hlk (Za HQ) (Za HM').good (Za HH) (Za HR)
   ·have cf:wr.cell? ⟨g,11,none⟩=some (.func (.func 266) #[.pointer (some ⟨p,0,none⟩)] #[]):=(Za RD).fn (Za HM') 11
    go_wp2
    go_region_with (go_at_call 266;refine (Ef p s' n V _ ?_).mono ?_;(first|exact (Za HMA)|exact (Za HMA).drew|exact (Za HMA).drewN _);rintro e w' ⟨rfl,hm'⟩)
    all_goals
     have HM1:=Zb hm'
     clear hm'
     go_wp2
     go_roundw
    all_goals try (simp[intOf];omega)
    all_goals
     refine⟨k+1,s'.step 11 n,by omega,by go_num,Za HM1,(MS.step_h _ _ _).trans (Za HH),?_⟩
     exact Xs hlk (Za HQ) (Za HM').good (Za HH) (Za HR)
   ·have cf:wr.cell? ⟨g,12,none⟩=some (.func (.func 267) #[.pointer (some ⟨p,0,none⟩)] #[]):=(Za RD).fn (Za HM') 12
    go_wp2
    go_region_with (go_at_call 267;refine (Mn p s' n V _ ?_).mono ?_;(first|exact (Za HMA)|exact (Za HMA).drew|exact (Za HMA).drewN _);rintro e w' ⟨rfl,hm'⟩)
    all_goals
     have HM1:=Zb hm'
     clear hm'
     go_wp2
     go_roundw
    all_goals try (simp[intOf];omega)
    all_goals
     refine⟨k+1,s'.step 12 n,by omega,by go_num,Za HM1,(MS.step_h _ _ _).trans (Za HH),?_⟩
     exact Xs hlk (Za HQ) (Za HM').good (Za HH) (Za HR)
   ·have cf:wr.cell? ⟨g,13,none⟩=some (.func (.func 272) #[] #[.pointer (some ⟨b+12,0,none⟩),.pointer (some ⟨b+12+1,0,none⟩)]):=(Za RD).fn (Za HM') 13
    go_wp2
    go_region_with (go_at_call 272;refine (Zjl p (b+12) ((b+12)+1) s' n V _ ?_ (Za RD).box.x13.n0 (Za RD).box.x13.n1 (Nat.lt_of_succ_lt (Za RD).box.x13.lt) (Za RD).box.x13.lt (Za RD).box.x13.c0 (Za RD).box.x13.c1).mono ?_;(first|exact (Za HMA)|exact (Za HMA).drew|exact (Za HMA).drewN _);rintro e w' ⟨rfl,hm'⟩)
    all_goals
     have HM1:=Zb hm'
     clear hm'
     go_wp2
     go_roundw
    all_goals try (simp[intOf];omega)
    all_goals
     refine⟨k+1,s'.step 13 n,by omega,by go_num,Za HM1,(MS.step_h _ _ _).trans (Za HH),?_⟩
     exact Xs hlk (Za HQ) (Za HM').good (Za HH) (Za HR)
  ·clear hm
   go_wp2
   go_end0
   have e:k=len:=by omega
   subst e
   refine⟨rfl,s',(Za HM2).trans (Za HM'),Za HH,?_⟩
   rw[Za HR,←Za HZ,List.take_length]
end Go.Proofs.YtpikejjiignchaaGreatDoor
