/- The contract of Run: its error, and what it leaves. -/
import Derived.Test.YtmomfkikogbdeaaGreatDoorLockRunB
import Derived.Test.YtmomfkikogbdeaaGreatDoorShelf
import Derived.Test.YtmomfkikogbdeaaGreatDoorCoinPutToLockDo
set_option maxHeartbeats 1600000
namespace Go.Proofs.YtmomfkikogbdeaaGreatDoor
open Go.RowKit
theorem L3{w:World}{base:Nat}{e:TypeId}{v:Value}{n:Nat}{Z:List Int}(h:w.ownsRow base e 1 v n (Z.map (Value.int .i64))):∃ a cap,v = .slice a n cap∧RowAt w a n Z:=by
 have hl:Z.length=n:=by have:=h.1;simpa using this
 rcases h.2 with ⟨rfl,rfl⟩|⟨g,cap,cur,rfl,_,_,h1,h2,_,_⟩
 ·have e:Z=[]:=List.length_eq_zero_iff.1 hl
  subst e
  exact⟨none,0,rfl,RowAt.nil _ _⟩
 ·refine⟨_,cap,rfl,hl,Nat.le_trans h1 h2,fun _=>⟨g,0,rfl,fun i hi=>?_⟩⟩
  rw[Nat.zero_add,World.ownsRow.cellAt h i (by omega)]
  simp[hl,hi]
theorem Tryz.arr358:Tryz.prog.underlying 358=some (.array (Tryz.prog.arrayLen 358) (Tryz.prog.elem 358)):=by kernel_rfl
theorem Tryz.len358:Tryz.prog.arrayLen 358=16:=by kernel_rfl
theorem Tryz.el358:Tryz.prog.elem 358=3:=by kernel_rfl
theorem Hv(p n:Nat)(h:n≤16)(w:World):(Instr.sliceAt 358 (.pointer (some ⟨p,0,none⟩)) none (some (.int .i64 n)) none).run Tryz.prog w = .ok (.slice (some ⟨p,0,none⟩) n 16) w:=by
 rw[run_sliceAt_array_h w 358 ⟨p,0,none⟩ Tryz.arr358 .i64 n (by omega) (by rw[Tryz.len358];omega),Tryz.el358,Tryz.len358,Tryz.sizeOf3]
 simp[Result.andThen,slicedAt,Addr.add]
set_option maxRecDepth 100000 in
theorem Bj(p:Nat)(s:MS)(W w:World)(hm:Mach p s W w) :
  Calls Tryz.prog 282 #[.pointer (some ⟨p,0,none⟩)] w fun e w'=>∃ a cap,e = .returned (.slice a s.n cap)∧RowAt w' a s.n (s.cs.take s.n)∧Below w.heap.size w w':=by
 have c1:=hm.cell_n
 have hn:=hm.good.2.1
 have hl:=hm.good.1
 have HC:Hid (∀ j,j<s.cs.length→w.cell? ⟨p,0+j,none⟩=some (.int .i64 (s.cs.getD j 0))):=fun j hj=>by rw[Nat.zero_add];exact hm.cell_s j (by omega)
 have hsl:=Hv p s.n hn
 clear hm
 go_enter Tryz.func282,Tryz.ntmps282
 go_wp2
 go_region_with (go_at_call 47;refine (Tryz.slices_Clone_int p 0 s.n 16 s.cs _ ?_ ?_ ?_).mono ?_;omega;omega;exact (unhide HC);rintro e w' ⟨v,rfl,hown,hnn,hb⟩)
 all_goals
  obtain⟨a,cap,rfl,hrow⟩:=L3 hown
  have HR:=hide hrow
  have HB:Hid (Below w.heap.size w w'):=⟨hb.os,hb.tape,hb.output,hb.size,hb.block⟩
  clear hown hnn hb hrow
  go_wp2
  go_ret
  exact⟨a,cap,rfl,unhide HR,unhide HB⟩
theorem As{l:List (Int×Int)}{Z:List Int}{h:Int}(e:chk l≠0):Qc l Z h=chk l∧Rh l Z h=[]:=by
 have h1:Qc l Z h=chk l:=by unfold Qc;rw[if_neg e]
 exact⟨h1,by unfold Rh;rw[h1,if_neg e]⟩
theorem R6{l:List (Int×Int)}{Z:List Int}{h:Int}(e:chk l=0)(g:(Zx Z && hOk h)=false):Qc l Z h=3∧Rh l Z h=[]:=by
 have h1:Qc l Z h=3:=by unfold Qc;rw[if_pos e,g];rfl
 exact⟨h1,by unfold Rh;rw[h1];rfl⟩
theorem R7{l:List (Int×Int)}{Z:List Int}{h:Int}(e:chk l=0)(g:(Zx Z && hOk h)=true)(r:Xa h l Z=none):Qc l Z h=8∧Rh l Z h=[]:=by
 have h1:Qc l Z h=8:=by unfold Qc;rw[if_pos e,g,r];rfl
 exact⟨h1,by unfold Rh;rw[h1];rfl⟩
theorem Ji{l:List (Int×Int)}{Z:List Int}{h:Int}{L:List Int}(e:chk l=0)(g:(Zx Z && hOk h)=true)(r:Xa h l Z=some L):Qc l Z h=0∧Rh l Z h=L:=by
 have h1:Qc l Z h=0:=by unfold Qc;rw[if_pos e,g,r];rfl
 exact⟨h1,by unfold Rh;rw[h1,r];rfl⟩
theorem Ar(p:Nat)(s:MS)(a:Option Addr)(cap:Nat)(W w:World)(hm:Mach p s W w) :
  Calls Tryz.prog 281 #[.pointer (some ⟨p,0,none⟩),.slice a 0 cap] w fun e w'=>e = .returned (.tuple #[])∧∃ s',Mach p s' W w'∧s'.h=s.h∧s'.rep=s.rep.bind (Xa s.h []):=by
 have HM:=hide hm
 have hpw:=hm.lt
 clear hm
 go_enter Tryz.func281,Tryz.ntmps281
 go_wp2_with fail
 refine (Tf p w hpw).mono ?_
 rintro e w1 ⟨rfl,hbx,hbw⟩
 have hs1:=run_storeCells_new (P:=Tryz.prog) w1 376 #[.nilFunc,.nilFunc,.nilFunc,.nilFunc,.nilFunc,.nilFunc,.nilFunc,.nilFunc,.nilFunc,.nilFunc,.nilFunc,.nilFunc,.nilFunc,.nilFunc] (Qe p (w.heap.size+1)) Tryz.size376 rfl (by simp[Qe,met,Zam,M5,Value.oneCell'])
 have hs2:(Qe p (w.heap.size+1)).size=14:=rfl
 have hm1:Mach p s W w1:=⟨(unhide HM).good,(hbw.block p hpw).trans (unhide HM).block,fun k hk hl=>(hbw.block k (Nat.lt_of_lt_of_le hl (unhide HM).size)).trans ((unhide HM).old k hk hl),Nat.le_trans (unhide HM).size hbw.size,hbw.os.trans (unhide HM).os,hbw.tape.trans (unhide HM).tape,hbw.output.trans (unhide HM).output⟩
 have HM2:=hide (hm1.alloc (.cells (Qe p (w.heap.size+1)) 376))
 clear hbx hbw hm1
 go_wp2
 refine wp_loop_rounds 1 ?_
 rw[rounds_succ]
 go_wp2
 go_end0
 exact⟨rfl,s,unhide HM2,rfl,by cases s.rep <;> rfl⟩
theorem Bg(p:Nat)(s:MS)(a:Option Addr)(len cap:Nat)(l:List (Int×Int))(W w:World)(hm:Mach p s W w)(hp:W.heap.size≤p)(hO:OpsAt W a len l)(hck:chk l=0) :
  Calls Tryz.prog 281 #[.pointer (some ⟨p,0,none⟩),.slice a len cap] w fun e w'=>e = .returned (.tuple #[])∧∃ s',Mach p s' W w'∧s'.h=s.h∧s'.rep=s.rep.bind (Xa s.h l):=by
 obtain⟨hz,hc⟩:=hO
 have h16:len≤16:=by
  unfold chk at hck
  split at hck
  ·cases hck
  ·omega
 have hck':Vy l=0:=by
  unfold chk at hck
  split at hck
  ·cases hck
  ·exact hck
 by_cases h:len=0
 ·subst h
  have e:l=[]:=List.length_eq_zero_iff.1 hz
  subst e
  exact Ar p s a cap W w hm
 ·obtain⟨b,off,rfl,hcell⟩:=hc (by omega)
  exact Aq p s b off len cap l W w hm hp hz h16 hck' (World.block_lt_of_cell? _ _ (hcell 0 (by omega)).1) hcell
def Nz(h:Int):MS:=⟨List.replicate 16 0,0,h,false⟩
theorem Bn(h:Int):(Nz h).ok:=⟨rfl,Nat.zero_le _,fun x hx=>by rw[List.eq_of_mem_replicate hx];rfl⟩
theorem Mu(h:Int)(w:World):Mach w.heap.size (Nz h) w (w.alloc (.cells (Nz h).cells 360)) where
 good:=Bn h
 block:=heap_alloc_new _ _
 old:=fun k _ hl=>Below.heap_alloc _ _ _ hl
 size:=by simp
 os:=rfl
 tape:=rfl
 output:=rfl
theorem Ka{s:MS}{L:List Int}(h:s.rep=some L):s.f=false∧s.cs.take s.n=L:=by
 unfold MS.rep at h
 cases hf:s.f with
 | true=>rw[hf] at h;cases h
 | false=>rw[hf] at h;exact⟨rfl,by simpa using h⟩
theorem H9{s:MS}(h:s.rep=none):s.f=true:=by
 unfold MS.rep at h
 cases hf:s.f with
 | true=>rfl
 | false=>rw[hf] at h;cases h
theorem Ei(a az:Option Addr)(len cap lens caps:Nat)(l:List (Int×Int))(Z:List Int)(h:Int)(w:World)(hO:OpsAt w a len l)(hR:RowAt w az lens Z) :
  Calls Tryz.prog 253 #[.slice a len cap,.slice az lens caps,.int .i64 h] w fun e w'=>∃ a' cap',e = .returned (.tuple #[.slice a' (Rh l Z h).length cap',.int .i64 (Qc l Z h)])∧RowAt w' a' (Rh l Z h).length (Rh l Z h)∧Below w.heap.size w w':=by
 have CK:=hide (Wq a len cap l w hO)
 have HO:=hide hO
 have HR:=hide hR
 clear hO hR
 by_cases hck:chk l=0
 ·rw[hck] at CK
  have HK:=hide hck
  clear hck
  go_enter Tryz.func253,Tryz.ntmps253
  go_wp2_with fail
  refine (unhide CK).mono ?_
  rintro e w1 ⟨rfl,hb1⟩
  have HB1:=hide hb1
  have HO1:=hide ((unhide HO).later hb1)
  have HR1:=hide ((unhide HR).later hb1)
  clear hb1
  go_wp2_with fail
  refine (L4 w1.heap.size (Nz h) az lens caps Z w1 _ (Mu h w1) (Nat.le_refl _) (unhide HR1)).mono ?_
  rintro e w2 ⟨rfl,s',hm2,hh2,hr2⟩
  have hr3:s'.rep=if Zx Z then some Z else none:=hr2.trans (Ds Z)
  have hh3:s'.h=h:=hh2
  have cf:=hm2.cell_f
  have HM2:=hide hm2
  clear hr2 hh2 hm2
  cases hso:Zx Z with
  | false=>
   rw[hso] at hr3
   have hf:=H9 hr3
   have e:=R6 (h:=h) (unhide HK) (show (Zx Z && hOk h)=false by rw[hso];rfl)
   have EE:=hide e
   rw[hf] at cf
   clear e hf hr3 hh3 hso
   go_wp2
   go_ret2
   rw[(unhide EE).1,(unhide EE).2]
   exact⟨none,0,rfl,RowAt.nil _ _,(unhide HB1).trans (((unhide HM2).below (Nat.le_refl _)).mono (unhide HB1).size)⟩
  | true=>
   rw[hso] at hr3
   have hf:=Ka hr3
   rw[hf.1] at cf
   have HF:=hide hf.2
   clear hf
   cases hho:hOk h with
   | false=>
    have e:=R6 (unhide HK) (show (Zx Z && hOk h)=false by rw[hso,hho];rfl)
    have EE:=hide e
    have HH:=hide hho
    clear e hr3 hh3 hso hho
    go_wp2_with (go_at_call 252;refine (Xi h false _ (unhide HH).symm).mono ?_;rintro e w' ⟨rfl,rfl⟩)
    go_ret2
    rw[(unhide EE).1,(unhide EE).2]
    exact⟨none,0,rfl,RowAt.nil _ _,(unhide HB1).trans (((unhide HM2).below (Nat.le_refl _)).mono (unhide HB1).size)⟩
   | true=>
    have HH:=hide hho
    have HS:=hide hso
    have HR3:=hide hr3
    have HH3:=hide hh3
    clear hr3 hh3 hso hho
    go_wp2_with (go_at_call 252;refine (Xi h true _ (unhide HH).symm).mono ?_;rintro e w' ⟨rfl,rfl⟩)
    refine (Bg w1.heap.size s' a len cap l w1 _ (unhide HM2) (Nat.le_refl _) (unhide HO1) (unhide HK)).mono ?_
    rintro e w3 ⟨rfl,s3,hm3,hh4,hr4⟩
    rw[unhide HR3,unhide HH3] at hr4
    have hr5:s3.rep=Xa h l Z:=hr4
    have cf3:=hm3.cell_f
    have HM3:=hide hm3
    clear hr4 hh4 hm3 cf
    cases hrl:Xa h l Z with
    | none=>
     have hf3:=H9 (hr5.trans hrl)
     have e:=R7 (unhide HK) (show (Zx Z && hOk h)=true by rw[unhide HS,unhide HH];rfl) hrl
     have EE:=hide e
     rw[hf3] at cf3
     clear e hr5 hf3 hrl
     go_wp2
     go_ret2
     rw[(unhide EE).1,(unhide EE).2]
     exact⟨none,0,rfl,RowAt.nil _ _,(unhide HB1).trans (((unhide HM3).below (Nat.le_refl _)).mono (unhide HB1).size)⟩
    | some L=>
     have hf3:=Ka (hr5.trans hrl)
     have e:=Ji (unhide HK) (show (Zx Z && hOk h)=true by rw[unhide HS,unhide HH];rfl) hrl
     have EE:=hide e
     have hn3:s3.n=L.length:=by
      have h1:=(unhide HM3).good.1
      have h2:=(unhide HM3).good.2.1
      rw[←hf3.2,List.length_take];omega
     rw[hf3.1] at cf3
     have LF:=hide (Bj w1.heap.size s3 w1 w3 (unhide HM3))
     rw[hf3.2,hn3] at LF
     clear e hr5 hf3 hrl hn3
     go_wp2_with fail
     refine (unhide LF).mono ?_
     rintro e w4 ⟨a4,cap4,rfl,hrow,hb4⟩
     have HRW:=hide hrow
     have HB4:=hide hb4
     clear hrow hb4
     go_wp2
     go_ret2
     rw[(unhide EE).1,(unhide EE).2]
     have b3:=(unhide HM3).below (Nat.le_refl _)
     exact⟨a4,cap4,rfl,unhide HRW,(unhide HB1).trans ((b3.trans ((unhide HB4).mono b3.size)).mono (unhide HB1).size)⟩
 ·have e:=As (Z:=Z) (h:=h) hck
  rw[e.1,e.2]
  obtain⟨x,hx⟩:∃ x,x=chk l:=⟨_,rfl⟩
  rw[←hx] at hck CK ⊢
  have hx1:(x != 0)=true:=by simp[hck]
  clear e hck hx
  go_enter Tryz.func253,Tryz.ntmps253
  go_wp2_with fail
  refine (unhide CK).mono ?_
  rintro e w1 ⟨rfl,hb1⟩
  have HB1:=hide hb1
  clear hb1
  go_wp2
  go_ret2
  exact⟨none,0,rfl,RowAt.nil _ _,unhide HB1⟩
theorem Yy(a:Option Addr)(len cap:Nat)(l:List (Int×Int))(x:Int)(w:World)(hx:chk l=x)(h:OpsAt w a len l) :
  Calls Tryz.prog 249 #[.slice a len cap] w fun e w'=>e = .returned (.int .i64 x)∧Below w.heap.size w w':=by
 subst hx;exact Wq a len cap l w h
theorem R4(a az:Option Addr)(len cap lens caps:Nat)(l:List (Int×Int))(Z:List Int)(h:Int)(x:Int)(L:List Int)(w:World)(hE:Qc l Z h=x)(hS:Rh l Z h=L)(hO:OpsAt w a len l)(hR:RowAt w az lens Z) :
  Calls Tryz.prog 253 #[.slice a len cap,.slice az lens caps,.int .i64 h] w fun e w'=>∃ a' cap',e = .returned (.tuple #[.slice a' L.length cap',.int .i64 x])∧RowAt w' a' L.length L∧Below w.heap.size w w':=by
 subst hE hS;exact Ei a az len cap lens caps l Z h w hO hR
theorem Wc{w w1 w2:World}(h1:Below w.heap.size w w1)(h2:Below w1.heap.size w1 w2):Below w.heap.size w w2:=h1.trans (h2.mono h1.size)
theorem Hx{h:Int}(hh:hOk h=true):(Zx [] && hOk h)=true:=by rw[hh];rfl
theorem Pw(a b:Option Addr)(n c m d:Nat)(w:World) :
  (Instr.index 335 (.agg #[.slice a n c,.slice b m d]) (.int .i64 0)).run Tryz.prog w = .ok (.slice a n c) w ∧
  (Instr.index 335 (.agg #[.slice a n c,.slice b m d]) (.int .i64 1)).run Tryz.prog w = .ok (.slice b m d) w:=by
 constructor <;> kernel_rfl
set_option maxRecDepth 100000 in
theorem D7(a ak:Option Addr)(len cap lenk capk:Nat)(l k:List (Int×Int))(h:Int)(w:World)(hO:OpsAt w a len l)(hK:OpsAt w ak lenk k) :
  Calls Tryz.prog 206 #[.slice a len cap,.slice ak lenk capk,.int .i64 h] w fun e w'=>e = .returned (.tuple #[.bool (Yk l k h),.int .i64 (Xw l k h)])∧Below w.heap.size w w':=by
 have HO:=hide hO
 have HK:=hide hK
 have hi0:=fun w=>(Pw a ak len cap lenk capk w).1
 have hi1:=fun w=>(Pw a ak len cap lenk capk w).2
 clear hO hK
 by_cases c1:chk l=0
 ·by_cases c2:chk k=0
  ·cases c3:hOk h with
   | false=>
    have eE:Xw l k h=3:=by simp[Xw,c1,c2,c3]
    have eB:Yk l k h=false:=by simp[Yk,eE]
    rw[eE,eB]
    have C1:=hide c1
    have C2:=hide c2
    have C3:=hide c3
    clear c1 c2 c3 eE eB
    go_enter Tryz.func206,Tryz.ntmps206
    go_wp2
    refine wp_loop_rounds 3 ?_
    rw[rounds_succ]
    go_wp2_with fail
    refine (Yy a len cap l 0 _ (unhide C1) (unhide HO)).mono ?_
    rintro e w1 ⟨rfl,hb1⟩
    have HB1:=hide hb1
    clear hb1
    go_wp2
    rw[rounds_succ]
    go_wp2_with fail
    refine (Yy ak lenk capk k 0 _ (unhide C2) ((unhide HK).later (unhide HB1))).mono ?_
    rintro e w2 ⟨rfl,hb2⟩
    have HB2:=hide (Wc (unhide HB1) hb2)
    clear hb2
    go_wp2
    rw[rounds_succ]
    go_wp2_with (go_at_call 252;refine (Xi h false _ (unhide C3).symm).mono ?_;rintro e w' ⟨rfl,rfl⟩)
    go_ret2
    exact⟨rfl,unhide HB2⟩
   | true=>
    have eE:Xw l k h=0:=by simp[Xw,c1,c2,c3]
    have C1:=hide c1
    have C2:=hide c2
    have C3:=hide c3
    rw[eE]
    cases r1:Xa h k [] with
    | none=>
     have eB:Yk l k h=false:=by simp[Yk,r1]
     rw[eB]
     have R1:=hide (R7 c2 (Hx c3) r1)
     clear c1 c2 c3 eE eB r1
     go_enter Tryz.func206,Tryz.ntmps206
     go_wp2
     refine wp_loop_rounds 3 ?_
     rw[rounds_succ]
     go_wp2_with fail
     refine (Yy a len cap l 0 _ (unhide C1) (unhide HO)).mono ?_
     rintro e w1 ⟨rfl,hb1⟩
     have HB1:=hide hb1
     clear hb1
     go_wp2
     rw[rounds_succ]
     go_wp2_with fail
     refine (Yy ak lenk capk k 0 _ (unhide C2) ((unhide HK).later (unhide HB1))).mono ?_
     rintro e w2 ⟨rfl,hb2⟩
     have HB2:=hide (Wc (unhide HB1) hb2)
     clear hb2
     go_wp2
     rw[rounds_succ]
     go_wp2_with (go_at_call 252;refine (Xi h true _ (unhide C3).symm).mono ?_;rintro e w' ⟨rfl,rfl⟩)
     refine (R4 ak none lenk capk 0 0 k [] h 8 [] _ (unhide R1).1 (unhide R1).2 ((unhide HK).later (unhide HB2)) (RowAt.nil _ _)).mono ?_
     rintro e w3 ⟨a3,cap3,rfl,_,hb3⟩
     have HB3:=hide (Wc (unhide HB2) hb3)
     clear hb3
     go_wp2
     go_ret2
     exact⟨rfl,unhide HB3⟩
    | some L=>
     have sL:Zx L=true:=Nm (by rfl) r1
     have gL:(Zx L && hOk h)=true:=by rw[sL,c3];rfl
     have R1:=hide (Ji c2 (Hx c3) r1)
     cases r2:Xa h l L with
     | none=>
      have eB:Yk l k h=false:=by simp[Yk,r1,r2]
      rw[eB]
      have R2:=hide (R7 c1 gL r2)
      clear c1 c2 c3 eE eB r1 r2 sL gL
      go_enter Tryz.func206,Tryz.ntmps206
      go_wp2
      refine wp_loop_rounds 3 ?_
      rw[rounds_succ]
      go_wp2_with fail
      refine (Yy a len cap l 0 _ (unhide C1) (unhide HO)).mono ?_
      rintro e w1 ⟨rfl,hb1⟩
      have HB1:=hide hb1
      clear hb1
      go_wp2
      rw[rounds_succ]
      go_wp2_with fail
      refine (Yy ak lenk capk k 0 _ (unhide C2) ((unhide HK).later (unhide HB1))).mono ?_
      rintro e w2 ⟨rfl,hb2⟩
      have HB2:=hide (Wc (unhide HB1) hb2)
      clear hb2
      go_wp2
      rw[rounds_succ]
      go_wp2_with (go_at_call 252;refine (Xi h true _ (unhide C3).symm).mono ?_;rintro e w' ⟨rfl,rfl⟩)
      refine (R4 ak none lenk capk 0 0 k [] h 0 L _ (unhide R1).1 (unhide R1).2 ((unhide HK).later (unhide HB2)) (RowAt.nil _ _)).mono ?_
      rintro e w3 ⟨a3,cap3,rfl,hrow3,hb3⟩
      have HB3:=hide (Wc (unhide HB2) hb3)
      have HW3:=hide hrow3
      clear hb3 hrow3
      go_wp2_with fail
      refine (R4 a a3 len cap L.length cap3 l L h 8 [] _ (unhide R2).1 (unhide R2).2 ((unhide HO).later (unhide HB3)) (unhide HW3)).mono ?_
      rintro e w4 ⟨a4,cap4,rfl,_,hb4⟩
      have HB4:=hide (Wc (unhide HB3) hb4)
      clear hb4
      go_wp2
      go_ret2
      exact⟨rfl,unhide HB4⟩
     | some M=>
      have eB:Yk l k h=Kq M:=by simp[Yk,r1,r2,eE]
      rw[eB]
      have R2:=hide (Ji c1 gL r2)
      clear c1 c2 c3 eE eB r1 r2 sL gL
      go_enter Tryz.func206,Tryz.ntmps206
      go_wp2
      refine wp_loop_rounds 3 ?_
      rw[rounds_succ]
      go_wp2_with fail
      refine (Yy a len cap l 0 _ (unhide C1) (unhide HO)).mono ?_
      rintro e w1 ⟨rfl,hb1⟩
      have HB1:=hide hb1
      clear hb1
      go_wp2
      rw[rounds_succ]
      go_wp2_with fail
      refine (Yy ak lenk capk k 0 _ (unhide C2) ((unhide HK).later (unhide HB1))).mono ?_
      rintro e w2 ⟨rfl,hb2⟩
      have HB2:=hide (Wc (unhide HB1) hb2)
      clear hb2
      go_wp2
      rw[rounds_succ]
      go_wp2_with (go_at_call 252;refine (Xi h true _ (unhide C3).symm).mono ?_;rintro e w' ⟨rfl,rfl⟩)
      refine (R4 ak none lenk capk 0 0 k [] h 0 L _ (unhide R1).1 (unhide R1).2 ((unhide HK).later (unhide HB2)) (RowAt.nil _ _)).mono ?_
      rintro e w3 ⟨a3,cap3,rfl,hrow3,hb3⟩
      have HB3:=hide (Wc (unhide HB2) hb3)
      have HW3:=hide hrow3
      clear hb3 hrow3
      go_wp2_with fail
      refine (R4 a a3 len cap L.length cap3 l L h 0 M _ (unhide R2).1 (unhide R2).2 ((unhide HO).later (unhide HB3)) (unhide HW3)).mono ?_
      rintro e w4 ⟨a4,cap4,rfl,hrow4,hb4⟩
      have HB4:=hide (Wc (unhide HB3) hb4)
      have HE:Hid (∀ b:Bool,b=Kq M→Ending.returned (.tuple #[.bool b,.int .i64 0]) = .returned (.tuple #[.bool (Kq M),.int .i64 0])):=fun b hb=>by rw[hb]
      clear hb4
      by_cases m1:M.length=1
      ·obtain⟨y,rfl⟩:=List.length_eq_one_iff.1 m1
       obtain⟨b4,o4,rfl,hc4⟩:=hrow4.2.2 (by simp)
       have c4:w4.cell? ⟨b4,o4,none⟩=some (.int .i64 y):=hc4 0 (by simp)
       have HY:Hid ((y != 0)=Kq [y]):=by simp[Kq,U8,Hid]
       clear hc4 hrow4 m1
       go_wp2
       go_ret2
       exact⟨(unhide HE) _ (unhide HY),unhide HB4⟩
      ·have m2:((M.length:Int) == 1)=false:=by simp;omega
       have HY:Hid (false=Kq M):=by simp[Kq,m1,Hid]
       clear hrow4 m1
       go_wp2
       go_ret2
       exact⟨(unhide HE) _ (unhide HY),unhide HB4⟩
  ·have eE:Xw l k h=chk k:=by simp[Xw,c1,c2]
   have eB:Yk l k h=false:=by simp[Yk,eE,c2]
   rw[eE,eB]
   obtain⟨x,hx⟩:∃ x,chk k=x:=⟨_,rfl⟩
   rw[hx] at c2 ⊢
   have g2:(x != 0)=true:=by simp[c2]
   have C1:=hide c1
   have C2:=hide hx
   clear c1 c2 hx eE eB
   go_enter Tryz.func206,Tryz.ntmps206
   go_wp2
   refine wp_loop_rounds 3 ?_
   rw[rounds_succ]
   go_wp2_with fail
   refine (Yy a len cap l 0 _ (unhide C1) (unhide HO)).mono ?_
   rintro e w1 ⟨rfl,hb1⟩
   have HB1:=hide hb1
   clear hb1
   go_wp2
   rw[rounds_succ]
   go_wp2_with fail
   refine (Yy ak lenk capk k x _ (unhide C2) ((unhide HK).later (unhide HB1))).mono ?_
   rintro e w2 ⟨rfl,hb2⟩
   have HB2:=hide (Wc (unhide HB1) hb2)
   clear hb2
   go_wp2
   go_ret2
   exact⟨rfl,unhide HB2⟩
 ·have eE:Xw l k h=chk l:=by simp[Xw,c1]
  have eB:Yk l k h=false:=by simp[Yk,eE,c1]
  rw[eE,eB]
  obtain⟨x,hx⟩:∃ x,chk l=x:=⟨_,rfl⟩
  rw[hx] at c1 ⊢
  have g2:(x != 0)=true:=by simp[c1]
  have C1:=hide hx
  clear c1 hx eE eB
  go_enter Tryz.func206,Tryz.ntmps206
  go_wp2
  refine wp_loop_rounds 3 ?_
  rw[rounds_succ]
  go_wp2_with fail
  refine (Yy a len cap l x _ (unhide C1) (unhide HO)).mono ?_
  rintro e w1 ⟨rfl,hb1⟩
  have HB1:=hide hb1
  clear hb1
  go_wp2
  go_ret2
  exact⟨rfl,unhide HB1⟩
def Ws:CV:=((0,0,0,[],0,false),none,0,0)
theorem Vt(T R:List CV)(z:CV)(j:Nat)(hj:j<6):(Zh (T++z :: R))[T.length*6+j]? = (Hw z)[j]?:=by
 rw[Z0,List.getElem?_append_right (by rw[Zv];omega),Zv,Nat.add_sub_cancel_left,show z :: R=[z]++R from rfl,Z0,List.getElem?_append_left (by rw[Zv];simpa using hj),Bo]
theorem Uz(T R:List CV)(z y:CV):((((((Zh (T++z :: R)).set (T.length*6) (.int .i64 y.1.1)).set (T.length*6+1) (.int .i64 y.1.2.1)).set (T.length*6+2) (.int .i64 (cv y.1))).set (T.length*6+3) (.slice y.2.1 y.2.2.1 y.2.2.2)).set (T.length*6+4) (.int .i64 (ch y.1))).set (T.length*6+5) (.bool (cr y.1))=Zh (T++y :: R):=by
 rw[Z0,Z0]
 have e:=Zv T
 rw[←e]
 simp only[Zh,List.set_append_right _ _ (Nat.le_refl _),List.set_append_right _ _ (Nat.le_add_right _ _),Nat.sub_self,Nat.add_sub_cancel_left,List.set_cons_zero,List.set_cons_succ]
theorem Ff(n:Nat):(madeCells zeroC.cells (n*6)).toList=Zh (List.replicate n Ws):=by
 apply List.ext_getElem?
 intro j
 by_cases hj:j<n*6
 ·obtain⟨f0,f1,f2,f3,f4,f5⟩:=Q5 (List.replicate n Ws) (j / 6) (by rw[List.length_replicate];omega)
  rw[List.getElem_replicate] at f0 f1 f2 f3 f4 f5
  have hz:zeroC.cells=zeroCs.toArray:=rfl
  have hL:(madeCells zeroC.cells (n*6)).toList[j]? = zeroCs[j % 6]?:=by
   have hs:zeroCs.length=6:=rfl
   have h6:j % 6<6:=by omega
   simp[madeCells,hj,hz,hs,h6]
  rw[hL]
  obtain⟨i,r,rfl,hr⟩:∃ i r,j=i*6+r∧r<6:=⟨j / 6,j % 6,by omega,by omega⟩
  rw[show (i*6+r) / 6=i by omega] at f0 f1 f2 f3 f4 f5
  rw[show (i*6+r) % 6=r by omega]
  match r,hr with
  | 0,_=>exact f0.symm
  | 1,_=>exact f1.symm
  | 2,_=>exact f2.symm
  | 3,_=>exact f3.symm
  | 4,_=>exact f4.symm
  | 5,_=>exact f5.symm
 ·rw[List.getElem?_eq_none (by simp[madeCells];omega),List.getElem?_eq_none (by rw[Zv,List.length_replicate];omega)]
theorem Ni{w:World}{base g n c:Nat}{xs:List Value}(h:w.ownsRow base 124 6 (.slice (some ⟨g,0,none⟩) n c) n xs)(b:Nat)(a0 a1 a2 a3 a4 a5:Value) :
  ((((((w.setCell ⟨g,b,none⟩ a0).setCell ⟨g,b+1,none⟩ a1).setCell ⟨g,b+2,none⟩ a2).setCell ⟨g,b+3,none⟩ a3).setCell ⟨g,b+4,none⟩ a4).setCell ⟨g,b+5,none⟩ a5).ownsRow base 124 6 (.slice (some ⟨g,0,none⟩) n c) n ((((((xs.set b a0).set (b+1) a1).set (b+2) a2).set (b+3) a3).set (b+4) a4).set (b+5) a5):=
 ((((((h.stored b a0).1.stored (b+1) a1).1.stored (b+2) a2).1.stored (b+3) a3).1.stored (b+4) a4).1.stored (b+5) a5).1
theorem Gr.sixAt{w w1:World}{S:Nat→Prop}(h:Gr w w1 S)(b i:Nat)(hb:S b∨w.heap.size≤b)(a0 a1 a2 a3 a4 a5:Value):Gr w ((((((w1.setCell ⟨b,i,none⟩ a0).setCell ⟨b,i+1,none⟩ a1).setCell ⟨b,i+2,none⟩ a2).setCell ⟨b,i+3,none⟩ a3).setCell ⟨b,i+4,none⟩ a4).setCell ⟨b,i+5,none⟩ a5) S:=
 (((((h.one b i hb a0).one b (i+1) hb a1).one b (i+2) hb a2).one b (i+3) hb a3).one b (i+4) hb a4).one b (i+5) hb a5
theorem Gf(h:Int)(I:List InD)(k:Nat)(hk:k<I.length)(S L:List Zd)(ht:Wt (I[k].1,I[k].2.1) L=none):Zk h (I.drop k) S L=(7,[],[]):=by
 rw[List.drop_eq_getElem_cons hk,Zk,ht]
theorem Gg(h:Int)(I:List InD)(k:Nat)(hk:k<I.length)(S L M:List Zd)(c:Zd)(ht:Wt (I[k].1,I[k].2.1) L=some (c,M))(hl:cr c=true∧h<ch c+2):Zk h (I.drop k) S L=(10,[],[]):=by
 rw[List.drop_eq_getElem_cons hk,Zk,ht];simp only;rw[if_pos hl]
theorem Ht(h:Int)(I:List InD)(k:Nat)(hk:k<I.length)(S L M:List Zd)(c:Zd)(ht:Wt (I[k].1,I[k].2.1) L=some (c,M))(hl:¬(cr c=true∧h<ch c+2))(ho:Yk (ck c) I[k].2.2 h=false):Zk h (I.drop k) S L=(8,[],[]):=by
 rw[List.drop_eq_getElem_cons hk,Zk,ht];simp only;rw[if_neg hl,if_pos ho]
theorem L0(h:Int)(I:List InD)(k:Nat)(hk:k<I.length)(S L M:List Zd)(c:Zd)(ht:Wt (I[k].1,I[k].2.1) L=some (c,M))(hl:¬(cr c=true∧h<ch c+2))(ho:Yk (ck c) I[k].2.2 h=true):Zk h (I.drop k) S L=Zk h (I.drop (k+1)) (S++[c]) M:=by
 rw[List.drop_eq_getElem_cons hk,Zk,ht];simp only;rw[if_neg hl,if_neg (by rw[ho];decide)]
theorem Hu(h:Int)(I:List InD)(k:Nat)(hk:I.length≤k)(S L:List Zd):Zk h (I.drop k) S L=(0,S,L):=by
 rw[List.drop_of_length_le hk,Zk]
theorem Dh{q:PtD}{L M:List Zd}{c:Zd}(h:Wt q L=some (c,M))(hs:Srt L):Srt M:=by
 rw[(U9 h).2.2];exact hs.filter _
theorem A7{l k:List (Int×Int)}{h:Int}(q:Yk l k h=true):Xw l k h=0:=by
 unfold Yk at q
 rw[Bool.and_eq_true,decide_eq_true_eq] at q
 exact q.1
theorem A6(a ak:Option Addr)(len cap lenk capk:Nat)(l k:List (Int×Int))(h:Int)(b:Bool)(x:Int)(w:World)(hO:OpsAt w a len l)(hK:OpsAt w ak lenk k)(hb:Yk l k h=b)(hx:Xw l k h=x) :
  Calls Tryz.prog 206 #[.slice a len cap,.slice ak lenk capk,.int .i64 h] w fun e w'=>e = .returned (.tuple #[.bool b,.int .i64 x])∧Below w.heap.size w w':=by
 subst hb hx;exact D7 a ak len cap lenk capk l k h w hO hK
end Go.Proofs.YtmomfkikogbdeaaGreatDoor
