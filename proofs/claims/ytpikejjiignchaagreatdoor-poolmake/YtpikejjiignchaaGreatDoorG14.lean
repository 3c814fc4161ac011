import Derived.Test.YtpikejjiignchaaGreatDoorG1
import Derived.Test.YtpikejjiignchaaGreatDoorG13
set_option maxHeartbeats 1600000
namespace Go.Proofs.YtpikejjiignchaaGreatDoor
open Go.RowKit
theorem Aa{w:World}{base:Nat}{e:TypeId}{v:Value}{n:Nat}{Z:List Int}(h:w.ownsRow base e 1 v n (Z.map (Value.int .i64))):∃ a cap,v = .slice a n cap∧RowAt w a n Z:=by
 have hl:Z.length=n:=by have:=h.1;simpa using this
 rcases h.2 with ⟨rfl,rfl⟩|⟨g,cap,cur,rfl,_,_,h1,h2,_,_⟩
 ·have e:Z=[]:=List.length_eq_zero_iff.1 hl
  subst e
  exact⟨none,0,rfl,RowAt.nil _ _⟩
 ·refine⟨_,cap,rfl,hl,Nat.le_trans h1 h2,fun _=>⟨g,0,rfl,fun i hi=>?_⟩⟩
  rw[Nat.zero_add,World.ownsRow.cellAt h i (by omega)]
  simp[hl,hi]
theorem Tryz.arr317:Tryz.prog.underlying 317=some (.array (Tryz.prog.arrayLen 317) (Tryz.prog.elem 317)):=by kernel_rfl
theorem Tryz.len317:Tryz.prog.arrayLen 317=16:=by kernel_rfl
theorem Tryz.el317:Tryz.prog.elem 317=3:=by kernel_rfl
theorem Nm(p n:Nat)(h:n≤16)(w:World):(Instr.sliceAt 317 (.pointer (some ⟨p,0,none⟩)) none (some (.int .i64 n)) none).run Tryz.prog w = .ok (.slice (some ⟨p,0,none⟩) n 16) w:=by
 rw[run_sliceAt_array_h w 317 ⟨p,0,none⟩ Tryz.arr317 .i64 n (by omega) (by rw[Tryz.len317];omega),Tryz.el317,Tryz.len317,Tryz.sizeOf3]
 simp[Result.andThen,slicedAt,Addr.add]
set_option maxRecDepth 100000 in
theorem Zdd(p:Nat)(s:MS)(W w:World)(hm:Mach p s W w) :
  Calls Tryz.prog 232 #[.pointer (some ⟨p,0,none⟩)] w fun e w'=>∃ a cap,e = .returned (.slice a s.n cap)∧RowAt w' a s.n (s.cs.take s.n)∧Below w.heap.size w w':=by
 have c1:=hm.cell_n
 have hn:=hm.good.2.1
 have hl:=hm.good.1
 have HC:Hid (∀ j,j<s.cs.length→w.cell? ⟨p,0+j,none⟩=some (.int .i64 (s.cs.getD j 0))):=fun j hj=>by rw[Nat.zero_add];exact hm.cell_s j (by omega)
 have hsl:=Nm p s.n hn
 clear hm
 go_enter Tryz.func232,Tryz.ntmps232
 go_wp2
 go_region_with (go_at_call 129;refine (Tryz.slices_Clone_int p 0 s.n 16 s.cs _ ?_ ?_ ?_).mono ?_;omega;omega;exact (Za HC);rintro e w' ⟨v,rfl,hown,hnn,hb⟩)
 all_goals
  obtain⟨a,cap,rfl,hrow⟩:=Aa hown
  have HR:=Zb hrow
  have HB:Hid (Below w.heap.size w w'):=⟨hb.os,hb.tape,hb.output,hb.size,hb.block⟩
  clear hown hnn hb hrow
  go_wp2
  go_ret
  exact⟨a,cap,rfl,Za HR,Za HB⟩
theorem Zcc{l:List (Int×Int)}{Z:List Int}{h:Int}(e:chk l≠0):Rf l Z h=chk l∧Pv l Z h=[]:=by
 have h1:Rf l Z h=chk l:=by unfold Rf;rw[if_neg e]
 exact⟨h1,by unfold Pv;rw[h1,if_neg e]⟩
theorem Gp{l:List (Int×Int)}{Z:List Int}{h:Int}(e:chk l=0)(g:(Z8 Z && hOk h)=false):Rf l Z h=3∧Pv l Z h=[]:=by
 have h1:Rf l Z h=3:=by unfold Rf;rw[if_pos e,g];rfl
 exact⟨h1,by unfold Pv;rw[h1];rfl⟩
theorem Gq{l:List (Int×Int)}{Z:List Int}{h:Int}(e:chk l=0)(g:(Z8 Z && hOk h)=true)(r:Yv h l Z=none):Rf l Z h=8∧Pv l Z h=[]:=by
 have h1:Rf l Z h=8:=by unfold Rf;rw[if_pos e,g,r];rfl
 exact⟨h1,by unfold Pv;rw[h1];rfl⟩
theorem T7{l:List (Int×Int)}{Z:List Int}{h:Int}{L:List Int}(e:chk l=0)(g:(Z8 Z && hOk h)=true)(r:Yv h l Z=some L):Rf l Z h=0∧Pv l Z h=L:=by
 have h1:Rf l Z h=0:=by unfold Rf;rw[if_pos e,g,r];rfl
 exact⟨h1,by unfold Pv;rw[h1,r];rfl⟩
theorem Zcb(p:Nat)(s:MS)(a:Option Addr)(cap:Nat)(W w:World)(hm:Mach p s W w) :
  Calls Tryz.prog 231 #[.pointer (some ⟨p,0,none⟩),.slice a 0 cap] w fun e w'=>e = .returned (.tuple #[])∧∃ s',Mach p s' W w'∧s'.h=s.h∧s'.rep=s.rep.bind (Yv s.h []):=by
 have HM:=Zb hm
 have hpw:=hm.lt
 clear hm
 go_enter Tryz.func231,Tryz.ntmps231
 go_wp2_with fail
 refine (G2 p w hpw).mono ?_
 rintro e w1 ⟨rfl,hbx,hbw⟩
 have hs1:=run_storeCells_new (P:=Tryz.prog) w1 344 #[.nilFunc,.nilFunc,.nilFunc,.nilFunc,.nilFunc,.nilFunc,.nilFunc,.nilFunc,.nilFunc,.nilFunc,.nilFunc,.nilFunc,.nilFunc,.nilFunc] (Rk p (w.heap.size+1)) Tryz.size344 rfl (by simp[Rk,met,Zgj,Ba,Value.oneCell'])
 have hs2:(Rk p (w.heap.size+1)).size=14:=rfl
 have hm1:Mach p s W w1:=⟨(Za HM).good,(hbw.block p hpw).trans (Za HM).block,fun k hk hl=>(hbw.block k (Nat.lt_of_lt_of_le hl (Za HM).size)).trans ((Za HM).old k hk hl),Nat.le_trans (Za HM).size hbw.size,hbw.os.trans (Za HM).os,hbw.tape.trans (Za HM).tape,hbw.output.trans (Za HM).output⟩
 have HM2:=Zb (hm1.alloc (.cells (Rk p (w.heap.size+1)) 344))
 clear hbx hbw hm1
 go_wp2
 refine wp_loop_rounds 1 ?_
 rw[rounds_succ]
 go_wp2
 go_end0
 exact⟨rfl,s,Za HM2,rfl,by cases s.rep <;> rfl⟩
theorem Zcy(p:Nat)(s:MS)(a:Option Addr)(len cap:Nat)(l:List (Int×Int))(W w:World)(hm:Mach p s W w)(hp:W.heap.size≤p)(hO:OpsAt W a len l)(hck:chk l=0) :
  Calls Tryz.prog 231 #[.pointer (some ⟨p,0,none⟩),.slice a len cap] w fun e w'=>e = .returned (.tuple #[])∧∃ s',Mach p s' W w'∧s'.h=s.h∧s'.rep=s.rep.bind (Yv s.h l):=by
 obtain⟨hz,hc⟩:=hO
 have h16:len≤16:=by
  unfold chk at hck
  split at hck
  ·cases hck
  ·omega
 have hck':Vg l=0:=by
  unfold chk at hck
  split at hck
  ·cases hck
  ·exact hck
 by_cases h:len=0
 ·subst h
  have e:l=[]:=List.length_eq_zero_iff.1 hz
  subst e
  exact Zcb p s a cap W w hm
 ·obtain⟨b,off,rfl,hcell⟩:=hc (by omega)
  exact Zca p s b off len cap l W w hm hp hz h16 hck' (World.block_lt_of_cell? _ _ (hcell 0 (by omega)).1) hcell
def Ci(h:Int):MS:=⟨List.replicate 16 0,0,h,false⟩
theorem Zdn(h:Int):(Ci h).ok:=⟨rfl,Nat.zero_le _,fun x hx=>by rw[List.eq_of_mem_replicate hx];rfl⟩
theorem As(h:Int)(w:World):Mach w.heap.size (Ci h) w (w.alloc (.cells (Ci h).cells 319)) where
 good:=Zdn h
 block:=heap_alloc_new _ _
 old:=fun k _ hl=>Below.heap_alloc _ _ _ hl
 size:=by simp
 os:=rfl
 tape:=rfl
 output:=rfl
theorem Nz{s:MS}{L:List Int}(h:s.rep=some L):s.f=false∧s.cs.take s.n=L:=by
 unfold MS.rep at h
 cases hf:s.f with
 | true=>rw[hf] at h;cases h
 | false=>rw[hf] at h;exact⟨rfl,by simpa using h⟩
theorem Ny{s:MS}(h:s.rep=none):s.f=true:=by
 unfold MS.rep at h
 cases hf:s.f with
 | true=>rfl
 | false=>rw[hf] at h;cases h
theorem Zez(a az:Option Addr)(len cap lens caps:Nat)(l:List (Int×Int))(Z:List Int)(h:Int)(w:World)(hO:OpsAt w a len l)(hR:RowAt w az lens Z) :
  Calls Tryz.prog 196 #[.slice a len cap,.slice az lens caps,.int .i64 h] w fun e w'=>∃ a' cap',e = .returned (.tuple #[.slice a' (Pv l Z h).length cap',.int .i64 (Rf l Z h)])∧RowAt w' a' (Pv l Z h).length (Pv l Z h)∧Below w.heap.size w w':=by
 have CK:=Zb (Ua a len cap l w hO)
 have HO:=Zb hO
 have HR:=Zb hR
 clear hO hR
 by_cases hck:chk l=0
 ·rw[hck] at CK
  have HK:=Zb hck
  clear hck
  go_enter Tryz.func196,Tryz.ntmps196
  go_wp2_with fail
  refine (Za CK).mono ?_
  rintro e w1 ⟨rfl,hb1⟩
  have HB1:=Zb hb1
  have HO1:=Zb ((Za HO).later hb1)
  have HR1:=Zb ((Za HR).later hb1)
  clear hb1
  go_wp2_with fail
  refine (Ab w1.heap.size (Ci h) az lens caps Z w1 _ (As h w1) (Nat.le_refl _) (Za HR1)).mono ?_
  rintro e w2 ⟨rfl,s',hm2,hh2,hr2⟩
  have hr3:s'.rep=if Z8 Z then some Z else none:=hr2.trans (Er Z)
  have hh3:s'.h=h:=hh2
  have cf:=hm2.cell_f
  have HM2:=Zb hm2
  clear hr2 hh2 hm2
  cases hso:Z8 Z with
  | false=>
   rw[hso] at hr3
   have hf:=Ny hr3
   have e:=Gp (h:=h) (Za HK) (show (Z8 Z && hOk h)=false by rw[hso];rfl)
   have EE:=Zb e
   rw[hf] at cf
   clear e hf hr3 hh3 hso
   go_wp2
   go_ret2
   rw[(Za EE).1,(Za EE).2]
   exact⟨none,0,rfl,RowAt.nil _ _,(Za HB1).trans (((Za HM2).below (Nat.le_refl _)).mono (Za HB1).size)⟩
  | true=>
   rw[hso] at hr3
   have hf:=Nz hr3
   rw[hf.1] at cf
   have HF:=Zb hf.2
   clear hf
   cases hho:hOk h with
   | false=>
    have e:=Gp (Za HK) (show (Z8 Z && hOk h)=false by rw[hso,hho];rfl)
    have EE:=Zb e
    have HH:=Zb hho
    clear e hr3 hh3 hso hho
    go_wp2_with (go_at_call 195;refine (Ws h false _ (Za HH).symm).mono ?_;rintro e w' ⟨rfl,rfl⟩)
    go_ret2
    rw[(Za EE).1,(Za EE).2]
    exact⟨none,0,rfl,RowAt.nil _ _,(Za HB1).trans (((Za HM2).below (Nat.le_refl _)).mono (Za HB1).size)⟩
   | true=>
    have HH:=Zb hho
    have HS:=Zb hso
    have HR3:=Zb hr3
    have HH3:=Zb hh3
    clear hr3 hh3 hso hho
    go_wp2_with (go_at_call 195;refine (Ws h true _ (Za HH).symm).mono ?_;rintro e w' ⟨rfl,rfl⟩)
    refine (Zcy w1.heap.size s' a len cap l w1 _ (Za HM2) (Nat.le_refl _) (Za HO1) (Za HK)).mono ?_
    rintro e w3 ⟨rfl,s3,hm3,hh4,hr4⟩
    rw[Za HR3,Za HH3] at hr4
    have hr5:s3.rep=Yv h l Z:=hr4
    have cf3:=hm3.cell_f
    have HM3:=Zb hm3
    clear hr4 hh4 hm3 cf
    cases hrl:Yv h l Z with
    | none=>
     have hf3:=Ny (hr5.trans hrl)
     have e:=Gq (Za HK) (show (Z8 Z && hOk h)=true by rw[Za HS,Za HH];rfl) hrl
     have EE:=Zb e
     rw[hf3] at cf3
     clear e hr5 hf3 hrl
     go_wp2
     go_ret2
     rw[(Za EE).1,(Za EE).2]
     exact⟨none,0,rfl,RowAt.nil _ _,(Za HB1).trans (((Za HM3).below (Nat.le_refl _)).mono (Za HB1).size)⟩
    | some L=>
     have hf3:=Nz (hr5.trans hrl)
     have e:=T7 (Za HK) (show (Z8 Z && hOk h)=true by rw[Za HS,Za HH];rfl) hrl
     have EE:=Zb e
     have hn3:s3.n=L.length:=by
      have h1:=(Za HM3).good.1
      have h2:=(Za HM3).good.2.1
      rw[←hf3.2,List.length_take];omega
     rw[hf3.1] at cf3
     have LF:=Zb (Zdd w1.heap.size s3 w1 w3 (Za HM3))
     rw[hf3.2,hn3] at LF
     clear e hr5 hf3 hrl hn3
     go_wp2_with fail
     refine (Za LF).mono ?_
     rintro e w4 ⟨a4,cap4,rfl,hrow,hb4⟩
     have HRW:=Zb hrow
     have HB4:=Zb hb4
     clear hrow hb4
     go_wp2
     go_ret2
     rw[(Za EE).1,(Za EE).2]
     have b3:=(Za HM3).below (Nat.le_refl _)
     exact⟨a4,cap4,rfl,Za HRW,(Za HB1).trans ((b3.trans ((Za HB4).mono b3.size)).mono (Za HB1).size)⟩
 ·have e:=Zcc (Z:=Z) (h:=h) hck
  rw[e.1,e.2]
  obtain⟨x,hx⟩:∃ x,x=chk l:=⟨_,rfl⟩
  rw[←hx] at hck CK ⊢
  have hx1:(x != 0)=true:=by simp[hck]
  clear e hck hx
  go_enter Tryz.func196,Tryz.ntmps196
  go_wp2_with fail
  refine (Za CK).mono ?_
  rintro e w1 ⟨rfl,hb1⟩
  have HB1:=Zb hb1
  clear hb1
  go_wp2
  go_ret2
  exact⟨none,0,rfl,RowAt.nil _ _,Za HB1⟩
theorem Xz(a:Option Addr)(len cap:Nat)(l:List (Int×Int))(x:Int)(w:World)(hx:chk l=x)(h:OpsAt w a len l) :
  Calls Tryz.prog 185 #[.slice a len cap] w fun e w'=>e = .returned (.int .i64 x)∧Below w.heap.size w w':=by
 subst hx;exact Ua a len cap l w h
theorem Gm(a az:Option Addr)(len cap lens caps:Nat)(l:List (Int×Int))(Z:List Int)(h:Int)(x:Int)(L:List Int)(w:World)(hE:Rf l Z h=x)(hS:Pv l Z h=L)(hO:OpsAt w a len l)(hR:RowAt w az lens Z) :
  Calls Tryz.prog 196 #[.slice a len cap,.slice az lens caps,.int .i64 h] w fun e w'=>∃ a' cap',e = .returned (.tuple #[.slice a' L.length cap',.int .i64 x])∧RowAt w' a' L.length L∧Below w.heap.size w w':=by
 subst hE hS;exact Zez a az len cap lens caps l Z h w hO hR
theorem Vk{w w1 w2:World}(h1:Below w.heap.size w w1)(h2:Below w1.heap.size w1 w2):Below w.heap.size w w2:=h1.trans (h2.mono h1.size)
theorem Ns{h:Int}(hh:hOk h=true):(Z8 [] && hOk h)=true:=by rw[hh];rfl
theorem Lm(a b:Option Addr)(n c m d:Nat)(w:World) :
  (Instr.index 282 (.agg #[.slice a n c,.slice b m d]) (.int .i64 0)).run Tryz.prog w = .ok (.slice a n c) w ∧
  (Instr.index 282 (.agg #[.slice a n c,.slice b m d]) (.int .i64 1)).run Tryz.prog w = .ok (.slice b m d) w:=by
 constructor <;> kernel_rfl
set_option maxRecDepth 100000 in
theorem E8(a ak:Option Addr)(len cap lenk capk:Nat)(l k:List (Int×Int))(h:Int)(w:World)(hO:OpsAt w a len l)(hK:OpsAt w ak lenk k) :
  Calls Tryz.prog 170 #[.slice a len cap,.slice ak lenk capk,.int .i64 h] w fun e w'=>e = .returned (.tuple #[.bool (Yw l k h),.int .i64 (Ww l k h)])∧Below w.heap.size w w':=by
 have HO:=Zb hO
 have HK:=Zb hK
 have hi0:=fun w=>(Lm a ak len cap lenk capk w).1
 have hi1:=fun w=>(Lm a ak len cap lenk capk w).2
 clear hO hK
 by_cases c1:chk l=0
 ·by_cases c2:chk k=0
  ·cases c3:hOk h with
   | false=>
    have eE:Ww l k h=3:=by simp[Ww,c1,c2,c3]
    have eB:Yw l k h=false:=by simp[Yw,eE]
    rw[eE,eB]
    have C1:=Zb c1
    have C2:=Zb c2
    have C3:=Zb c3
    clear c1 c2 c3 eE eB
    go_enter Tryz.func170,Tryz.ntmps170
    go_wp2
    refine wp_loop_rounds 3 ?_
    rw[rounds_succ]
    go_wp2_with fail
    refine (Xz a len cap l 0 _ (Za C1) (Za HO)).mono ?_
    rintro e w1 ⟨rfl,hb1⟩
    have HB1:=Zb hb1
    clear hb1
    go_wp2
    rw[rounds_succ]
    go_wp2_with fail
    refine (Xz ak lenk capk k 0 _ (Za C2) ((Za HK).later (Za HB1))).mono ?_
    rintro e w2 ⟨rfl,hb2⟩
    have HB2:=Zb (Vk (Za HB1) hb2)
    clear hb2
    go_wp2
    rw[rounds_succ]
    go_wp2_with (go_at_call 195;refine (Ws h false _ (Za C3).symm).mono ?_;rintro e w' ⟨rfl,rfl⟩)
    go_ret2
    exact⟨rfl,Za HB2⟩
   | true=>
    have eE:Ww l k h=0:=by simp[Ww,c1,c2,c3]
    have C1:=Zb c1
    have C2:=Zb c2
    have C3:=Zb c3
    rw[eE]
    cases r1:Yv h k [] with
    | none=>
     have eB:Yw l k h=false:=by simp[Yw,r1]
     rw[eB]
     have R1:=Zb (Gq c2 (Ns c3) r1)
     clear c1 c2 c3 eE eB r1
     go_enter Tryz.func170,Tryz.ntmps170
     go_wp2
     refine wp_loop_rounds 3 ?_
     rw[rounds_succ]
     go_wp2_with fail
     refine (Xz a len cap l 0 _ (Za C1) (Za HO)).mono ?_
     rintro e w1 ⟨rfl,hb1⟩
     have HB1:=Zb hb1
     clear hb1
     go_wp2
     rw[rounds_succ]
     go_wp2_with fail
     refine (Xz ak lenk capk k 0 _ (Za C2) ((Za HK).later (Za HB1))).mono ?_
     rintro e w2 ⟨rfl,hb2⟩
     have HB2:=Zb (Vk (Za HB1) hb2)
     clear hb2
     go_wp2
     rw[rounds_succ]
     go_wp2_with (go_at_call 195;refine (Ws h true _ (Za C3).symm).mono ?_;rintro e w' ⟨rfl,rfl⟩)
     refine (Gm ak none lenk capk 0 0 k [] h 8 [] _ (Za R1).1 (Za R1).2 ((Za HK).later (Za HB2)) (RowAt.nil _ _)).mono ?_
     rintro e w3 ⟨a3,cap3,rfl,_,hb3⟩
     have HB3:=Zb (Vk (Za HB2) hb3)
     clear hb3
     go_wp2
     go_ret2
     exact⟨rfl,Za HB3⟩
    | some L=>
     have sL:Z8 L=true:=P9 (by rfl) r1
     have gL:(Z8 L && hOk h)=true:=by rw[sL,c3];rfl
     have R1:=Zb (T7 c2 (Ns c3) r1)
     cases r2:Yv h l L with
     | none=>
      have eB:Yw l k h=false:=by simp[Yw,r1,r2]
      rw[eB]
      have R2:=Zb (Gq c1 gL r2)
      clear c1 c2 c3 eE eB r1 r2 sL gL
      go_enter Tryz.func170,Tryz.ntmps170
      go_wp2
      refine wp_loop_rounds 3 ?_
      rw[rounds_succ]
      go_wp2_with fail
      refine (Xz a len cap l 0 _ (Za C1) (Za HO)).mono ?_
      rintro e w1 ⟨rfl,hb1⟩
      have HB1:=Zb hb1
      clear hb1
      go_wp2
      rw[rounds_succ]
      go_wp2_with fail
      refine (Xz ak lenk capk k 0 _ (Za C2) ((Za HK).later (Za HB1))).mono ?_
      rintro e w2 ⟨rfl,hb2⟩
      have HB2:=Zb (Vk (Za HB1) hb2)
      clear hb2
      go_wp2
      rw[rounds_succ]
      go_wp2_with (go_at_call 195;refine (Ws h true _ (Za C3).symm).mono ?_;rintro e w' ⟨rfl,rfl⟩)
      refine (Gm ak none lenk capk 0 0 k [] h 0 L _ (Za R1).1 (Za R1).2 ((Za HK).later (Za HB2)) (RowAt.nil _ _)).mono ?_
      rintro e w3 ⟨a3,cap3,rfl,hrow3,hb3⟩
      have HB3:=Zb (Vk (Za HB2) hb3)
      have HW3:=Zb hrow3
      clear hb3 hrow3
      go_wp2_with fail
      refine (Gm a a3 len cap L.length cap3 l L h 8 [] _ (Za R2).1 (Za R2).2 ((Za HO).later (Za HB3)) (Za HW3)).mono ?_
      rintro e w4 ⟨a4,cap4,rfl,_,hb4⟩
      have HB4:=Zb (Vk (Za HB3) hb4)
      clear hb4
      go_wp2
      go_ret2
      exact⟨rfl,Za HB4⟩
     | some M=>
      have eB:Yw l k h=Tg M:=by simp[Yw,r1,r2,eE]
      rw[eB]
      have R2:=Zb (T7 c1 gL r2)
      clear c1 c2 c3 eE eB r1 r2 sL gL
      go_enter Tryz.func170,Tryz.ntmps170
      go_wp2
      refine wp_loop_rounds 3 ?_
      rw[rounds_succ]
      go_wp2_with fail
      refine (Xz a len cap l 0 _ (Za C1) (Za HO)).mono ?_
      rintro e w1 ⟨rfl,hb1⟩
      have HB1:=Zb hb1
      clear hb1
      go_wp2
      rw[rounds_succ]
      go_wp2_with fail
      refine (Xz ak lenk capk k 0 _ (Za C2) ((Za HK).later (Za HB1))).mono ?_
      rintro e w2 ⟨rfl,hb2⟩
      have HB2:=Zb (Vk (Za HB1) hb2)
      clear hb2
      go_wp2
      rw[rounds_succ]
      go_wp2_with (go_at_call 195;refine (Ws h true _ (Za C3).symm).mono ?_;rintro e w' ⟨rfl,rfl⟩)
      refine (Gm ak none lenk capk 0 0 k [] h 0 L _ (Za R1).1 (Za R1).2 ((Za HK).later (Za HB2)) (RowAt.nil _ _)).mono ?_
      rintro e w3 ⟨a3,cap3,rfl,hrow3,hb3⟩
      have HB3:=Zb (Vk (Za HB2) hb3)
      have HW3:=Zb hrow3
      clear hb3 hrow3
      go_wp2_with fail
      refine (Gm a a3 len cap L.length cap3 l L h 0 M _ (Za R2).1 (Za R2).2 ((Za HO).later (Za HB3)) (Za HW3)).mono ?_
      rintro e w4 ⟨a4,cap4,rfl,hrow4,hb4⟩
      have HB4:=Zb (Vk (Za HB3) hb4)
      have HE:Hid (∀ b:Bool,b=Tg M→Ending.returned (.tuple #[.bool b,.int .i64 0]) = .returned (.tuple #[.bool (Tg M),.int .i64 0])):=fun b hb=>by rw[hb]
      clear hb4
      by_cases m1:M.length=1
      ·obtain⟨y,rfl⟩:=List.length_eq_one_iff.1 m1
       obtain⟨b4,o4,rfl,hc4⟩:=hrow4.2.2 (by simp)
       have c4:w4.cell? ⟨b4,o4,none⟩=some (.int .i64 y):=hc4 0 (by simp)
       have HY:Hid ((y != 0)=Tg [y]):=by simp[Tg,U8,Hid]
       clear hc4 hrow4 m1
       go_wp2
       go_ret2
       exact⟨(Za HE) _ (Za HY),Za HB4⟩
      ·have m2:((M.length:Int) == 1)=false:=by simp;omega
       have HY:Hid (false=Tg M):=by simp[Tg,m1,Hid]
       clear hrow4 m1
       go_wp2
       go_ret2
       exact⟨(Za HE) _ (Za HY),Za HB4⟩
  ·have eE:Ww l k h=chk k:=by simp[Ww,c1,c2]
   have eB:Yw l k h=false:=by simp[Yw,eE,c2]
   rw[eE,eB]
   obtain⟨x,hx⟩:∃ x,chk k=x:=⟨_,rfl⟩
   rw[hx] at c2 ⊢
   have g2:(x != 0)=true:=by simp[c2]
   have C1:=Zb c1
   have C2:=Zb hx
   clear c1 c2 hx eE eB
   go_enter Tryz.func170,Tryz.ntmps170
   go_wp2
   refine wp_loop_rounds 3 ?_
   rw[rounds_succ]
   go_wp2_with fail
   refine (Xz a len cap l 0 _ (Za C1) (Za HO)).mono ?_
   rintro e w1 ⟨rfl,hb1⟩
   have HB1:=Zb hb1
   clear hb1
   go_wp2
   rw[rounds_succ]
   go_wp2_with fail
   refine (Xz ak lenk capk k x _ (Za C2) ((Za HK).later (Za HB1))).mono ?_
   rintro e w2 ⟨rfl,hb2⟩
   have HB2:=Zb (Vk (Za HB1) hb2)
   clear hb2
   go_wp2
   go_ret2
   exact⟨rfl,Za HB2⟩
 ·have eE:Ww l k h=chk l:=by simp[Ww,c1]
  have eB:Yw l k h=false:=by simp[Yw,eE,c1]
  rw[eE,eB]
  obtain⟨x,hx⟩:∃ x,chk l=x:=⟨_,rfl⟩
  rw[hx] at c1 ⊢
  have g2:(x != 0)=true:=by simp[c1]
  have C1:=Zb hx
  clear c1 hx eE eB
  go_enter Tryz.func170,Tryz.ntmps170
  go_wp2
  refine wp_loop_rounds 3 ?_
  rw[rounds_succ]
  go_wp2_with fail
  refine (Xz a len cap l x _ (Za C1) (Za HO)).mono ?_
  rintro e w1 ⟨rfl,hb1⟩
  have HB1:=Zb hb1
  clear hb1
  go_wp2
  go_ret2
  exact⟨rfl,Za HB1⟩
def Ub:CV:=((0,0,0,[],0,false),none,0,0)
theorem Qq(T R:List CV)(z:CV)(j:Nat)(hj:j<6):(Zj (T++z :: R))[T.length*6+j]? = (Nn z)[j]?:=by
 rw[Zu,List.getElem?_append_right (by rw[Zy];omega),Zy,Nat.add_sub_cancel_left,show z :: R=[z]++R from rfl,Zu,List.getElem?_append_left (by rw[Zy];simpa using hj),Zdp]
theorem J7(T R:List CV)(z y:CV):((((((Zj (T++z :: R)).set (T.length*6) (.int .i64 y.1.1)).set (T.length*6+1) (.int .i64 y.1.2.1)).set (T.length*6+2) (.int .i64 (cv y.1))).set (T.length*6+3) (.slice y.2.1 y.2.2.1 y.2.2.2)).set (T.length*6+4) (.int .i64 (ch y.1))).set (T.length*6+5) (.bool (cr y.1))=Zj (T++y :: R):=by
 rw[Zu,Zu]
 have e:=Zy T
 rw[←e]
 simp only[Zj,List.set_append_right _ _ (Nat.le_refl _),List.set_append_right _ _ (Nat.le_add_right _ _),Nat.sub_self,Nat.add_sub_cancel_left,List.set_cons_zero,List.set_cons_succ]
theorem Zab(n:Nat):(madeCells zeroC.cells (n*6)).toList=Zj (List.replicate n Ub):=by
 apply List.ext_getElem?
 intro j
 by_cases hj:j<n*6
 ·obtain⟨f0,f1,f2,f3,f4,f5⟩:=U3 (List.replicate n Ub) (j / 6) (by rw[List.length_replicate];omega)
  rw[List.getElem_replicate] at f0 f1 f2 f3 f4 f5
  have hz:zeroC.cells=zeroCs.toArray:=rfl
  have hL:(madeCells zeroC.cells (n*6)).toList[j]? = zeroCs[j % 6]?:=by
   have hs:zeroCs.length=6:=rfl
   have h6:j % 6<6:=by omega
   simp[madeCells,hj,hz,hs,h6]
  rw[hL]
  obtain⟨i,r,rfl,hr⟩:∃ i r,j=i*6+r∧r<6:=⟨j / 6,j % 6,by omega,by omega⟩
  rw[show (i*6+r) / 6=i by omega] at f0 f1 f2 f3 f4 f5
  rw[show (i*6+r) % 6=r by omega]
  match r,hr with
  | 0,_=>exact f0.symm
  | 1,_=>exact f1.symm
  | 2,_=>exact f2.symm
  | 3,_=>exact f3.symm
  | 4,_=>exact f4.symm
  | 5,_=>exact f5.symm
 ·rw[List.getElem?_eq_none (by simp[madeCells];omega),List.getElem?_eq_none (by rw[Zy,List.length_replicate];omega)]
theorem Bs{w:World}{base g n c:Nat}{xs:List Value}(h:w.ownsRow base 103 6 (.slice (some ⟨g,0,none⟩) n c) n xs)(b:Nat)(a0 a1 a2 a3 a4 a5:Value) :
  ((((((w.setCell ⟨g,b,none⟩ a0).setCell ⟨g,b+1,none⟩ a1).setCell ⟨g,b+2,none⟩ a2).setCell ⟨g,b+3,none⟩ a3).setCell ⟨g,b+4,none⟩ a4).setCell ⟨g,b+5,none⟩ a5).ownsRow base 103 6 (.slice (some ⟨g,0,none⟩) n c) n ((((((xs.set b a0).set (b+1) a1).set (b+2) a2).set (b+3) a3).set (b+4) a4).set (b+5) a5):=
 ((((((h.stored b a0).1.stored (b+1) a1).1.stored (b+2) a2).1.stored (b+3) a3).1.stored (b+4) a4).1.stored (b+5) a5).1
theorem Gr.sixAt{w w1:World}{S:Nat→Prop}(h:Gr w w1 S)(b i:Nat)(hb:S b∨w.heap.size≤b)(a0 a1 a2 a3 a4 a5:Value):Gr w ((((((w1.setCell ⟨b,i,none⟩ a0).setCell ⟨b,i+1,none⟩ a1).setCell ⟨b,i+2,none⟩ a2).setCell ⟨b,i+3,none⟩ a3).setCell ⟨b,i+4,none⟩ a4).setCell ⟨b,i+5,none⟩ a5) S:=
 (((((h.one b i hb a0).one b (i+1) hb a1).one b (i+2) hb a2).one b (i+3) hb a3).one b (i+4) hb a4).one b (i+5) hb a5
theorem Rz(h:Int)(I:List InD)(k:Nat)(hk:k<I.length)(S L:List Zg)(ht:Wu (I[k].1,I[k].2.1) L=none):Zm h (I.drop k) S L=(7,[],[]):=by
 rw[List.drop_eq_getElem_cons hk,Zm,ht]
theorem R0(h:Int)(I:List InD)(k:Nat)(hk:k<I.length)(S L M:List Zg)(c:Zg)(ht:Wu (I[k].1,I[k].2.1) L=some (c,M))(hl:cr c=true∧h<ch c+2):Zm h (I.drop k) S L=(10,[],[]):=by
 rw[List.drop_eq_getElem_cons hk,Zm,ht];simp only;rw[if_pos hl]
theorem Sp(h:Int)(I:List InD)(k:Nat)(hk:k<I.length)(S L M:List Zg)(c:Zg)(ht:Wu (I[k].1,I[k].2.1) L=some (c,M))(hl:¬(cr c=true∧h<ch c+2))(ho:Yw (ck c) I[k].2.2 h=false):Zm h (I.drop k) S L=(8,[],[]):=by
 rw[List.drop_eq_getElem_cons hk,Zm,ht];simp only;rw[if_neg hl,if_pos ho]
theorem Gj(h:Int)(I:List InD)(k:Nat)(hk:k<I.length)(S L M:List Zg)(c:Zg)(ht:Wu (I[k].1,I[k].2.1) L=some (c,M))(hl:¬(cr c=true∧h<ch c+2))(ho:Yw (ck c) I[k].2.2 h=true):Zm h (I.drop k) S L=Zm h (I.drop (k+1)) (S++[c]) M:=by
 rw[List.drop_eq_getElem_cons hk,Zm,ht];simp only;rw[if_neg hl,if_neg (by rw[ho];decide)]
theorem Sq(h:Int)(I:List InD)(k:Nat)(hk:I.length≤k)(S L:List Zg):Zm h (I.drop k) S L=(0,S,L):=by
 rw[List.drop_of_length_le hk,Zm]
theorem Tx{q:PtD}{L M:List Zg}{c:Zg}(h:Wu q L=some (c,M))(hs:Srt L):Srt M:=by
 rw[(Rc h).2.2];exact hs.filter _
theorem Zct{l k:List (Int×Int)}{h:Int}(q:Yw l k h=true):Ww l k h=0:=by
 unfold Yw at q
 rw[Bool.and_eq_true,decide_eq_true_eq] at q
 exact q.1
theorem Zcs(a ak:Option Addr)(len cap lenk capk:Nat)(l k:List (Int×Int))(h:Int)(b:Bool)(x:Int)(w:World)(hO:OpsAt w a len l)(hK:OpsAt w ak lenk k)(hb:Yw l k h=b)(hx:Ww l k h=x) :
  Calls Tryz.prog 170 #[.slice a len cap,.slice ak lenk capk,.int .i64 h] w fun e w'=>e = .returned (.tuple #[.bool b,.int .i64 x])∧Below w.heap.size w w':=by
 subst hb hx;exact E8 a ak len cap lenk capk l k h w hO hK
end Go.Proofs.YtpikejjiignchaaGreatDoor
