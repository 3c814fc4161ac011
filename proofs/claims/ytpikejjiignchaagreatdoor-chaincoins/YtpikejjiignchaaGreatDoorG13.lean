import Derived.Test.YtpikejjiignchaaGreatDoorG12
set_option maxHeartbeats 12800000
namespace Go.Proofs.YtpikejjiignchaaGreatDoor
open Go.RowKit
theorem Kf{w:World}{base:Nat}{e:TypeId}{v:Value}{n:Nat}{Z:List Int}(h:w.ownsRow base e 1 v n (Z.map (Value.int .i64))):∃ a cap,v = .slice a n cap∧RowAt w a n Z:=by
 have hl:Z.length=n:=by have:=h.1;simpa using this
 rcases h.2 with ⟨rfl,rfl⟩|⟨g,cap,cur,rfl,_,_,h1,h2,_,_⟩
 ·have e:Z=[]:=List.length_eq_zero_iff.1 hl
  subst e
  exact⟨none,0,rfl,RowAt.nil _ _⟩
 ·refine⟨_,cap,rfl,hl,Nat.le_trans h1 h2,fun _=>⟨g,0,rfl,fun i hi=>?_⟩⟩
  rw[Nat.zero_add,World.ownsRow.cellAt h i (by omega)]
  simp[hl,hi]
theorem Tryz.arr317:Tryz.prog.underlying 317=some (.array (Tryz.prog.arrayLen 317) (Tryz.prog.elem 317)):=by kernel_rfl
theorem Tryz.len317:Tryz.prog.arrayLen 317=16:=by kernel_rfl
theorem Tryz.el317:Tryz.prog.elem 317=3:=by kernel_rfl
theorem Ak(p n:Nat)(h:n≤16)(w:World):(Instr.sliceAt 317 (.pointer (some ⟨p,0,none⟩)) none (some (.int .i64 n)) none).run Tryz.prog w = .ok (.slice (some ⟨p,0,none⟩) n 16) w:=by
 rw[run_sliceAt_array_h w 317 ⟨p,0,none⟩ Tryz.arr317 .i64 n (by omega) (by rw[Tryz.len317];omega),Tryz.el317,Tryz.len317,Tryz.sizeOf3]
 simp[Result.andThen,slicedAt,Addr.add]
set_option maxRecDepth 100000 in
theorem Zhe(p:Nat)(s:MS)(W w:World)(hm:Mach p s W w) :
  Calls Tryz.prog 232 #[.pointer (some ⟨p,0,none⟩)] w fun e w'=>∃ a cap,e = .returned (.slice a s.n cap)∧RowAt w' a s.n (s.cs.take s.n)∧Below w.heap.size w w':=by
 have c1:=hm.cell_n
 have hn:=hm.good.2.1
 have hl:=hm.good.1
 have HC:Hid (∀ j,j<s.cs.length→w.cell? ⟨p,0+j,none⟩=some (.int .i64 (s.cs.getD j 0))):=fun j hj=>by rw[Nat.zero_add];exact hm.cell_s j (by omega)
 have hsl:=Ak p s.n hn
 clear hm
 go_enter Tryz.func232,Tryz.ntmps232
 go_wp2
 go_region_with (go_at_call 129;refine (Tryz.slices_Clone_int p 0 s.n 16 s.cs _ ?_ ?_ ?_).mono ?_;omega;omega;exact (Za HC);rintro e w' ⟨v,rfl,hown,hnn,hb⟩)
 all_goals
  obtain⟨a,cap,rfl,hrow⟩:=Kf hown
  have HR:=Zb hrow
  have HB:Hid (Below w.heap.size w w'):=⟨hb.os,hb.tape,hb.output,hb.size,hb.block⟩
  clear hown hnn hb hrow
  go_wp2
  go_ret
  exact⟨a,cap,rfl,Za HR,Za HB⟩
theorem Zgb{l:List (Int×Int)}{Z:List Int}{h:Int}(e:chk l≠0):Tb l Z h=chk l∧Ha l Z h=[]:=by
 have h1:Tb l Z h=chk l:=by unfold Tb;rw[if_neg e]
 exact⟨h1,by unfold Ha;rw[h1,if_neg e]⟩
theorem Kb{l:List (Int×Int)}{Z:List Int}{h:Int}(e:chk l=0)(g:(Z9 Z && hOk h)=false):Tb l Z h=3∧Ha l Z h=[]:=by
 have h1:Tb l Z h=3:=by unfold Tb;rw[if_pos e,g];rfl
 exact⟨h1,by unfold Ha;rw[h1];rfl⟩
theorem Kc{l:List (Int×Int)}{Z:List Int}{h:Int}(e:chk l=0)(g:(Z9 Z && hOk h)=true)(r:Y0 h l Z=none):Tb l Z h=8∧Ha l Z h=[]:=by
 have h1:Tb l Z h=8:=by unfold Tb;rw[if_pos e,g,r];rfl
 exact⟨h1,by unfold Ha;rw[h1];rfl⟩
theorem Ph{l:List (Int×Int)}{Z:List Int}{h:Int}{L:List Int}(e:chk l=0)(g:(Z9 Z && hOk h)=true)(r:Y0 h l Z=some L):Tb l Z h=0∧Ha l Z h=L:=by
 have h1:Tb l Z h=0:=by unfold Tb;rw[if_pos e,g,r];rfl
 exact⟨h1,by unfold Ha;rw[h1,r];rfl⟩
theorem Zga(p:Nat)(s:MS)(a:Option Addr)(cap:Nat)(W w:World)(hm:Mach p s W w) :
  Calls Tryz.prog 231 #[.pointer (some ⟨p,0,none⟩),.slice a 0 cap] w fun e w'=>e = .returned (.tuple #[])∧∃ s',Mach p s' W w'∧s'.h=s.h∧s'.rep=s.rep.bind (Y0 s.h []):=by
 have HM:=Zb hm
 have hpw:=hm.lt
 clear hm
 go_enter Tryz.func231,Tryz.ntmps231
 go_wp2_with fail
 refine (Kt p w hpw).mono ?_
 rintro e w1 ⟨rfl,hbx,hbw⟩
 have hs1:=run_storeCells_new (P:=Tryz.prog) w1 344 #[.nilFunc,.nilFunc,.nilFunc,.nilFunc,.nilFunc,.nilFunc,.nilFunc,.nilFunc,.nilFunc,.nilFunc,.nilFunc,.nilFunc,.nilFunc,.nilFunc] (Tg p (w.heap.size+1)) Tryz.size344 rfl (by simp[Tg,met,Zkh,Zas,Value.oneCell'])
 have hs2:(Tg p (w.heap.size+1)).size=14:=rfl
 have hm1:Mach p s W w1:=⟨(Za HM).good,(hbw.block p hpw).trans (Za HM).block,fun k hk hl=>(hbw.block k (Nat.lt_of_lt_of_le hl (Za HM).size)).trans ((Za HM).old k hk hl),Nat.le_trans (Za HM).size hbw.size,hbw.os.trans (Za HM).os,hbw.tape.trans (Za HM).tape,hbw.output.trans (Za HM).output⟩
 have HM2:=Zb (hm1.alloc (.cells (Tg p (w.heap.size+1)) 344))
 clear hbx hbw hm1
 go_wp2
 refine wp_loop_rounds 1 ?_
 rw[rounds_succ]
 go_wp2
 go_end0
 exact⟨rfl,s,Za HM2,rfl,by cases s.rep <;> rfl⟩
theorem Zhc(p:Nat)(s:MS)(a:Option Addr)(len cap:Nat)(l:List (Int×Int))(W w:World)(hm:Mach p s W w)(hp:W.heap.size≤p)(hO:OpsAt W a len l)(hck:chk l=0) :
  Calls Tryz.prog 231 #[.pointer (some ⟨p,0,none⟩),.slice a len cap] w fun e w'=>e = .returned (.tuple #[])∧∃ s',Mach p s' W w'∧s'.h=s.h∧s'.rep=s.rep.bind (Y0 s.h l):=by
 obtain⟨hz,hc⟩:=hO
 have h16:len≤16:=by
  unfold chk at hck
  split at hck
  ·cases hck
  ·omega
 have hck':Vv l=0:=by
  unfold chk at hck
  split at hck
  ·cases hck
  ·exact hck
 by_cases h:len=0
 ·subst h
  have e:l=[]:=List.length_eq_zero_iff.1 hz
  subst e
  exact Zga p s a cap W w hm
 ·obtain⟨b,off,rfl,hcell⟩:=hc (by omega)
  exact Zfz p s b off len cap l W w hm hp hz h16 hck' (World.block_lt_of_cell? _ _ (hcell 0 (by omega)).1) hcell
def Zcd(h:Int):MS:=⟨List.replicate 16 0,0,h,false⟩
theorem Zhm(h:Int):(Zcd h).ok:=⟨rfl,Nat.zero_le _,fun x hx=>by rw[List.eq_of_mem_replicate hx];rfl⟩
theorem Zae(h:Int)(w:World):Mach w.heap.size (Zcd h) w (w.alloc (.cells (Zcd h).cells 319)) where
 good:=Zhm h
 block:=heap_alloc_new _ _
 old:=fun k _ hl=>Below.heap_alloc _ _ _ hl
 size:=by simp
 os:=rfl
 tape:=rfl
 output:=rfl
theorem Ax{s:MS}{L:List Int}(h:s.rep=some L):s.f=false∧s.cs.take s.n=L:=by
 unfold MS.rep at h
 cases hf:s.f with
 | true=>rw[hf] at h;cases h
 | false=>rw[hf] at h;exact⟨rfl,by simpa using h⟩
theorem Aw{s:MS}(h:s.rep=none):s.f=true:=by
 unfold MS.rep at h
 cases hf:s.f with
 | true=>rfl
 | false=>rw[hf] at h;cases h
theorem Zja(a az:Option Addr)(len cap lens caps:Nat)(l:List (Int×Int))(Z:List Int)(h:Int)(w:World)(hO:OpsAt w a len l)(hR:RowAt w az lens Z) :
  Calls Tryz.prog 196 #[.slice a len cap,.slice az lens caps,.int .i64 h] w fun e w'=>∃ a' cap',e = .returned (.tuple #[.slice a' (Ha l Z h).length cap',.int .i64 (Tb l Z h)])∧RowAt w' a' (Ha l Z h).length (Ha l Z h)∧Below w.heap.size w w':=by
 have CK:=Zb (Uo a len cap l w hO)
 have HO:=Zb hO
 have HR:=Zb hR
 clear hO hR
 by_cases hck:chk l=0
 ·rw[hck] at CK
  have HK:=Zb hck
  clear hck
  go_enter Tryz.func196,Tryz.ntmps196
  go_wp2_with fail
  refine (Za CK).mono ?_
  rintro e w1 ⟨rfl,hb1⟩
  have HB1:=Zb hb1
  have HO1:=Zb ((Za HO).later hb1)
  have HR1:=Zb ((Za HR).later hb1)
  clear hb1
  go_wp2_with fail
  refine (Er w1.heap.size (Zcd h) az lens caps Z w1 _ (Zae h w1) (Nat.le_refl _) (Za HR1)).mono ?_
  rintro e w2 ⟨rfl,s',hm2,hh2,hr2⟩
  have hr3:s'.rep=if Z9 Z then some Z else none:=hr2.trans (Zdi Z)
  have hh3:s'.h=h:=hh2
  have cf:=hm2.cell_f
  have HM2:=Zb hm2
  clear hr2 hh2 hm2
  cases hso:Z9 Z with
  | false=>
   rw[hso] at hr3
   have hf:=Aw hr3
   have e:=Kb (h:=h) (Za HK) (show (Z9 Z && hOk h)=false by rw[hso];rfl)
   have EE:=Zb e
   rw[hf] at cf
   clear e hf hr3 hh3 hso
   go_wp2
   go_ret2
   rw[(Za EE).1,(Za EE).2]
   exact⟨none,0,rfl,RowAt.nil _ _,(Za HB1).trans (((Za HM2).below (Nat.le_refl _)).mono (Za HB1).size)⟩
  | true=>
   rw[hso] at hr3
   have hf:=Ax hr3
   rw[hf.1] at cf
   have HF:=Zb hf.2
   clear hf
   cases hho:hOk h with
   | false=>
    have e:=Kb (Za HK) (show (Z9 Z && hOk h)=false by rw[hso,hho];rfl)
    have EE:=Zb e
    have HH:=Zb hho
    clear e hr3 hh3 hso hho
    go_wp2_with (go_at_call 195;refine (Vb h false _ (Za HH).symm).mono ?_;rintro e w' ⟨rfl,rfl⟩)
    go_ret2
    rw[(Za EE).1,(Za EE).2]
    exact⟨none,0,rfl,RowAt.nil _ _,(Za HB1).trans (((Za HM2).below (Nat.le_refl _)).mono (Za HB1).size)⟩
   | true=>
    have HH:=Zb hho
    have HS:=Zb hso
    have HR3:=Zb hr3
    have HH3:=Zb hh3
    clear hr3 hh3 hso hho
    go_wp2_with (go_at_call 195;refine (Vb h true _ (Za HH).symm).mono ?_;rintro e w' ⟨rfl,rfl⟩)
    refine (Zhc w1.heap.size s' a len cap l w1 _ (Za HM2) (Nat.le_refl _) (Za HO1) (Za HK)).mono ?_
    rintro e w3 ⟨rfl,s3,hm3,hh4,hr4⟩
    rw[Za HR3,Za HH3] at hr4
    have hr5:s3.rep=Y0 h l Z:=hr4
    have cf3:=hm3.cell_f
    have HM3:=Zb hm3
    clear hr4 hh4 hm3 cf
    cases hrl:Y0 h l Z with
    | none=>
     have hf3:=Aw (hr5.trans hrl)
     have e:=Kc (Za HK) (show (Z9 Z && hOk h)=true by rw[Za HS,Za HH];rfl) hrl
     have EE:=Zb e
     rw[hf3] at cf3
     clear e hr5 hf3 hrl
     go_wp2
     go_ret2
     rw[(Za EE).1,(Za EE).2]
     exact⟨none,0,rfl,RowAt.nil _ _,(Za HB1).trans (((Za HM3).below (Nat.le_refl _)).mono (Za HB1).size)⟩
    | some L=>
     have hf3:=Ax (hr5.trans hrl)
     have e:=Ph (Za HK) (show (Z9 Z && hOk h)=true by rw[Za HS,Za HH];rfl) hrl
     have EE:=Zb e
     have hn3:s3.n=L.length:=by
      have h1:=(Za HM3).good.1
      have h2:=(Za HM3).good.2.1
      rw[←hf3.2,List.length_take];omega
     rw[hf3.1] at cf3
     have LF:=Zb (Zhe w1.heap.size s3 w1 w3 (Za HM3))
     rw[hf3.2,hn3] at LF
     clear e hr5 hf3 hrl hn3
     go_wp2_with fail
     refine (Za LF).mono ?_
     rintro e w4 ⟨a4,cap4,rfl,hrow,hb4⟩
     have HRW:=Zb hrow
     have HB4:=Zb hb4
     clear hrow hb4
     go_wp2
     go_ret2
     rw[(Za EE).1,(Za EE).2]
     have b3:=(Za HM3).below (Nat.le_refl _)
     exact⟨a4,cap4,rfl,Za HRW,(Za HB1).trans ((b3.trans ((Za HB4).mono b3.size)).mono (Za HB1).size)⟩
 ·have e:=Zgb (Z:=Z) (h:=h) hck
  rw[e.1,e.2]
  obtain⟨x,hx⟩:∃ x,x=chk l:=⟨_,rfl⟩
  rw[←hx] at hck CK ⊢
  have hx1:(x != 0)=true:=by simp[hck]
  clear e hck hx
  go_enter Tryz.func196,Tryz.ntmps196
  go_wp2_with fail
  refine (Za CK).mono ?_
  rintro e w1 ⟨rfl,hb1⟩
  have HB1:=Zb hb1
  clear hb1
  go_wp2
  go_ret2
  exact⟨none,0,rfl,RowAt.nil _ _,Za HB1⟩
theorem check_is(a:Option Addr)(len cap:Nat)(l:List (Int×Int))(x:Int)(w:World)(hx:chk l=x)(h:OpsAt w a len l) :
  Calls Tryz.prog 185 #[.slice a len cap] w fun e w'=>e = .returned (.int .i64 x)∧Below w.heap.size w w':=by
 subst hx;exact Uo a len cap l w h
theorem H9(a az:Option Addr)(len cap lens caps:Nat)(l:List (Int×Int))(Z:List Int)(h:Int)(x:Int)(L:List Int)(w:World)(hE:Tb l Z h=x)(hS:Ha l Z h=L)(hO:OpsAt w a len l)(hR:RowAt w az lens Z) :
  Calls Tryz.prog 196 #[.slice a len cap,.slice az lens caps,.int .i64 h] w fun e w'=>∃ a' cap',e = .returned (.tuple #[.slice a' L.length cap',.int .i64 x])∧RowAt w' a' L.length L∧Below w.heap.size w w':=by
 subst hE hS;exact Zja a az len cap lens caps l Z h w hO hR
theorem Vz{w w1 w2:World}(h1:Below w.heap.size w w1)(h2:Below w1.heap.size w1 w2):Below w.heap.size w w2:=h1.trans (h2.mono h1.size)
theorem Aq{h:Int}(hh:hOk h=true):(Z9 [] && hOk h)=true:=by rw[hh];rfl
theorem Nw(a b:Option Addr)(n c m d:Nat)(w:World) :
  (Instr.index 282 (.agg #[.slice a n c,.slice b m d]) (.int .i64 0)).run Tryz.prog w = .ok (.slice a n c) w ∧
  (Instr.index 282 (.agg #[.slice a n c,.slice b m d]) (.int .i64 1)).run Tryz.prog w = .ok (.slice b m d) w:=by
 constructor <;> kernel_rfl
set_option maxRecDepth 100000 in
theorem Zds(a ak:Option Addr)(len cap lenk capk:Nat)(l k:List (Int×Int))(h:Int)(w:World)(hO:OpsAt w a len l)(hK:OpsAt w ak lenk k) :
  Calls Tryz.prog 170 #[.slice a len cap,.slice ak lenk capk,.int .i64 h] w fun e w'=>e = .returned (.tuple #[.bool (Y1 l k h),.int .i64 (Vg l k h)])∧Below w.heap.size w w':=by
 have HO:=Zb hO
 have HK:=Zb hK
 have hi0:=fun w=>(Nw a ak len cap lenk capk w).1
 have hi1:=fun w=>(Nw a ak len cap lenk capk w).2
 clear hO hK
 by_cases c1:chk l=0
 ·by_cases c2:chk k=0
  ·cases c3:hOk h with
   | false=>
    have eE:Vg l k h=3:=by simp[Vg,c1,c2,c3]
    have eB:Y1 l k h=false:=by simp[Y1,eE]
    rw[eE,eB]
    have C1:=Zb c1
    have C2:=Zb c2
    have C3:=Zb c3
    clear c1 c2 c3 eE eB
    go_enter Tryz.func170,Tryz.ntmps170
    go_wp2
    refine wp_loop_rounds 3 ?_
    rw[rounds_succ]
    go_wp2_with fail
    refine (check_is a len cap l 0 _ (Za C1) (Za HO)).mono ?_
    rintro e w1 ⟨rfl,hb1⟩
    have HB1:=Zb hb1
    clear hb1
    go_wp2
    rw[rounds_succ]
    go_wp2_with fail
    refine (check_is ak lenk capk k 0 _ (Za C2) ((Za HK).later (Za HB1))).mono ?_
    rintro e w2 ⟨rfl,hb2⟩
    have HB2:=Zb (Vz (Za HB1) hb2)
    clear hb2
    go_wp2
    rw[rounds_succ]
    go_wp2_with (go_at_call 195;refine (Vb h false _ (Za C3).symm).mono ?_;rintro e w' ⟨rfl,rfl⟩)
    go_ret2
    exact⟨rfl,Za HB2⟩
   | true=>
    have eE:Vg l k h=0:=by simp[Vg,c1,c2,c3]
    have C1:=Zb c1
    have C2:=Zb c2
    have C3:=Zb c3
    rw[eE]
    cases r1:Y0 h k [] with
    | none=>
     have eB:Y1 l k h=false:=by simp[Y1,r1]
     rw[eB]
     have R1:=Zb (Kc c2 (Aq c3) r1)
     clear c1 c2 c3 eE eB r1
     go_enter Tryz.func170,Tryz.ntmps170
     go_wp2
     refine wp_loop_rounds 3 ?_
     rw[rounds_succ]
     go_wp2_with fail
     refine (check_is a len cap l 0 _ (Za C1) (Za HO)).mono ?_
     rintro e w1 ⟨rfl,hb1⟩
     have HB1:=Zb hb1
     clear hb1
     go_wp2
     rw[rounds_succ]
     go_wp2_with fail
     refine (check_is ak lenk capk k 0 _ (Za C2) ((Za HK).later (Za HB1))).mono ?_
     rintro e w2 ⟨rfl,hb2⟩
     have HB2:=Zb (Vz (Za HB1) hb2)
     clear hb2
     go_wp2
     rw[rounds_succ]
     go_wp2_with (go_at_call 195;refine (Vb h true _ (Za C3).symm).mono ?_;rintro e w' ⟨rfl,rfl⟩)
     refine (H9 ak none lenk capk 0 0 k [] h 8 [] _ (Za R1).1 (Za R1).2 ((Za HK).later (Za HB2)) (RowAt.nil _ _)).mono ?_
     rintro e w3 ⟨a3,cap3,rfl,_,hb3⟩
     have HB3:=Zb (Vz (Za HB2) hb3)
     clear hb3
     go_wp2
     go_ret2
     exact⟨rfl,Za HB3⟩
    | some L=>
     have sL:Z9 L=true:=Hj (by rfl) r1
     have gL:(Z9 L && hOk h)=true:=by rw[sL,c3];rfl
     have R1:=Zb (Ph c2 (Aq c3) r1)
     cases r2:Y0 h l L with
     | none=>
      have eB:Y1 l k h=false:=by simp[Y1,r1,r2]
      rw[eB]
      have R2:=Zb (Kc c1 gL r2)
      clear c1 c2 c3 eE eB r1 r2 sL gL
      go_enter Tryz.func170,Tryz.ntmps170
      go_wp2
      refine wp_loop_rounds 3 ?_
      rw[rounds_succ]
      go_wp2_with fail
      refine (check_is a len cap l 0 _ (Za C1) (Za HO)).mono ?_
      rintro e w1 ⟨rfl,hb1⟩
      have HB1:=Zb hb1
      clear hb1
      go_wp2
      rw[rounds_succ]
      go_wp2_with fail
      refine (check_is ak lenk capk k 0 _ (Za C2) ((Za HK).later (Za HB1))).mono ?_
      rintro e w2 ⟨rfl,hb2⟩
      have HB2:=Zb (Vz (Za HB1) hb2)
      clear hb2
      go_wp2
      rw[rounds_succ]
      go_wp2_with (go_at_call 195;refine (Vb h true _ (Za C3).symm).mono ?_;rintro e w' ⟨rfl,rfl⟩)
      refine (H9 ak none lenk capk 0 0 k [] h 0 L _ (Za R1).1 (Za R1).2 ((Za HK).later (Za HB2)) (RowAt.nil _ _)).mono ?_
      rintro e w3 ⟨a3,cap3,rfl,hrow3,hb3⟩
      have HB3:=Zb (Vz (Za HB2) hb3)
      have HW3:=Zb hrow3
      clear hb3 hrow3
      go_wp2_with fail
      refine (H9 a a3 len cap L.length cap3 l L h 8 [] _ (Za R2).1 (Za R2).2 ((Za HO).later (Za HB3)) (Za HW3)).mono ?_
      rintro e w4 ⟨a4,cap4,rfl,_,hb4⟩
      have HB4:=Zb (Vz (Za HB3) hb4)
      clear hb4
      go_wp2
      go_ret2
      exact⟨rfl,Za HB4⟩
     | some M=>
      have eB:Y1 l k h=Si M:=by simp[Y1,r1,r2,eE]
      rw[eB]
      have R2:=Zb (Ph c1 gL r2)
      clear c1 c2 c3 eE eB r1 r2 sL gL
      go_enter Tryz.func170,Tryz.ntmps170
      go_wp2
      refine wp_loop_rounds 3 ?_
      rw[rounds_succ]
      go_wp2_with fail
      refine (check_is a len cap l 0 _ (Za C1) (Za HO)).mono ?_
      rintro e w1 ⟨rfl,hb1⟩
      have HB1:=Zb hb1
      clear hb1
      go_wp2
      rw[rounds_succ]
      go_wp2_with fail
      refine (check_is ak lenk capk k 0 _ (Za C2) ((Za HK).later (Za HB1))).mono ?_
      rintro e w2 ⟨rfl,hb2⟩
      have HB2:=Zb (Vz (Za HB1) hb2)
      clear hb2
      go_wp2
      rw[rounds_succ]
      go_wp2_with (go_at_call 195;refine (Vb h true _ (Za C3).symm).mono ?_;rintro e w' ⟨rfl,rfl⟩)
      refine (H9 ak none lenk capk 0 0 k [] h 0 L _ (Za R1).1 (Za R1).2 ((Za HK).later (Za HB2)) (RowAt.nil _ _)).mono ?_
      rintro e w3 ⟨a3,cap3,rfl,hrow3,hb3⟩
      have HB3:=Zb (Vz (Za HB2) hb3)
      have HW3:=Zb hrow3
      clear hb3 hrow3
      go_wp2_with fail
      refine (H9 a a3 len cap L.length cap3 l L h 0 M _ (Za R2).1 (Za R2).2 ((Za HO).later (Za HB3)) (Za HW3)).mono ?_
      rintro e w4 ⟨a4,cap4,rfl,hrow4,hb4⟩
      have HB4:=Zb (Vz (Za HB3) hb4)
      have HE:Hid (∀ b:Bool,b=Si M→Ending.returned (.tuple #[.bool b,.int .i64 0]) = .returned (.tuple #[.bool (Si M),.int .i64 0])):=fun b hb=>by rw[hb]
      clear hb4
      by_cases m1:M.length=1
      ·obtain⟨y,rfl⟩:=List.length_eq_one_iff.1 m1
       obtain⟨b4,o4,rfl,hc4⟩:=hrow4.2.2 (by simp)
       have c4:w4.cell? ⟨b4,o4,none⟩=some (.int .i64 y):=hc4 0 (by simp)
       have HY:Hid ((y != 0)=Si [y]):=by simp[Si,Q4,Hid]
       clear hc4 hrow4 m1
       go_wp2
       go_ret2
       exact⟨(Za HE) _ (Za HY),Za HB4⟩
      ·have m2:((M.length:Int) == 1)=false:=by simp;omega
       have HY:Hid (false=Si M):=by simp[Si,m1,Hid]
       clear hrow4 m1
       go_wp2
       go_ret2
       exact⟨(Za HE) _ (Za HY),Za HB4⟩
  ·have eE:Vg l k h=chk k:=by simp[Vg,c1,c2]
   have eB:Y1 l k h=false:=by simp[Y1,eE,c2]
   rw[eE,eB]
   obtain⟨x,hx⟩:∃ x,chk k=x:=⟨_,rfl⟩
   rw[hx] at c2 ⊢
   have g2:(x != 0)=true:=by simp[c2]
   have C1:=Zb c1
   have C2:=Zb hx
   clear c1 c2 hx eE eB
   go_enter Tryz.func170,Tryz.ntmps170
   go_wp2
   refine wp_loop_rounds 3 ?_
   rw[rounds_succ]
   go_wp2_with fail
   refine (check_is a len cap l 0 _ (Za C1) (Za HO)).mono ?_
   rintro e w1 ⟨rfl,hb1⟩
   have HB1:=Zb hb1
   clear hb1
   go_wp2
   rw[rounds_succ]
   go_wp2_with fail
   refine (check_is ak lenk capk k x _ (Za C2) ((Za HK).later (Za HB1))).mono ?_
   rintro e w2 ⟨rfl,hb2⟩
   have HB2:=Zb (Vz (Za HB1) hb2)
   clear hb2
   go_wp2
   go_ret2
   exact⟨rfl,Za HB2⟩
 ·have eE:Vg l k h=chk l:=by simp[Vg,c1]
  have eB:Y1 l k h=false:=by simp[Y1,eE,c1]
  rw[eE,eB]
  obtain⟨x,hx⟩:∃ x,chk l=x:=⟨_,rfl⟩
  rw[hx] at c1 ⊢
  have g2:(x != 0)=true:=by simp[c1]
  have C1:=Zb hx
  clear c1 hx eE eB
  go_enter Tryz.func170,Tryz.ntmps170
  go_wp2
  refine wp_loop_rounds 3 ?_
  rw[rounds_succ]
  go_wp2_with fail
  refine (check_is a len cap l x _ (Za C1) (Za HO)).mono ?_
  rintro e w1 ⟨rfl,hb1⟩
  have HB1:=Zb hb1
  clear hb1
  go_wp2
  go_ret2
  exact⟨rfl,Za HB1⟩
def Uq:CV:=((0,0,0,[],0,false),none,0,0)
theorem Jk(T R:List CV)(z:CV)(j:Nat)(hj:j<6):(Zj (T++z :: R))[T.length*6+j]? = (Al z)[j]?:=by
 rw[Zu,List.getElem?_append_right (by rw[Zv];omega),Zv,Nat.add_sub_cancel_left,show z :: R=[z]++R from rfl,Zu,List.getElem?_append_left (by rw[Zv];simpa using hj),Zhn]
theorem Ry(T R:List CV)(z y:CV):((((((Zj (T++z :: R)).set (T.length*6) (.int .i64 y.1.1)).set (T.length*6+1) (.int .i64 y.1.2.1)).set (T.length*6+2) (.int .i64 (cv y.1))).set (T.length*6+3) (.slice y.2.1 y.2.2.1 y.2.2.2)).set (T.length*6+4) (.int .i64 (ch y.1))).set (T.length*6+5) (.bool (cr y.1))=Zj (T++y :: R):=by
 rw[Zu,Zu]
 have e:=Zv T
 rw[←e]
 simp only[Zj,List.set_append_right _ _ (Nat.le_refl _),List.set_append_right _ _ (Nat.le_add_right _ _),Nat.sub_self,Nat.add_sub_cancel_left,List.set_cons_zero,List.set_cons_succ]
theorem Zdx(n:Nat):(madeCells zeroC.cells (n*6)).toList=Zj (List.replicate n Uq):=by
 apply List.ext_getElem?
 intro j
 by_cases hj:j<n*6
 ·obtain⟨f0,f1,f2,f3,f4,f5⟩:=Qw (List.replicate n Uq) (j / 6) (by rw[List.length_replicate];omega)
  rw[List.getElem_replicate] at f0 f1 f2 f3 f4 f5
  have hz:zeroC.cells=zeroCs.toArray:=rfl
  have hL:(madeCells zeroC.cells (n*6)).toList[j]? = zeroCs[j % 6]?:=by
   have hs:zeroCs.length=6:=rfl
   have h6:j % 6<6:=by omega
   simp[madeCells,hj,hz,hs,h6]
  rw[hL]
  obtain⟨i,r,rfl,hr⟩:∃ i r,j=i*6+r∧r<6:=⟨j / 6,j % 6,by omega,by omega⟩
  rw[show (i*6+r) / 6=i by omega] at f0 f1 f2 f3 f4 f5
  rw[show (i*6+r) % 6=r by omega]
  match r,hr with
  | 0,_=>exact f0.symm
  | 1,_=>exact f1.symm
  | 2,_=>exact f2.symm
  | 3,_=>exact f3.symm
  | 4,_=>exact f4.symm
  | 5,_=>exact f5.symm
 ·rw[List.getElem?_eq_none (by simp[madeCells];omega),List.getElem?_eq_none (by rw[Zv,List.length_replicate];omega)]
theorem Zbj{w:World}{base g n c:Nat}{xs:List Value}(h:w.ownsRow base 103 6 (.slice (some ⟨g,0,none⟩) n c) n xs)(b:Nat)(a0 a1 a2 a3 a4 a5:Value) :
  ((((((w.setCell ⟨g,b,none⟩ a0).setCell ⟨g,b+1,none⟩ a1).setCell ⟨g,b+2,none⟩ a2).setCell ⟨g,b+3,none⟩ a3).setCell ⟨g,b+4,none⟩ a4).setCell ⟨g,b+5,none⟩ a5).ownsRow base 103 6 (.slice (some ⟨g,0,none⟩) n c) n ((((((xs.set b a0).set (b+1) a1).set (b+2) a2).set (b+3) a3).set (b+4) a4).set (b+5) a5):=
 ((((((h.stored b a0).1.stored (b+1) a1).1.stored (b+2) a2).1.stored (b+3) a3).1.stored (b+4) a4).1.stored (b+5) a5).1
theorem Gr.sixAt{w w1:World}{S:Nat→Prop}(h:Gr w w1 S)(b i:Nat)(hb:S b∨w.heap.size≤b)(a0 a1 a2 a3 a4 a5:Value):Gr w ((((((w1.setCell ⟨b,i,none⟩ a0).setCell ⟨b,i+1,none⟩ a1).setCell ⟨b,i+2,none⟩ a2).setCell ⟨b,i+3,none⟩ a3).setCell ⟨b,i+4,none⟩ a4).setCell ⟨b,i+5,none⟩ a5) S:=
 (((((h.one b i hb a0).one b (i+1) hb a1).one b (i+2) hb a2).one b (i+3) hb a3).one b (i+4) hb a4).one b (i+5) hb a5
theorem Ty(h:Int)(I:List InD)(k:Nat)(hk:k<I.length)(S L:List Zf)(ht:Wz (I[k].1,I[k].2.1) L=none):Zm h (I.drop k) S L=(7,[],[]):=by
 rw[List.drop_eq_getElem_cons hk,Zm,ht]
theorem Tz(h:Int)(I:List InD)(k:Nat)(hk:k<I.length)(S L M:List Zf)(c:Zf)(ht:Wz (I[k].1,I[k].2.1) L=some (c,M))(hl:cr c=true∧h<ch c+2):Zm h (I.drop k) S L=(10,[],[]):=by
 rw[List.drop_eq_getElem_cons hk,Zm,ht];simp only;rw[if_pos hl]
theorem Gb(h:Int)(I:List InD)(k:Nat)(hk:k<I.length)(S L M:List Zf)(c:Zf)(ht:Wz (I[k].1,I[k].2.1) L=some (c,M))(hl:¬(cr c=true∧h<ch c+2))(ho:Y1 (ck c) I[k].2.2 h=false):Zm h (I.drop k) S L=(8,[],[]):=by
 rw[List.drop_eq_getElem_cons hk,Zm,ht];simp only;rw[if_neg hl,if_pos ho]
theorem Hy(h:Int)(I:List InD)(k:Nat)(hk:k<I.length)(S L M:List Zf)(c:Zf)(ht:Wz (I[k].1,I[k].2.1) L=some (c,M))(hl:¬(cr c=true∧h<ch c+2))(ho:Y1 (ck c) I[k].2.2 h=true):Zm h (I.drop k) S L=Zm h (I.drop (k+1)) (S++[c]) M:=by
 rw[List.drop_eq_getElem_cons hk,Zm,ht];simp only;rw[if_neg hl,if_neg (by rw[ho];decide)]
theorem Gc(h:Int)(I:List InD)(k:Nat)(hk:I.length≤k)(S L:List Zf):Zm h (I.drop k) S L=(0,S,L):=by
 rw[List.drop_of_length_le hk,Zm]
theorem Pe{q:PtD}{L M:List Zf}{c:Zf}(h:Wz q L=some (c,M))(hs:Srt L):Srt M:=by
 rw[(R8 h).2.2];exact hs.filter _
theorem Zgt{l k:List (Int×Int)}{h:Int}(q:Y1 l k h=true):Vg l k h=0:=by
 unfold Y1 at q
 rw[Bool.and_eq_true,decide_eq_true_eq] at q
 exact q.1
theorem Zgs(a ak:Option Addr)(len cap lenk capk:Nat)(l k:List (Int×Int))(h:Int)(b:Bool)(x:Int)(w:World)(hO:OpsAt w a len l)(hK:OpsAt w ak lenk k)(hb:Y1 l k h=b)(hx:Vg l k h=x) :
  Calls Tryz.prog 170 #[.slice a len cap,.slice ak lenk capk,.int .i64 h] w fun e w'=>e = .returned (.tuple #[.bool b,.int .i64 x])∧Below w.heap.size w w':=by
 subst hb hx;exact Zds a ak len cap lenk capk l k h w hO hK
theorem Zp(w:World)(a b c:Value)(t:TypeId):(w.alloc (.cells #[a,b,c] t)).heap[w.heap.size]? = some (.cells [a,b,c].toArray t (0,0)):=heap_alloc_new w _
def Spent(w0 w':World)(p ni:Nat)(K:List CV)(S M:List Zf)(a':Option Addr)(n' c':Nat):Prop:=
 ∃ (v':Value) (K' T:List CV),T.map (·.1)=S∧K'.map (·.1)=M∧Srt M∧K'.length≤K.length∧n'=T.length∧T.length=ni∧w'.ownsRow w0.heap.size 103 6 (.slice a' n' c') n' (Zj T)∧(∀ z∈T,LkAt w0 z)∧(∀ z∈K',z∈K)∧(∀ z∈T,z∈K)∧Pu w0 w' p v' K'∧(∃ s,(Value.slice a' n' c').ownBlock=some s∧v'.ownBlock≠some s∧s≠p)
set_option maxRecDepth 10000 in
theorem Zft(w0 w:World)(p:Nat)(v:Value)(K:List CV)(ai:Option Addr)(ni ci:Nat)(I:List InD)(h:Int)(x:Int)(S M:List Zf)(hP:Pu w0 w p v K)(hs:Srt (K.map (·.1)))(hn:K.length≤4096)(hr:∀ z∈K,ck1 z.1=0)(hI:InsAt w0 ai ni I)(hni:ni≤6)(hx:Zm h I [] (K.map (·.1))=(x,S,M)) :
  Calls Tryz.prog 141 #[.pointer (some ⟨p,0,none⟩),.slice ai ni ci,.int .i64 h] w fun e w'=>∃ a' n' c',e = .returned (.tuple #[.slice a' n' c',.int .i64 x])∧Below w0.heap.size w0 w' ∧
   (x=0→Spent w0 w' p ni K S M a' n' c'):=by
 obtain⟨i0,hi0,hz0,hz1,hz2⟩:=info_parts Tryz.infoCoin
 have hB:w0.heap.size≤w.heap.size:=hP.bel.size
 have hpw:p<w.heap.size:=hP.lt
 have HP:=Zb hP
 have HS:=Zb hs
 have HR:=Zb hr
 have HI:=Zb hI
 have HZ:=Zb hI.1
 have HX:=Zb hx
 clear hP hs hr hI hx
 go_enter Tryz.func141,Tryz.ntmps141
 go_wp2_with (at_make;refine wpList_make_full _ rfl _ _ 29 rfl w0.heap.size 103 i0 zeroC 6 Tryz.underlying29 hi0 hz0 hz1 .i64 .i64 _ _ ni rfl rfl rfl rfl (by rw[hz2];omega) (by unfold maxLen;omega) hB ?_;intro w2 hown2 hgrow2)
 rw[Zdx] at hown2
 have hbw2:Below w.heap.size w w2:=(Below.refl _ _).grown hgrow2 (Nat.le_refl _) (fun k h=>by cases h)
 have hs2:w.heap.size<w2.heap.size:=(hown2.lt w.heap.size rfl).2
 have ST:Hid (Pu w0 w2 p v K∧w2.ownsRow w0.heap.size 103 6 (.slice (some ⟨w.heap.size,0,none⟩) ni ni) ni (Zj ([]++List.replicate (ni - 0) Uq))∧v.ownBlock≠some w.heap.size):=
  ⟨(Za HP).kept hbw2,hown2,fun e=>by have:=((Za HP).own.lt _ e).2;omega⟩
 clear hown2 hgrow2 hbw2
 go_loopw [20] (fun i wr=>∃ (k:Nat) (T K':List CV) (v':Value),k≤ni∧i = .int .i64 k∧Hid (Zm h I [] (K.map (·.1))=Zm h (I.drop k) (T.map (·.1)) (K'.map (·.1)))∧Hid (Srt (K'.map (·.1)))∧K'.length≤K.length∧Hid (T.length=k)∧Hid ((∀ z∈K',z∈K)∧(∀ z∈T,z∈K)) ∧
  Hid (Pu w0 wr p v' K')∧Hid (wr.ownsRow w0.heap.size 103 6 (.slice (some ⟨w.heap.size,0,none⟩) ni ni) ni (Zj (T++List.replicate (ni - k) Uq)))∧Hid (∀ z∈T,LkAt w0 z)∧Hid (v'.ownBlock≠some w.heap.size)∧w.heap.size<wr.heap.size) (fun i _=>ni - (intOf i).toNat)
 case atStart=>exact⟨0,[],K,v,Nat.zero_le _,rfl,rfl,HS,Nat.le_refl _,rfl,⟨fun z hz=>hz,fun z hz=>(by cases hz)⟩,(Za ST).1,(Za ST).2.1,(fun z hz=>(by cases hz):∀ z∈([]:List CV),LkAt w0 z),(Za ST).2.2,hs2⟩
 case round=>
  obtain⟨k,T,K',v',hk,rfl,A,HS',hKl,HT,HSub,HP',HO',HL,HNE,hsr⟩:=hrel
  clear ST HS
  by_cases hlt:k<ni
  ·have hlk:k<I.length:=by rw[Za HZ];exact hlt
   obtain⟨b,off,rfl,hbl,hcell⟩:=(Za HI).2 (by omega)
   have hin0:=hcell k hlk
   have E1:=Zb (Ty h I k hlk (T.map (·.1)) (K'.map (·.1)))
   have E2:=Zb (Tz h I k hlk (T.map (·.1)) (K'.map (·.1)))
   have E3:=Zb (Gb h I k hlk (T.map (·.1)) (K'.map (·.1)))
   have E4:=Zb (Hy h I k hlk (T.map (·.1)) (K'.map (·.1)))
   obtain⟨y,hy⟩:∃ y,I[k]=y:=⟨_,rfl⟩
   rw[hy] at hin0 E1 E2 E3 E4
   obtain⟨y1,y2,key⟩:=y
   obtain⟨g1',g2',ka,kn,kc,g3',g4,_⟩:=hin0
   have g1:=Zc (Za HP').bel g1'
   have g2:=Zc (Za HP').bel g2'
   have g3:=Zc (Za HP').bel g3'
   have HKEY:Hid (OpsAt w0 ka kn key):=g4
   clear g1' g2' g3' g4
   simp only at g1 g2 g3 E1 E2 E3 E4
   obtain⟨X,hX⟩:∃ X,X=wr.alloc (.cells #[.int .i64 y1,.int .i64 y2,.slice ka kn kc] 124):=⟨_,rfl⟩
   have hbX:Below wr.heap.size wr X:=by rw[hX];exact Zg _ _
   have hX1:X.heap[wr.heap.size]? = some (.cells [.int .i64 y1,.int .i64 y2,.slice ka kn kc].toArray 124 (0,0)):=by rw[hX];exact Zp _ _ _ _ _
   have hPX:=(Za HP').kept hbX
   have hOX:=(Gr.of (S:=fun _=>False) hbX).own (Za HO') (fun _ _ q=>q)
   have x0:=Zd hX1 0 _ rfl
   have x1:=Zd hX1 1 _ rfl
   have hxl:wr.heap.size<X.heap.size:=lt_of_block hX1
   have HX1:=Zb hX1
   have HPX:=Zb hPX
   have HOX:=Zb hOX
   have hpr:p<wr.heap.size:=(Za HP').lt
   cases hf:Xy (y1,y2) (K'.map (·.1)) with
   | false=>
    have C:=Zb (Et w0 X p v' K' (y1,y2) hPX (Za HS') (by omega) hf)
    have R:Hid (x=7):=by
     have e:=Za A
     rw[(Za E1) (Eg hf),Za HX] at e
     injection e
    clear E1 E2 E3 E4 hbX hX1 hPX hOX hf hy A
    go_wp2_with fail
    rw[←hX]
    clear hX
    go_wp2_with fail
    refine (Za C).mono ?_
    rintro e w3 ⟨rfl,hb3⟩
    have HB3:=Zb (((Za HPX).kept hb3).bel)
    unfold zeroC
    clear hb3
    go_wp2
    go_ret2
    exact⟨_,_,_,by rw[Za R];rfl,Ze (Za HB3) (Zg _ _),fun e=>absurd e (by rw[Za R];decide)⟩
   | true=>
    have C:=Zb (Es w0 X p v' K' (y1,y2) hPX (Za HS') (by omega) hf)
    clear hbX hX1 hPX hOX hf hy
    go_wp2_with fail
    rw[←hX]
    clear hX
    go_wp2_with fail
    refine (Za C).mono ?_
    rintro e w3 ⟨z,v3,K3,rfl,ht,hzm,hsub,hlen,hP3,hG3,hv3⟩
    have hzK:z∈K:=(Za HSub).1 z hzm
    have hzr:=Wj ((Za HR) z hzK)
    have hzl:=(Za HP').lk z hzm
    have hch1:1≤ch z.1:=hzr.2.2.2.2.2.2.1
    have hch2:ch z.1≤1000:=hzr.2.2.2.2.2.2.2.1
    have hsrt3:=Pe ht (Za HS')
    have hnS:¬PuS p v' wr.heap.size:=by
     rintro (e|e)
     ·omega
     ·have:=((Za HP').own.lt _ e).2;omega
    have hh3:=hG3.heap (Za HX1) hnS
    have hnS2:¬PuS p v' w.heap.size:=by
     rintro (e|e)
     ·omega
     ·exact (Za HNE) e
    have hO3:=hG3.own (Za HOX) (fun q hq=>by cases hq;exact hnS2)
    have E2':=Zb ((Za E2) _ _ ht)
    have E3':=Zb ((Za E3) _ _ ht)
    have E4':=Zb ((Za E4) _ _ ht)
    obtain⟨Y,hY⟩:∃ Y,Y=w3.alloc (.cells #[.int .i64 z.1.1,.int .i64 z.1.2.1,.int .i64 (cv z.1),.slice z.2.1 z.2.2.1 z.2.2.2,.int .i64 (ch z.1),.bool (cr z.1)] 103):=⟨_,rfl⟩
    have hbY:Below w3.heap.size w3 Y:=by rw[hY];exact Zg _ _
    have hY1:Y.heap[w3.heap.size]? = some (.cells (Al z).toArray 103 (0,0)):=by rw[hY];exact Qn _ _ _ _ _ _ _ _
    have hPY:=hP3.kept hbY
    have hOY:=(Gr.of (S:=fun _=>False) hbY).own hO3 (fun _ _ q=>q)
    have hhY:=(hbY.block _ (lt_of_block hh3)).trans hh3
    have hw3r:wr.heap.size<w3.heap.size:=lt_of_block hh3
    have hyl:w3.heap.size<Y.heap.size:=lt_of_block hY1
    have q2:=Zd hhY 2 _ rfl
    have q3:=Zd hh3 2 _ rfl
    have r3:=Zd hY1 3 _ rfl
    have r4:=Zd hY1 4 _ rfl
    have r5:=Zd hY1 5 _ rfl
    have OP:=Zb (fun bb xx hb hx=>Zgs z.2.1 ka z.2.2.1 z.2.2.2 kn kc (ck z.1) key h bb xx Y (hzl.1.later hPY.bel) ((Za HKEY).later hPY.bel) hb hx)
    by_cases hla:cr z.1=true∧h<ch z.1+2
    ·have R:Hid (x=10):=by
      have e:=Za A
      rw[(Za E2') hla,Za HX] at e
      injection e
     have hc1:cr z.1=true:=hla.1
     have hc2:h<ch z.1+2:=hla.2
     have HBY:=Zb hPY.bel
     rw[hc1] at hY r5
     unfold cnV
     rw[hc1]
     clear E1 E2 E3 E4 E2' E3' E4' A hla C hbY hY1 hPY hOY hhY hP3 hG3 hO3 hh3 ht hsub hsrt3 hzl hzr hnS hnS2 q2 r3 g1 g2 g3 x0 x1
     go_wp2_with fail
     rw[←hY]
     clear hY
     go_wp2
     go_ret2
     exact⟨_,_,_,by rw[Za R];rfl,Za HBY,fun e=>absurd e (by rw[Za R];decide)⟩
    ·have hD:Hid ((cr z.1 && decide (h<ch z.1+2))=false):=by
      show _=_
      rw[Bool.and_eq_false_iff,decide_eq_false_iff_not]
      cases q:cr z.1 with
      | true=>exact .inr fun e=>hla ⟨q,e⟩
      | false=>exact .inl rfl
     obtain⟨bb,hbb⟩:∃ bb,Y1 (ck z.1) key h=bb:=⟨_,rfl⟩
     obtain⟨xx,hxx⟩:∃ xx,Vg (ck z.1) key h=xx:=⟨_,rfl⟩
     have OP2:=Zb ((Za OP) bb xx hbb hxx)
     have HPY:=Zb hPY
     have HOY:=Zb hOY
     have HY1:=Zb hY1
     have hv3s:v3.ownBlock≠some w.heap.size:=by rw[hv3];exact Za HNE
     have HV3:=Zb hv3s
     have HS3:=Zb hsrt3
     have HSUB:=Zb hsub
     have HZL:=Zb hzl
     have HZK:=Zb hzK
     have HHY:=Zb hhY
     obtain⟨hd,hdd⟩:∃ hd,ch z.1=hd:=⟨_,rfl⟩
     obtain⟨rr,hrr⟩:∃ rr,cr z.1=rr:=⟨_,rfl⟩
     cases bb with
     | false=>
      have R:Hid (x=8):=by
       have e:=Za A
       rw[(Za E3') hla hbb,Za HX] at e
       injection e
      unfold cnV
      rw[hdd] at hD hY r4 hch1 hch2 ⊢
      rw[hrr] at hD hY r5 ⊢
      clear E1 E2 E3 E4 E2' E3' E4' A hla C hbY hY1 hPY hOY hhY hP3 hG3 hO3 hh3 ht hsub hsrt3 hzl hzr hnS hnS2 g1 g2 g3 x0 x1 OP hbb hxx hv3s hdd hrr
      cases rr with
      | false=>
       clear hD
       go_wp2_with fail
       rw[←hY]
       clear hY
       refine (Za OP2).mono ?_
       rintro e w5 ⟨rfl,hb5⟩
       have HB5:=Zb ((Za HPY).kept hb5).bel
       clear hb5
       go_wp2
       go_ret2
       exact⟨_,_,_,by rw[Za R];rfl,Za HB5,fun e=>absurd e (by rw[Za R];decide)⟩
      | true=>
       have hD2:¬(h<hd+2):=by have:=Za hD;simpa using this
       clear hD
       go_wp2_with fail
       rw[←hY]
       clear hY
       refine (Za OP2).mono ?_
       rintro e w5 ⟨rfl,hb5⟩
       have HB5:=Zb ((Za HPY).kept hb5).bel
       clear hb5
       go_wp2
       go_ret2
       exact⟨_,_,_,by rw[Za R];rfl,Za HB5,fun e=>absurd e (by rw[Za R];decide)⟩
     | true=>
      have hxx0:xx=0:=by rw[←hxx];exact Zgt hbb
      subst hxx0
      have A2:Hid (Zm h I [] (K.map (·.1))=Zm h (I.drop (k+1)) ((T++[z]).map (·.1)) (K3.map (·.1))):=by
       show _=_
       rw[Za A,(Za E4') hla hbb,List.map_append];rfl
      have HR':Hid (T++List.replicate (ni - k) Uq=T++Uq :: List.replicate (ni - (k+1)) Uq):=by
       show _=_
       rw[show ni - k=(ni - (k+1))+1 by omega,List.replicate_succ]
      have HLEN:Hid (K3.length≤K.length):=by show _≤_;omega
      have hkI:(k:Int)<(ni:Int):=by omega
      unfold cnV
      rw[hdd] at hD hY r4 hch1 hch2 ⊢
      rw[hrr] at hD hY r5 ⊢
      have HDD:=Zb hdd
      have HRR:=Zb hrr
      clear E1 E2 E3 E4 E2' E3' E4' A hla C hbY hY1 hPY hOY hhY hP3 hG3 hO3 hh3 ht hsub hsrt3 hzl hzr hnS hnS2 g1 g2 g3 x0 x1 OP hbb hxx hv3s hdd hrr
      have TAIL:Hid (∀ w5,Below Y.heap.size Y w5→(w5.cell? ⟨w3.heap.size,0,none⟩=some (.int .i64 z.1.1)∧w5.cell? ⟨w3.heap.size,1,none⟩=some (.int .i64 z.1.2.1)∧w5.cell? ⟨w3.heap.size,2,none⟩=some (.int .i64 (cv z.1))∧w5.cell? ⟨w3.heap.size,3,none⟩=some (.slice z.2.1 z.2.2.1 z.2.2.2)∧w5.cell? ⟨w3.heap.size,4,none⟩=some (.int .i64 hd)∧w5.cell? ⟨w3.heap.size,5,none⟩=some (.bool rr)) ∧
        (∃ u0 u1 u2 u3 u4 u5,w5.cell? ⟨w.heap.size,k*6,none⟩=some u0∧w5.cell? ⟨w.heap.size,k*6+1,none⟩=some u1∧w5.cell? ⟨w.heap.size,k*6+2,none⟩=some u2∧w5.cell? ⟨w.heap.size,k*6+3,none⟩=some u3∧w5.cell? ⟨w.heap.size,k*6+4,none⟩=some u4∧w5.cell? ⟨w.heap.size,k*6+5,none⟩=some u5)∧(∀ j,w5.frozen? ⟨w.heap.size,j,none⟩=false)∧w.heap.size<w5.heap.size ∧
        Hid (∃ (T' K':List CV) (v':Value),Hid (Zm h I [] (K.map (·.1))=Zm h (I.drop (k+1)) (T'.map (·.1)) (K'.map (·.1)))∧Hid (Srt (K'.map (·.1)))∧K'.length≤K.length∧Hid (T'.length=k+1)∧Hid ((∀ z∈K',z∈K)∧(∀ z∈T',z∈K)) ∧
         Hid (Pu w0 ((((((w5.setCell ⟨w.heap.size,k*6,none⟩ (.int .i64 z.1.1)).setCell ⟨w.heap.size,k*6+1,none⟩ (.int .i64 z.1.2.1)).setCell ⟨w.heap.size,k*6+2,none⟩ (.int .i64 (cv z.1))).setCell ⟨w.heap.size,k*6+3,none⟩ (.slice z.2.1 z.2.2.1 z.2.2.2)).setCell ⟨w.heap.size,k*6+4,none⟩ (.int .i64 hd)).setCell ⟨w.heap.size,k*6+5,none⟩ (.bool rr)) p v' K') ∧
         Hid (((((((w5.setCell ⟨w.heap.size,k*6,none⟩ (.int .i64 z.1.1)).setCell ⟨w.heap.size,k*6+1,none⟩ (.int .i64 z.1.2.1)).setCell ⟨w.heap.size,k*6+2,none⟩ (.int .i64 (cv z.1))).setCell ⟨w.heap.size,k*6+3,none⟩ (.slice z.2.1 z.2.2.1 z.2.2.2)).setCell ⟨w.heap.size,k*6+4,none⟩ (.int .i64 hd)).setCell ⟨w.heap.size,k*6+5,none⟩ (.bool rr)).ownsRow w0.heap.size 103 6 (.slice (some ⟨w.heap.size,0,none⟩) ni ni) ni (Zj (T'++List.replicate (ni - (k+1)) Uq)))∧Hid (∀ z∈T',LkAt w0 z)∧Hid (v'.ownBlock≠some w.heap.size) ∧
         w.heap.size<((((((w5.setCell ⟨w.heap.size,k*6,none⟩ (.int .i64 z.1.1)).setCell ⟨w.heap.size,k*6+1,none⟩ (.int .i64 z.1.2.1)).setCell ⟨w.heap.size,k*6+2,none⟩ (.int .i64 (cv z.1))).setCell ⟨w.heap.size,k*6+3,none⟩ (.slice z.2.1 z.2.2.1 z.2.2.2)).setCell ⟨w.heap.size,k*6+4,none⟩ (.int .i64 hd)).setCell ⟨w.heap.size,k*6+5,none⟩ (.bool rr)).heap.size)):=by
       intro w5 hb5
       have hy5:=(hb5.block _ (lt_of_block (Za HY1))).trans (Za HY1)
       have hP5:=(Za HPY).kept hb5
       have hO5:=(Gr.of (S:=fun _=>False) hb5).own (Za HOY) (fun _ _ q=>q)
       rw[Za HR'] at hO5
       have hTk:=Za HT
       have hat:∀ j,j<6→w5.cell? ⟨w.heap.size,k*6+j,none⟩=(Al Uq)[j]?:=fun j hj=>by
        rw[World.ownsRow.cellAt hO5 _ (by omega),←hTk,Jk _ _ _ j hj]
       refine⟨⟨Zd hy5 0 _ rfl,Zd hy5 1 _ rfl,Zd hy5 2 _ rfl,Zd hy5 3 _ rfl,by rw[←Za HDD];exact Zd hy5 4 _ rfl,by rw[←Za HRR];exact Zd hy5 5 _ rfl⟩,
        ⟨_,_,_,_,_,_,(hat 0 (by decide)).trans rfl,(hat 1 (by decide)).trans rfl,(hat 2 (by decide)).trans rfl,(hat 3 (by decide)).trans rfl,(hat 4 (by decide)).trans rfl,(hat 5 (by decide)).trans rfl⟩,fun j=>hO5.frozenAt j,(hO5.lt _ rfl).2,?_⟩
       have hG:=(Gr.refl w5 (fun q=>q=w.heap.size)).sixAt w.heap.size (k*6) (.inl rfl) (.int .i64 z.1.1) (.int .i64 z.1.2.1) (.int .i64 (cv z.1)) (.slice z.2.1 z.2.2.1 z.2.2.2) (.int .i64 hd) (.bool rr)
       have hO6:=Zbj hO5 (k*6) (.int .i64 z.1.1) (.int .i64 z.1.2.1) (.int .i64 (cv z.1)) (.slice z.2.1 z.2.2.1 z.2.2.2) (.int .i64 hd) (.bool rr)
       rw[←Za HDD,←Za HRR] at hO6 hG ⊢
       have hset:=Ry T (List.replicate (ni - (k+1)) Uq) Uq z
       rw[hTk] at hset
       rw[hset] at hO6
       refine⟨T++[z],K3,v3,A2,HS3,Za HLEN,?_,?_,?_,?_,?_,HV3,Nat.lt_of_lt_of_le (hO5.lt _ rfl).2 hG.size⟩
       ·show _=_;rw[List.length_append,hTk];rfl
       ·refine⟨fun q hq=>(Za HSub).1 q ((Za HSUB) q hq),fun q hq=>?_⟩
        rcases List.mem_append.1 hq with hq|hq
        ·exact (Za HSub).2 q hq
        ·rw[List.mem_singleton.1 hq];exact Za HZK
       ·refine⟨hG.below hP5.bel hP5.bel.size (fun q hq=>by rw[hq];exact hB),hP5.ge,hG.heap hP5.box (by omega),hG.own hP5.own (fun q hq e=>(Za HV3) (by rw[hq,e])),hP5.ne,hP5.lk⟩
       ·show World.ownsRow _ _ _ _ _ _ _
        rw[List.append_assoc]
        exact hO6
       ·intro q hq
        rcases List.mem_append.1 hq with hq|hq
        ·exact (Za HL) q hq
        ·rw[List.mem_singleton.1 hq];exact Za HZL
      cases rr with
      | false=>
       clear hD
       go_wp2_with fail
       rw[←hY]
       clear hY
       refine (Za OP2).mono ?_
       rintro e w5 ⟨rfl,hb5⟩
       obtain⟨⟨s0,s1,s2,s3,s4,s5⟩,⟨u0,u1,u2,u3,u4,u5,t0,t1,t2,t3,t4,t5⟩,hfz,hsl5,HEND⟩:=(Za TAIL) w5 hb5
       have z0:=hfz (k*6)
       have z1:=hfz (k*6+1)
       have z2:=hfz (k*6+2)
       have z3:=hfz (k*6+3)
       have z4:=hfz (k*6+4)
       have z5:=hfz (k*6+5)
       have hb5s:=hb5.size
       have m5:w3.heap.size<w5.heap.size:=World.block_lt_of_cell? _ _ s0
       have n1:¬(w3.heap.size=w.heap.size):=by omega
       have n2:¬(w.heap.size=w3.heap.size):=by omega
       clear hb5 hfz TAIL OP2 q2 q3 r3 r4 r5
       go_wp2
       go_roundw
       case rel=>
        obtain⟨T',K',v',f1,f2,f3,f4,f5,f6,f7,f8,f9,f10⟩:=Za HEND
        exact⟨k+1,T',K',v',by omega,by go_num,f1,f2,f3,f4,f5,f6,f7,f8,f9,f10⟩
       case measure=>simp[intOf];omega
      | true=>
       have hD2:¬(h<hd+2):=by have:=Za hD;simpa using this
       clear hD
       go_wp2_with fail
       rw[←hY]
       clear hY
       refine (Za OP2).mono ?_
       rintro e w5 ⟨rfl,hb5⟩
       obtain⟨⟨s0,s1,s2,s3,s4,s5⟩,⟨u0,u1,u2,u3,u4,u5,t0,t1,t2,t3,t4,t5⟩,hfz,hsl5,HEND⟩:=(Za TAIL) w5 hb5
       have z0:=hfz (k*6)
       have z1:=hfz (k*6+1)
       have z2:=hfz (k*6+2)
       have z3:=hfz (k*6+3)
       have z4:=hfz (k*6+4)
       have z5:=hfz (k*6+5)
       have hb5s:=hb5.size
       have m5:w3.heap.size<w5.heap.size:=World.block_lt_of_cell? _ _ s0
       have n1:¬(w3.heap.size=w.heap.size):=by omega
       have n2:¬(w.heap.size=w3.heap.size):=by omega
       clear hb5 hfz TAIL OP2 q2 q3 r3 r4 r5
       go_wp2
       go_roundw
       case rel=>
        obtain⟨T',K',v',f1,f2,f3,f4,f5,f6,f7,f8,f9,f10⟩:=Za HEND
        exact⟨k+1,T',K',v',by omega,by go_num,f1,f2,f3,f4,f5,f6,f7,f8,f9,f10⟩
       case measure=>simp[intOf];omega
  ·have e:k=ni:=by omega
   subst e
   have R:=Za A
   rw[Gc h I k (by rw[Za HZ];exact Nat.le_refl _),Za HX] at R
   have R1:Hid (x=0):=by show _=_;injection R
   have R2:S=T.map (·.1):=by injection R with _ R;injection R
   have R3:M=K'.map (·.1):=by injection R with _ R;injection R
   subst R2 R3
   have HO2:Hid (wr.ownsRow w0.heap.size 103 6 (.slice (some ⟨w.heap.size,0,none⟩) k k) k (Zj T)):=by
    have:=Za HO'
    rw[Nat.sub_self,List.replicate_zero,List.append_nil] at this
    exact this
   clear R A HO'
   go_wp2
   go_ret2
   exact⟨some ⟨w.heap.size,0,none⟩,k,k,by rw[Za R1];rfl,(Za HP').bel,fun _=>⟨v',K',T,rfl,rfl,Za HS',hKl,(Za HT).symm,Za HT,Za HO2,Za HL,(Za HSub).1,(Za HSub).2,Za HP',w.heap.size,rfl,Za HNE,by omega⟩⟩
end Go.Proofs.YtpikejjiignchaaGreatDoor
