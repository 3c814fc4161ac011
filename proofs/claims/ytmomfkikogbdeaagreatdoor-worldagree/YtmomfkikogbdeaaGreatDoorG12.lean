import Derived.Test.YtmomfkikogbdeaaGreatDoorH
import Derived.Test.YtmomfkikogbdeaaGreatDoorG1
import Derived.Test.YtmomfkikogbdeaaGreatDoorG11
open Go.Proofs.Tryz
open Bool renaming and_eq_true->cG
open Go renaming rounds_succ->bK,heap_alloc_new->aG,lt_of_block->aA
open Go.Ending renaming returned->dF
open Go.IntKind renaming i64->J
open Go.Obj renaming cells->dE
open Go.Proofs.Tryz renaming prog->aB
open Go.Value renaming int->E,slice->F,tuple->dG,pointer->dH,bool->dI
open Go.World renaming block_lt_of_cell?->aE
open List renaming length_eq_zero_iff->aL,replicate->aR,drop_eq_getElem_cons->aJ,mem_append->bL,mem_singleton->cP,mem_cons->aO
open Nat renaming le_trans->aN,lt_of_lt_of_le->aD,zero_le->aI,le_refl->aF
set_option maxHeartbeats 12800000
namespace Go.Proofs.YtmomfkikogbdeaaGreatDoor
open Go.RowKit
theorem Zas{w:World}{base:Nat}{e:TypeId}{v}{n:Nat}{Z:List Int}(h:w.ownsRow base e 1 v n (Z.map (Value.int .i64))):∃ a cap,v = F a n cap/\RowAt w a n Z:=by
 have hl:Z.length=n:=by have:=h.1;simpa using this
 rcases h.2 with ⟨rfl,rfl⟩|⟨g,cap,ab,rfl,_,_,h1,h2,_,_⟩
 ·have e:Z=[]:=aL.1 hl;subst e;exact⟨none,0,rfl,RowAt.nil _ _⟩
 ·refine⟨_,cap,rfl,hl,aN h1 h2,λ_=>⟨g,0,rfl,λi hi=>?_⟩⟩;rw[Nat.zero_add,World.ownsRow.cellAt h i (by omega)];simp[hl,hi]
theorem Tryz.arr358:Tryz.prog.underlying 358=some (.array (Tryz.prog.arrayLen 358) (Tryz.prog.elem 358)):=by kernel_rfl
theorem Tryz.len358:Tryz.prog.arrayLen 358=16:=by kernel_rfl
theorem Tryz.el358:Tryz.prog.elem 358=3:=by kernel_rfl
theorem A9(p n:Nat)(h:n<=16)(w):(Instr.sliceAt 358 (dH (some ⟨p,0,none⟩)) none (some (E J n)) none).run aB w = .ok (F (some ⟨p,0,none⟩) n 16) w:=by
 rw[run_sliceAt_array_h w 358 ⟨p,0,none⟩ Tryz.arr358 .i64 n (by omega) (by rw[Tryz.len358];omega),Tryz.el358,Tryz.len358,Tryz.sizeOf3];simp[Result.andThen,slicedAt,Addr.add]
set_option maxRecDepth 100000 in
theorem Zkp(p:Nat)(s:MS)(W w:World)(hm:Mach p s W w) :
  Calls aB 282 #[dH (some ⟨p,0,none⟩)] w λe w'=>∃ a cap,e = dF (F a s.n cap)/\RowAt w' a s.n (s.cs.take s.n)/\ZD w w':=by
 have c1:=hm.cell_n;have hn:=hm.good.2.1;have hl:=hm.good.1;have HC:Hid (∀ j,j<s.cs.length->w.cell? ⟨p,0+j,none⟩=some (E J (s.cs.getD j 0))):=λj hj=>by rw[Nat.zero_add];exact hm.cell_s j (by omega)
 have an:=A9 p s.n hn;clear hm;go_enter func282,ntmps282;go_wp2
 go_region_with (go_at_call 47;refine (Tryz.slices_Clone_int p 0 s.n 16 s.cs _ ?_ ?_ ?_).mono ?_;omega;omega;exact HC;rintro e w' ⟨v,rfl,ac,aj,hb⟩)
 all_goals
  obtain⟨a,cap,rfl,ad⟩:=Zas ac;have HR:=Zd ad;have HB:Hid (ZD w w'):=⟨hb.os,hb.tape,hb.output,hb.size,hb.block⟩;clear ac aj hb ad;go_wp2;go_ret;exact⟨a,cap,rfl,Za HR,Za HB⟩
theorem Ziy{l Z}{h:Int}(e:chk l≠0):Tb l Z h=chk l/\Gt l Z h=[]:=by
 have h1:Tb l Z h=chk l:=by unfold Tb;rw[if_neg e]
 exact⟨h1,by unfold Gt;rw[h1,if_neg e]⟩
theorem Ka{l Z}{h:Int}(e:chk l=0)(g:(Ya Z && hOk h)=false):Tb l Z h=3/\Gt l Z h=[]:=by
 have h1:Tb l Z h=3:=by unfold Tb;rw[if_pos e,g];rfl
 exact⟨h1,by unfold Gt;rw[h1];rfl⟩
theorem Kb{l Z}{h:Int}(e:chk l=0)(g:(Ya Z && hOk h)=true)(r:Wg h l Z=none):Tb l Z h=8/\Gt l Z h=[]:=by
 have h1:Tb l Z h=8:=by unfold Tb;rw[if_pos e,g,r];rfl
 exact⟨h1,by unfold Gt;rw[h1];rfl⟩
theorem S9{l Z}{h:Int}{L}(e:chk l=0)(g:(Ya Z && hOk h)=true)(r:Wg h l Z=some L):Tb l Z h=0/\Gt l Z h=L:=by
 have h1:Tb l Z h=0:=by unfold Tb;rw[if_pos e,g,r];rfl
 exact⟨h1,by unfold Gt;rw[h1,r];rfl⟩
theorem Zix(p:Nat)(s:MS)(a cap W w)(hm:Mach p s W w) :
  Calls aB 281 #[dH (some ⟨p,0,none⟩),F a 0 cap] w λe w'=>e = dF (dG #[])/\∃ s',Mach p s' W w'/\s'.h=s.h/\s'.rep=s.rep.bind (Wg s.h []):=by
 have HM:=Zd hm;have ag:=hm.lt;clear hm;go_enter func281,ntmps281;go_wp2_with fail;refine (Kr p w ag).mono ?_;rintro e w1 ⟨rfl,ak,ab⟩;have an:=run_storeCells_new (P:=aB) w1 376 #[.nilFunc,.nilFunc,.nilFunc,.nilFunc,.nilFunc,.nilFunc,.nilFunc,.nilFunc,.nilFunc,.nilFunc,.nilFunc,.nilFunc,.nilFunc,.nilFunc] (Tf p (w.heap.size+1)) Tryz.size376 rfl (by simp[Tf,met,Zow,Zck,Value.oneCell']);have ap:(Tf p (w.heap.size+1)).size=14:=rfl;have af:Mach p s W w1:=⟨HM.good,(ab.block p ag).trans HM.block,λk hk hl=>(ab.block k (aD hl HM.size)).trans (HM.old k hk hl),aN HM.size ab.size,ab.os.trans HM.os,ab.tape.trans HM.tape,ab.output.trans HM.output⟩;have aj:=Zd (af.alloc (dE (Tf p (w.heap.size+1)) 376));clear ak ab af;go_wp2;refine wp_loop_rounds 1 ?_;rw[bK];go_wp2;go_end0;exact⟨rfl,s,Za aj,rfl,by cases s.rep <;> rfl⟩
theorem Zkj(p:Nat)(s:MS)(a len cap l)(W w:World)(hm:Mach p s W w)(hp:W.heap.size<=p)(hO:OpsAt W a len l)(aa:chk l=0) :
  Calls aB 281 #[dH (some ⟨p,0,none⟩),F a len cap] w λe w'=>e = dF (dG #[])/\∃ s',Mach p s' W w'/\s'.h=s.h/\s'.rep=s.rep.bind (Wg s.h l):=by
 obtain⟨hz,hc⟩:=hO
 have h16:len<=16:=by
  unfold chk at aa;split at aa
  ·cases aa
  ·omega
 have ah:U5 l=0:=by
  unfold chk at aa;split at aa
  ·cases aa
  ·exact aa
 by_cases h:len=0
 ·subst h;have e:l=[]:=aL.1 hz;subst e;exact Zix p s a cap W w hm
 ·obtain⟨b,off,rfl,ac⟩:=hc (by omega);exact Ziw p s b off len cap l W w hm hp hz h16 ah (aE _ _ (ac 0 (by omega)).1) ac
def fresh(h:Int):MS:=⟨aR 16 0,0,h,false⟩
theorem Zku(h:Int):(fresh h).ok:=⟨rfl,aI _,λx hx=>by rw[List.eq_of_mem_replicate hx];rfl⟩
theorem Zcb(h:Int)(w:World):Mach w.heap.size (fresh h) w (w.alloc (dE (fresh h).cells 360)) where
 good:=Zku h
 block:=aG _ _
 old:=λk _ hl=>Below.heap_alloc _ _ _ hl
 size:=by simp
 os:=rfl
 tape:=rfl
 output:=rfl
theorem Bi{s:MS}{L}(h:s.rep=some L):s.f=false/\s.cs.take s.n=L:=by
 unfold MS.rep at h;cases hf:s.f with
 | true=>rw[hf] at h;cases h
 | false=>rw[hf] at h;exact⟨rfl,by simpa using h⟩
theorem Bh{s:MS}(h:s.rep=none):s.f=true:=by
 unfold MS.rep at h;cases hf:s.f with
 | true=>rfl
 | false=>rw[hf] at h;cases h
theorem Zne(a cl len cap lens caps l Z)(h:Int)(w:World)(hO:OpsAt w a len l)(hR:RowAt w cl lens Z) :
  Calls aB 253 #[F a len cap,F cl lens caps,E J h] w λe w'=>∃ a' cd,e = dF (dG #[.slice a' (Gt l Z h).length cd,E J (Tb l Z h)])/\RowAt w' a' (Gt l Z h).length (Gt l Z h)/\ZD w w':=by
 obtain⟨CK,HO,HR⟩:=kh3 (V9 a len cap l w hO) hO hR;clear hO hR;by_cases af:chk l=0
 ·rw[af] at CK;have HK:=Zd af;clear af;go_enter func253,ntmps253;go_wp2_with fail;refine CK.mono ?_;rintro e w1 ⟨rfl,ae⟩;obtain⟨ab,bv,bz⟩:=kh3 ae (HO.later ae) (HR.later ae);clear ae;go_wp2_with fail;refine (Zau w1.heap.size (fresh h) cl lens caps Z w1 _ (Zcb h w1) (aF _) bz).mono ?_;rintro e w2 ⟨rfl,s',ax,bk,bq⟩;have ac:s'.rep=if Ya Z then some Z else none:=bq.trans (Zfm Z)
  have ap:s'.h=h:=bk;have cm:=ax.cell_f;have ar:=Zd ax;clear bq bk ax;cases hso:Ya Z with
  | false=>
   rw[hso] at ac;have hf:=Bh ac;have e:=Ka (h:=h) HK (show (Ya Z && hOk h)=false by rw[hso];rfl);have EE:=Zd e;rw[hf] at cm;clear e hf ac ap hso;go_wp2;go_ret2;rw[(Za EE).1,(Za EE).2];exact⟨none,0,rfl,RowAt.nil _ _,ab.trans ((ar.below (aF _)).mono ab.size)⟩
  | true=>
   rw[hso] at ac;have hf:=Bi ac;rw[hf.1] at cm;have HF:=Zd hf.2;clear hf;cases hho:hOk h with
   | false=>
    have e:=Ka HK (show (Ya Z && hOk h)=false by rw[hso,hho];rfl);obtain⟨EE,HH⟩:=kh2 e hho;clear e ac ap hso hho
    go_wp2_with (go_at_call 252;refine (Wu h false _ HH.symm).mono ?_;rintro e w' ⟨rfl,rfl⟩)
    go_ret2;rw[(Za EE).1,(Za EE).2];exact⟨none,0,rfl,RowAt.nil _ _,ab.trans ((ar.below (aF _)).mono ab.size)⟩
   | true=>
    obtain⟨HH,HS,ca,bt⟩:=kh4 hho hso ac ap;clear ac ap hso hho
    go_wp2_with (go_at_call 252;refine (Wu h true _ HH.symm).mono ?_;rintro e w' ⟨rfl,rfl⟩)
    refine (Zkj w1.heap.size s' a len cap l w1 _ ar (aF _) bv HK).mono ?_;rintro e w3 ⟨rfl,s3,ay,cf,az⟩;rw[Za ca,Za bt] at az;have aq:s3.rep=Wg h l Z:=az;have bh:=ay.cell_f;have am:=Zd ay;clear az cf ay cm;cases hrl:Wg h l Z with
    | none=>
     have ag:=Bh (aq.trans hrl);have e:=Kb HK (show (Ya Z && hOk h)=true by rw[Za HS,Za HH];rfl) hrl;have EE:=Zd e;rw[ag] at bh;clear e aq ag hrl;go_wp2;go_ret2;rw[(Za EE).1,(Za EE).2];exact⟨none,0,rfl,RowAt.nil _ _,ab.trans ((am.below (aF _)).mono ab.size)⟩
    | some L=>
     have ag:=Bi (aq.trans hrl);have e:=S9 HK (show (Ya Z && hOk h)=true by rw[Za HS,Za HH];rfl) hrl;have EE:=Zd e
     have bo:s3.n=L.length:=by
      have h1:=am.good.1;have h2:=am.good.2.1;rw[<-ag.2,List.length_take];omega
     rw[ag.1] at bh;have LF:=Zd (Zkp w1.heap.size s3 w1 w3 am);rw[ag.2,bo] at LF;clear e aq ag hrl bo;go_wp2_with fail;refine LF.mono ?_;rintro e w4 ⟨a4,ce,rfl,br,bj⟩;obtain⟨cb,bs⟩:=kh2 br bj;clear br bj;go_wp2;go_ret2;rw[(Za EE).1,(Za EE).2];have b3:=am.below (aF _);exact⟨a4,ce,rfl,Za cb,ab.trans ((b3.trans (bs.mono b3.size)).mono ab.size)⟩
 ·have e:=Ziy (Z:=Z) (h:=h) af;rw[e.1,e.2];obtain⟨x,hx⟩:=ZG (chk l);rw[<-hx] at af CK ⊢;have cj:(x != 0)=true:=by simp[af]
  clear e af hx;go_enter func253,ntmps253;go_wp2_with fail;refine CK.mono ?_;rintro e w1 ⟨rfl,ae⟩;have ab:=Zd ae;clear ae;go_wp2;go_ret2;exact⟨none,0,rfl,RowAt.nil _ _,Za ab⟩
theorem check_is(a len cap l)(x:Int)(w:World)(hx:chk l=x)(h:OpsAt w a len l) :
  ZH 249 #[F a len cap] w (E J x):=by
 subst hx;exact V9 a len cap l w h
theorem H9(a az len cap lens caps l Z)(h:Int)(x:Int)(L:List Int)(w:World)(hE:Tb l Z h=x)(hS:Gt l Z h=L)(hO:OpsAt w a len l)(hR:RowAt w az lens Z) :
  Calls aB 253 #[F a len cap,F az lens caps,E J h] w λe w'=>∃ a' ac,e = dF (dG #[F a' L.length ac,E J x])/\RowAt w' a' L.length L/\ZD w w':=by
 subst hE hS;exact Zne a az len cap lens caps l Z h w hO hR
theorem Vm{w w1 w2:World}(h1:ZD w w1)(h2:ZD w1 w2):ZD w w2:=h1.trans (h2.mono h1.size)
theorem Bb{h:Int}(hh:hOk h=true):(Ya [] && hOk h)=true:=by rw[hh];rfl
theorem N9(a b n c m d w) :
  (Instr.index 335 (.agg #[F a n c,F b m d]) (E J 0)).run aB w = .ok (F a n c) w /\
  (Instr.index 335 (.agg #[F a n c,F b m d]) (E J 1)).run aB w = .ok (F b m d) w:=by
 constructor <;> kernel_rfl
set_option maxRecDepth 100000 in
theorem Zfu(a cb len cap aj ak l k)(h:Int)(w:World)(hO:OpsAt w a len l)(hK:OpsAt w cb aj k) :
  ZH 206 #[F a len cap,F cb aj ak,E J h] w (dG #[dI (Y5 l k h),E J (Vd l k h)]):=by
 obtain⟨HO,HK⟩:=kh2 hO hK;have bz:=λw=>(N9 a cb len cap aj ak w).1;have ca:=λw=>(N9 a cb len cap aj ak w).2;clear hO hK;by_cases c1:chk l=0
 ·by_cases c2:chk k=0
  ·cases c3:hOk h with
   | false=>
    have eE:Vd l k h=3:=(by simp[Vd,c1,c2,c3]);have eB:Y5 l k h=false:=(by simp[Y5,eE]);rw[eE,eB];obtain⟨C1,C2,C3⟩:=kh3 c1 c2 c3;clear c1 c2 c3 eE eB;go_enter func206,ntmps206;go_wp2;refine wp_loop_rounds 3 ?_;rw[bK];go_wp2_with fail;refine (check_is a len cap l 0 _ C1 HO).mono ?_;rintro e w1 ⟨rfl,ac⟩;have ad:=Zd ac;clear ac;go_wp2;rw[bK];go_wp2_with fail;refine (check_is cb aj ak k 0 _ C2 (HK.later ad)).mono ?_;rintro e w2 ⟨rfl,af⟩;have ag:=Zd (Vm ad af);clear af;go_wp2;rw[bK]
    go_wp2_with (go_at_call 252;refine (Wu h false _ C3.symm).mono ?_;rintro e w' ⟨rfl,rfl⟩)
    go_ret2;exact⟨rfl,Za ag⟩
   | true=>
    have eE:Vd l k h=0:=(by simp[Vd,c1,c2,c3]);obtain⟨C1,C2,C3⟩:=kh3 c1 c2 c3;rw[eE];cases r1:Wg h k [] with
    | none=>
     have eB:Y5 l k h=false:=(by simp[Y5,r1]);rw[eB];have R1:=Zd (Kb c2 (Bb c3) r1);clear c1 c2 c3 eE eB r1;go_enter func206,ntmps206;go_wp2;refine wp_loop_rounds 3 ?_;rw[bK];go_wp2_with fail;refine (check_is a len cap l 0 _ C1 HO).mono ?_;rintro e w1 ⟨rfl,ac⟩;have ad:=Zd ac;clear ac;go_wp2;rw[bK];go_wp2_with fail;refine (check_is cb aj ak k 0 _ C2 (HK.later ad)).mono ?_;rintro e w2 ⟨rfl,af⟩;have ag:=Zd (Vm ad af);clear af;go_wp2;rw[bK]
     go_wp2_with (go_at_call 252;refine (Wu h true _ C3.symm).mono ?_;rintro e w' ⟨rfl,rfl⟩)
     refine (H9 cb none aj ak 0 0 k [] h 8 [] _ R1.1 R1.2 (HK.later ag) (RowAt.nil _ _)).mono ?_;rintro e w3 ⟨a3,be,rfl,_,ap⟩;have ar:=Zd (Vm ag ap);clear ap;go_wp2;go_ret2;exact⟨rfl,Za ar⟩
    | some L=>
     have sL:Ya L=true:=Zdo (by rfl) r1;have gL:(Ya L && hOk h)=true:=(by rw[sL,c3];rfl);have R1:=Zd (S9 c2 (Bb c3) r1);cases r2:Wg h l L with
     | none=>
      have eB:Y5 l k h=false:=(by simp[Y5,r1,r2]);rw[eB];have R2:=Zd (Kb c1 gL r2);clear c1 c2 c3 eE eB r1 r2 sL gL;go_enter func206,ntmps206;go_wp2;refine wp_loop_rounds 3 ?_;rw[bK];go_wp2_with fail;refine (check_is a len cap l 0 _ C1 HO).mono ?_;rintro e w1 ⟨rfl,ac⟩;have ad:=Zd ac;clear ac;go_wp2;rw[bK];go_wp2_with fail;refine (check_is cb aj ak k 0 _ C2 (HK.later ad)).mono ?_;rintro e w2 ⟨rfl,af⟩;have ag:=Zd (Vm ad af);clear af;go_wp2;rw[bK]
      go_wp2_with (go_at_call 252;refine (Wu h true _ C3.symm).mono ?_;rintro e w' ⟨rfl,rfl⟩)
      refine (H9 cb none aj ak 0 0 k [] h 0 L _ R1.1 R1.2 (HK.later ag) (RowAt.nil _ _)).mono ?_;rintro e w3 ⟨a3,be,rfl,ay,ap⟩;obtain⟨ar,bg⟩:=kh2 (Vm ag ap) ay;clear ap ay;go_wp2_with fail;refine (H9 a a3 len cap L.length be l L h 8 [] _ R2.1 R2.2 (HO.later ar) bg).mono ?_;rintro e w4 ⟨a4,bt,rfl,_,ax⟩;have bb:=Zd (Vm ar ax);clear ax;go_wp2;go_ret2;exact⟨rfl,Za bb⟩
     | some M=>
      have eB:Y5 l k h=Bz M:=(by simp[Y5,r1,r2,eE]);rw[eB];have R2:=Zd (S9 c1 gL r2);clear c1 c2 c3 eE eB r1 r2 sL gL;go_enter func206,ntmps206;go_wp2;refine wp_loop_rounds 3 ?_;rw[bK];go_wp2_with fail;refine (check_is a len cap l 0 _ C1 HO).mono ?_;rintro e w1 ⟨rfl,ac⟩;have ad:=Zd ac;clear ac;go_wp2;rw[bK];go_wp2_with fail;refine (check_is cb aj ak k 0 _ C2 (HK.later ad)).mono ?_;rintro e w2 ⟨rfl,af⟩;have ag:=Zd (Vm ad af);clear af;go_wp2;rw[bK]
      go_wp2_with (go_at_call 252;refine (Wu h true _ C3.symm).mono ?_;rintro e w' ⟨rfl,rfl⟩)
      refine (H9 cb none aj ak 0 0 k [] h 0 L _ R1.1 R1.2 (HK.later ag) (RowAt.nil _ _)).mono ?_;rintro e w3 ⟨a3,be,rfl,ay,ap⟩;obtain⟨ar,bg⟩:=kh2 (Vm ag ap) ay;clear ap ay;go_wp2_with fail;refine (H9 a a3 len cap L.length be l L h 0 M _ R2.1 R2.2 (HO.later ar) bg).mono ?_;rintro e w4 ⟨a4,bt,rfl,bi,ax⟩;have bb:=Zd (Vm ar ax);have HE:Hid (∀ b:Bool,b=Bz M->Ending.returned (dG #[dI b,E J 0]) = dF (dG #[dI (Bz M),E J 0])):=λb hb=>by rw[hb]
      clear ax;by_cases m1:M.length=1
      ·obtain⟨y,rfl⟩:=List.length_eq_one_iff.1 m1;obtain⟨b4,o4,rfl,bq⟩:=bi.2.2 (by simp);have c4:w4.cell? ⟨b4,o4,none⟩=some (E J y):=bq 0 (by simp);have HY:Hid ((y != 0)=Bz [y]):=(by simp[Bz,R8,Hid]);clear bq bi m1;go_wp2;go_ret2;exact⟨HE _ HY,Za bb⟩
      ·have m2:((M.length:Int) == 1)=false:=(by simp;omega);have HY:Hid (false=Bz M):=(by simp[Bz,m1,Hid]);clear bi m1;go_wp2;go_ret2;exact⟨HE _ HY,Za bb⟩
  ·have eE:Vd l k h=chk k:=(by simp[Vd,c1,c2]);have eB:Y5 l k h=false:=(by simp[Y5,eE,c2]);rw[eE,eB];obtain⟨x,hx⟩:=ZF (chk k);rw[hx] at c2 ⊢;have g2:(x != 0)=true:=(by simp[c2]);obtain⟨C1,C2⟩:=kh2 c1 hx;clear c1 c2 hx eE eB;go_enter func206,ntmps206;go_wp2;refine wp_loop_rounds 3 ?_;rw[bK];go_wp2_with fail;refine (check_is a len cap l 0 _ C1 HO).mono ?_;rintro e w1 ⟨rfl,ac⟩;have ad:=Zd ac;clear ac;go_wp2;rw[bK];go_wp2_with fail;refine (check_is cb aj ak k x _ C2 (HK.later ad)).mono ?_;rintro e w2 ⟨rfl,af⟩;have ag:=Zd (Vm ad af);clear af;go_wp2;go_ret2;exact⟨rfl,Za ag⟩
 ·have eE:Vd l k h=chk l:=by simp[Vd,c1]
  have eB:Y5 l k h=false:=by simp[Y5,eE,c1]
  rw[eE,eB];obtain⟨x,hx⟩:=ZF (chk l);rw[hx] at c1 ⊢;have g2:(x != 0)=true:=by simp[c1]
  have C1:=Zd hx;clear c1 hx eE eB;go_enter func206,ntmps206;go_wp2;refine wp_loop_rounds 3 ?_;rw[bK];go_wp2_with fail;refine (check_is a len cap l x _ C1 HO).mono ?_;rintro e w1 ⟨rfl,ac⟩;have ad:=Zd ac;clear ac;go_wp2;go_ret2;exact⟨rfl,Za ad⟩
def Ua:CV:=((0,0,0,[],0,false),none,0,0)
theorem Qz(T R:List CV)(z:CV)(j:Nat)(hj:j<6):(Zn (T++z :: R))[T.length*6+j]? = (Ba z)[j]?:=by
 rw[Yh,List.getElem?_append_right (by rw[Z6];omega),Z6,Nat.add_sub_cancel_left,show z :: R=[z]++R from rfl,Yh,List.getElem?_append_left (by rw[Z6];simpa using hj),Zkv]
theorem Rx(T R:List CV)(z y:CV):((((((Zn (T++z :: R)).set (T.length*6) (E J y.1.1)).set (T.length*6+1) (E J y.1.2.1)).set (T.length*6+2) (E J (cv y.1))).set (T.length*6+3) (.slice y.2.1 y.2.2.1 y.2.2.2)).set (T.length*6+4) (E J (ch y.1))).set (T.length*6+5) (dI (cr y.1))=Zn (T++y :: R):=by
 rw[Yh,Yh];have e:=Z6 T;rw[<-e];simp only[Zn,List.set_append_right _ _ (aF _),List.set_append_right _ _ (Nat.le_add_right _ _),Nat.sub_self,Nat.add_sub_cancel_left,List.set_cons_zero,List.set_cons_succ]
theorem Zgh(n:Nat):(madeCells zeroC.cells (n*6)).toList=Zn (aR n Ua):=by
 apply List.ext_getElem?
 intro j;by_cases hj:j<n*6
 ·obtain⟨f0,f1,f2,f3,f4,f5⟩:=Sj (aR n Ua) (j / 6) (by rw[List.length_replicate];omega);rw[List.getElem_replicate] at f0 f1 f2 f3 f4 f5;have hz:zeroC.cells=zeroCs.toArray:=rfl
  have hL:(madeCells zeroC.cells (n*6)).toList[j]? = zeroCs[j % 6]?:=by
   have hs:zeroCs.length=6:=rfl;have h6:j % 6<6:=(by omega);simp[madeCells,hj,hz,hs,h6]
  rw[hL];obtain⟨i,r,rfl,hr⟩:∃ i r,j=i*6+r/\r<6:=⟨j / 6,j % 6,by omega,by omega⟩;rw[show (i*6+r) / 6=i by omega] at f0 f1 f2 f3 f4 f5;rw[show (i*6+r) % 6=r by omega]
  match r,hr with
  | 0,_=>exact f0.symm
  | 1,_=>exact f1.symm
  | 2,_=>exact f2.symm
  | 3,_=>exact f3.symm
  | 4,_=>exact f4.symm
  | 5,_=>exact f5.symm
 ·rw[List.getElem?_eq_none (by simp[madeCells];omega),List.getElem?_eq_none (by rw[Z6,List.length_replicate];omega)]
theorem Zdi{w:World}{base g n c:Nat}{xs:List Value}(h:w.ownsRow base 124 6 (F (some ⟨g,0,none⟩) n c) n xs)(b:Nat)(a0 a1 a2 a3 a4 a5) :
  ((((((w.setCell ⟨g,b,none⟩ a0).setCell ⟨g,b+1,none⟩ a1).setCell ⟨g,b+2,none⟩ a2).setCell ⟨g,b+3,none⟩ a3).setCell ⟨g,b+4,none⟩ a4).setCell ⟨g,b+5,none⟩ a5).ownsRow base 124 6 (F (some ⟨g,0,none⟩) n c) n ((((((xs.set b a0).set (b+1) a1).set (b+2) a2).set (b+3) a3).set (b+4) a4).set (b+5) a5):=
 ((((((h.stored b a0).1.stored (b+1) a1).1.stored (b+2) a2).1.stored (b+3) a3).1.stored (b+4) a4).1.stored (b+5) a5).1
theorem Gr.sixAt{w w1:World}{S:Nat->Prop}(h:Gr w w1 S)(b i:Nat)(hb:S b\/w.heap.size<=b)(a0 a1 a2 a3 a4 a5):Gr w ((((((w1.setCell ⟨b,i,none⟩ a0).setCell ⟨b,i+1,none⟩ a1).setCell ⟨b,i+2,none⟩ a2).setCell ⟨b,i+3,none⟩ a3).setCell ⟨b,i+4,none⟩ a4).setCell ⟨b,i+5,none⟩ a5) S:=
 (((((h.one b i hb a0).one b (i+1) hb a1).one b (i+2) hb a2).one b (i+3) hb a3).one b (i+4) hb a4).one b (i+5) hb a5
theorem D7(h:Int)(I:List InD)(k:Nat)(hk:k<I.length)(S L)(ht:Uc (I[k].1,I[k].2.1) L=none):Zr h (I.drop k) S L=(7,[],[]):=by
 rw[aJ hk,Zr,ht]
theorem D8(h:Int)(I:List InD)(k:Nat)(hk:k<I.length)(S L M)(c:Zj)(ht:Uc (I[k].1,I[k].2.1) L=some (c,M))(hl:cr c=true/\h<ch c+2):Zr h (I.drop k) S L=(10,[],[]):=by
 rw[aJ hk,Zr,ht];simp only;rw[if_pos hl]
theorem A1(h:Int)(I:List InD)(k:Nat)(hk:k<I.length)(S L M)(c:Zj)(ht:Uc (I[k].1,I[k].2.1) L=some (c,M))(hl:¬(cr c=true/\h<ch c+2))(ho:Y5 (ck c) I[k].2.2 h=false):Zr h (I.drop k) S L=(8,[],[]):=by
 rw[aJ hk,Zr,ht];simp only;rw[if_neg hl,if_pos ho]
theorem Zap(h:Int)(I:List InD)(k:Nat)(hk:k<I.length)(S L M)(c:Zj)(ht:Uc (I[k].1,I[k].2.1) L=some (c,M))(hl:¬(cr c=true/\h<ch c+2))(ho:Y5 (ck c) I[k].2.2 h=true):Zr h (I.drop k) S L=Zr h (I.drop (k+1)) (S++[c]) M:=by
 rw[aJ hk,Zr,ht];simp only;rw[if_neg hl,if_neg (by rw[ho];decide)]
theorem A6(h:Int)(I:List InD)(k:Nat)(hk:I.length<=k)(S L):Zr h (I.drop k) S L=(0,S,L):=by
 rw[List.drop_of_length_le hk,Zr]
theorem Zew{q:PtD}{L M}{c:Zj}(h:Uc q L=some (c,M))(hs:Srt L):Srt M:=by
 rw[(Ta h).2.2];exact hs.filter _
theorem Zjt{l k}{h:Int}(q:Y5 l k h=true):Vd l k h=0:=by
 unfold Y5 at q;rw[cG,decide_eq_true_eq] at q;exact q.1
theorem Zjs(a ak len cap ab ac l k)(h:Int)(b:Bool)(x:Int)(w:World)(hO:OpsAt w a len l)(hK:OpsAt w ak ab k)(hb:Y5 l k h=b)(hx:Vd l k h=x) :
  ZH 206 #[F a len cap,F ak ab ac,E J h] w (dG #[dI b,E J x]):=by
 subst hb hx;exact Zfu a ak len cap ab ac l k h w hO hK
theorem Zw(w:World)(a b c)(t:TypeId):(w.alloc (dE #[a,b,c] t)).heap[w.heap.size]? = some (dE [a,b,c].toArray t (0,0)):=aG w _
def Spent(w0 w':World)(p ni:Nat)(K:List CV)(S M:List Zj)(a':Option Addr)(n' c':Nat):Prop:=
 ∃ (v':Value) (K' T:List CV),T.map (·.1)=S/\K'.map (·.1)=M/\Srt M/\K'.length<=K.length/\n'=T.length/\T.length=ni/\w'.ownsRow w0.heap.size 124 6 (F a' n' c') n' (Zn T)/\(∀ z∈T,LkAt w0 z)/\(∀ z∈K',z∈K)/\(∀ z∈T,z∈K)/\Pu w0 w' p v' K'/\(∃ s,(Value.slice a' n' c').ownBlock=some s/\v'.ownBlock≠some s/\s≠p)
set_option maxRecDepth 10000 in
theorem Ziq(w0 w:World)(p:Nat)(v)(K:List CV)(ai ni ci I)(h:Int)(x:Int)(S M)(hP:Pu w0 w p v K)(hs:Srt (K.map (·.1)))(hn:K.length<=4096)(hr:∀ z∈K,ck1 z.1=0)(hI:InsAt w0 ai ni I)(jd:ni<=6)(hx:Zr h I [] (K.map (·.1))=(x,S,M)) :
  Calls aB 146 #[dH (some ⟨p,0,none⟩),F ai ni ci,E J h] w λe w'=>∃ a' n' c',e = dF (dG #[F a' n' c',E J x])/\ZD w0 w' /\
   (x=0->Spent w0 w' p ni K S M a' n' c'):=by
 obtain⟨i0,go,gx,gy,gz⟩:=info_parts Tryz.infoCoin;have hB:w0.heap.size<=w.heap.size:=hP.bel.size;have jf:p<w.heap.size:=hP.lt;obtain⟨HP,HS,HR,HI,HZ,HX⟩:=kh6 hP hs hr hI hI.1 hx;clear hP hs hr hI hx;go_enter func146,ntmps146
 go_wp2_with (at_make;refine wpList_make_full _ rfl _ _ 29 rfl w0.heap.size 124 i0 zeroC 6 underlying29 go gx gy .i64 .i64 _ _ ni rfl rfl rfl rfl (by rw[gz];omega) (by unfold maxLen;omega) hB ?_;intro w2 ct fb)
 rw[Zgh] at ct;have ew:ZD w w2:=(Below.refl _ _).grown fb (aF _) (λk h=>by cases h);have gs:w.heap.size<w2.heap.size:=(ct.lt w.heap.size rfl).2
 have ST:Hid (Pu w0 w2 p v K/\w2.ownsRow w0.heap.size 124 6 (F (some ⟨w.heap.size,0,none⟩) ni ni) ni (Zn ([]++aR (ni - 0) Ua))/\v.ownBlock≠some w.heap.size):=
  ⟨HP.kept ew,ct,λe=>by have:=(HP.own.lt _ e).2;omega⟩
 clear ct fb ew
 go_loopw [20] (λi wr=>∃ (k:Nat) (T K':List CV) (v':Value),k<=ni/\i = E J k/\Hid (Zr h I [] (K.map (·.1))=Zr h (I.drop k) (T.map (·.1)) (K'.map (·.1)))/\Hid (Srt (K'.map (·.1)))/\K'.length<=K.length/\Hid (T.length=k)/\Hid ((∀ z∈K',z∈K)/\(∀ z∈T,z∈K)) /\
  Hid (Pu w0 wr p v' K')/\Hid (wr.ownsRow w0.heap.size 124 6 (F (some ⟨w.heap.size,0,none⟩) ni ni) ni (Zn (T++aR (ni - k) Ua)))/\Hid (∀ z∈T,LkAt w0 z)/\Hid (v'.ownBlock≠some w.heap.size)/\w.heap.size<wr.heap.size) (λi _=>ni - (intOf i).toNat)
 case atStart=>exact⟨0,[],K,v,aI _,rfl,rfl,HS,aF _,rfl,⟨λz hz=>hz,λz hz=>(by cases hz)⟩,ST.1,ST.2.1,(λz hz=>(by cases hz):∀ z∈([]:List CV),LkAt w0 z),ST.2.2,gs⟩
 case round=>
  obtain⟨k,T,K',v',hk,rfl,A,ca,gj,HT,be,ae,dg,HL,df,jg⟩:=hrel;clear ST HS;by_cases gq:k<ni
  ·have bo:k<I.length:=(by rw[Za HZ];exact gq);obtain⟨b,off,rfl,ix,gn⟩:=HI.2 (by omega);have fc:=gn k bo;obtain⟨E1,E2,E3,E4⟩:=kh4 (D7 h I k bo (T.map (·.1)) (K'.map (·.1))) (D8 h I k bo (T.map (·.1)) (K'.map (·.1))) (A1 h I k bo (T.map (·.1)) (K'.map (·.1))) (Zap h I k bo (T.map (·.1)) (K'.map (·.1)));obtain⟨y,hy⟩:=ZF (I[k]);rw[hy] at fc E1 E2 E3 E4;obtain⟨y1,y2,cy⟩:=y;obtain⟨er,es,ka,kn,kc,et,g4,_⟩:=fc;have g1:=Ze ae.bel er;have g2:=Ze ae.bel es;have g3:=Ze ae.bel et;have fp:Hid (OpsAt w0 ka kn cy):=g4;clear er es et g4;simp only at g1 g2 g3 E1 E2 E3 E4;obtain⟨X,hX,cn,bi⟩:=ka00 wr [E J y1,E J y2,F ka kn kc] 119;have bh:=ae.kept cn;have dy:=(Gr.of (S:=λ_=>False) cn).own dg (λ_ _ q=>q);obtain⟨x0,x1,-⟩:=kc2 bi;have ji:wr.heap.size<X.heap.size:=aA bi;obtain⟨ga,fv,ft⟩:=kh3 bi bh dy;have je:p<wr.heap.size:=ae.lt;cases hf:Wx (y1,y2) (K'.map (·.1)) with
   | false=>
    have C:=Zd (Zaw w0 X p v' K' (y1,y2) bh ca (by omega) hf)
    have R:Hid (x=7):=by
     have e:=Za A;rw[(Za E1) (Zan hf),Za HX] at e;injection e
    clear E1 E2 E3 E4 cn bi bh dy hf hy A;go_wp2_with fail;rw[<-hX];clear hX;go_wp2_with fail;refine C.mono ?_;rintro e w3 ⟨rfl,ev⟩;have fl:=Zd ((fv.kept ev).bel);unfold zeroC;clear ev;go_wp2;go_ret2;exact⟨_,_,_,by rw[Za R];rfl,Zf fl (Zh _ _),λe=>absurd e (by rw[Za R];decide)⟩
   | true=>
    have C:=Zd (Zav w0 X p v' K' (y1,y2) bh ca (by omega) hf);clear cn bi bh dy hf hy;go_wp2_with fail;rw[<-hX];clear hX;go_wp2_with fail;refine C.mono ?_;rintro e w3 ⟨z,v3,K3,rfl,ht,fh,cw,jb,cl,bg,gv⟩;have fg:z∈K:=be.1 z fh;have bt:=Yy (HR z fg);have bs:=ae.lk z fh;have ez:1<=ch z.1:=bt.2.2.2.2.2.2.1;have fa:ch z.1<=1000:=bt.2.2.2.2.2.2.2.1;have cu:=Zew ht ca
    have cp:¬PuS p v' wr.heap.size:=by
     rintro (e|e)
     ·omega
     ·have:=(ae.own.lt _ e).2;omega
    have bb:=bg.heap ga cp
    have cq:¬PuS p v' w.heap.size:=by
     rintro (e|e)
     ·omega
     ·exact df e
    have cg:=bg.own ft (λq hq=>by cases hq;exact cq);have bv:=Zd (E2 _ _ ht);have bx:=Zd (E3 _ _ ht);have bz:=Zd (E4 _ _ ht);obtain⟨Y,hY⟩:=ZG (w3.alloc (dE #[E J z.1.1,E J z.1.2.1,E J (cv z.1),.slice z.2.1 z.2.2.1 z.2.2.2,E J (ch z.1),dI (cr z.1)] 124));have ay:ZD w3 Y:=(by rw[hY];exact Zh _ _);have aw:Y.heap[w3.heap.size]? = some (dE (Ba z).toArray 124 (0,0)):=(by rw[hY];exact Uf _ _ _ _ _ _ _ _);have aq:=cl.kept ay;have cj:=(Gr.of (S:=λ_=>False) ay).own cg (λ_ _ q=>q);have bk:=ZE ay bb;have jh:wr.heap.size<w3.heap.size:=aA bb;have jj:w3.heap.size<Y.heap.size:=aA aw;have q2:=Zb bk 2 _ rfl;have q3:=Zb bb 2 _ rfl;obtain⟨-,-,-,r3,r4,r5,-⟩:=kc6 aw;have OP:=Zd (λjk xx hb hx=>Zjs z.2.1 ka z.2.2.1 z.2.2.2 kn kc (ck z.1) cy h jk xx Y (bs.1.later aq.bel) (fp.later aq.bel) hb hx);by_cases af:cr z.1=true/\h<ch z.1+2
    ·have R:Hid (x=10):=by
      have e:=Za A;rw[(Za bv) af,Za HX] at e;injection e
     have ey:cr z.1=true:=af.1;have iy:h<ch z.1+2:=af.2;have fm:=Zd aq.bel;rw[ey] at hY r5;unfold cnV;rw[ey];clear E1 E2 E3 E4 bv bx bz A af C ay aw aq cj bk cl bg cg bb ht cw cu bs bt cp cq q2 r3 g1 g2 g3 x0 x1;go_wp2_with fail;rw[<-hY];clear hY;go_wp2;go_ret2;exact⟨_,_,_,by rw[Za R];rfl,Za fm,λe=>absurd e (by rw[Za R];decide)⟩
    ·have hD:Hid ((cr z.1 && decide (h<ch z.1+2))=false):=by
      show _=_;rw[Bool.and_eq_false_iff,decide_eq_false_iff_not];cases q:cr z.1 with
      | true=>exact .inr λe=>af ⟨q,e⟩
      | false=>exact .inl rfl
     obtain⟨jk,az⟩:=ZF (Y5 (ck z.1) cy h);obtain⟨xx,cx⟩:=ZF (Vd (ck z.1) cy h);obtain⟨au,dh,fu,gb⟩:=kh4 (OP jk xx az cx) aq cj aw;have ea:v3.ownBlock≠some w.heap.size:=(by rw[gv];exact Za df);obtain⟨el,fy,fz,gd,gc,iw⟩:=kh6 ea cu cw bs fg bk;obtain⟨hd,bj⟩:=ZF (ch z.1);obtain⟨rr,bq⟩:=ZF (cr z.1);cases jk with
     | false=>
      have R:Hid (x=8):=by
       have e:=Za A;rw[(Za bx) af az,Za HX] at e;injection e
      unfold cnV;rw[bj] at hD hY r4 ez fa ⊢;rw[bq] at hD hY r5 ⊢;clear E1 E2 E3 E4 bv bx bz A af C ay aw aq cj bk cl bg cg bb ht cw cu bs bt cp cq g1 g2 g3 x0 x1 OP az cx ea bj bq;cases rr with
      | false=>
       clear hD;go_wp2_with fail;rw[<-hY];clear hY;refine au.mono ?_;rintro e w5 ⟨rfl,ab⟩;have dd:=Zd (dh.kept ab).bel;clear ab;go_wp2;go_ret2;exact⟨_,_,_,by rw[Za R];rfl,Za dd,λe=>absurd e (by rw[Za R];decide)⟩
      | true=>
       have gi:¬(h<hd+2):=(by have:=Za hD;simpa using this);clear hD;go_wp2_with fail;rw[<-hY];clear hY;refine au.mono ?_;rintro e w5 ⟨rfl,ab⟩;have dd:=Zd (dh.kept ab).bel;clear ab;go_wp2;go_ret2;exact⟨_,_,_,by rw[Za R];rfl,Za dd,λe=>absurd e (by rw[Za R];decide)⟩
     | true=>
      have gw:xx=0:=(by rw[<-cx];exact Zjt az);subst gw
      have A2:Hid (Zr h I [] (K.map (·.1))=Zr h (I.drop (k+1)) ((T++[z]).map (·.1)) (K3.map (·.1))):=by
       show _=_;rw[Za A,(Za bz) af az,List.map_append];rfl
      have fx:Hid (T++aR (ni - k) Ua=T++Ua :: aR (ni - (k+1)) Ua):=by
       show _=_;rw[show ni - k=(ni - (k+1))+1 by omega,List.replicate_succ]
      have fq:Hid (K3.length<=K.length):=(by show _<=_;omega);have ja:(k:Int)<(ni:Int):=(by omega);unfold cnV;rw[bj] at hD hY r4 ez fa ⊢;rw[bq] at hD hY r5 ⊢;obtain⟨eg,ej⟩:=kh2 bj bq;clear E1 E2 E3 E4 bv bx bz A af C ay aw aq cj bk cl bg cg bb ht cw cu bs bt cp cq g1 g2 g3 x0 x1 OP az cx ea bj bq
      have cd:Hid (∀ w5,ZD Y w5->(w5.cell? ⟨w3.heap.size,0,none⟩=some (E J z.1.1)/\w5.cell? ⟨w3.heap.size,1,none⟩=some (E J z.1.2.1)/\w5.cell? ⟨w3.heap.size,2,none⟩=some (E J (cv z.1))/\w5.cell? ⟨w3.heap.size,3,none⟩=some (.slice z.2.1 z.2.2.1 z.2.2.2)/\w5.cell? ⟨w3.heap.size,4,none⟩=some (E J hd)/\w5.cell? ⟨w3.heap.size,5,none⟩=some (dI rr)) /\
        (∃ u0 u1 u2 u3 u4 u5,w5.cell? ⟨w.heap.size,k*6,none⟩=some u0/\w5.cell? ⟨w.heap.size,k*6+1,none⟩=some u1/\w5.cell? ⟨w.heap.size,k*6+2,none⟩=some u2/\w5.cell? ⟨w.heap.size,k*6+3,none⟩=some u3/\w5.cell? ⟨w.heap.size,k*6+4,none⟩=some u4/\w5.cell? ⟨w.heap.size,k*6+5,none⟩=some u5)/\(∀ j,w5.frozen? ⟨w.heap.size,j,none⟩=false)/\w.heap.size<w5.heap.size /\
        Hid (∃ (T' K':List CV) (v':Value),Hid (Zr h I [] (K.map (·.1))=Zr h (I.drop (k+1)) (T'.map (·.1)) (K'.map (·.1)))/\Hid (Srt (K'.map (·.1)))/\K'.length<=K.length/\Hid (T'.length=k+1)/\Hid ((∀ z∈K',z∈K)/\(∀ z∈T',z∈K)) /\
         Hid (Pu w0 ((((((w5.setCell ⟨w.heap.size,k*6,none⟩ (E J z.1.1)).setCell ⟨w.heap.size,k*6+1,none⟩ (E J z.1.2.1)).setCell ⟨w.heap.size,k*6+2,none⟩ (E J (cv z.1))).setCell ⟨w.heap.size,k*6+3,none⟩ (.slice z.2.1 z.2.2.1 z.2.2.2)).setCell ⟨w.heap.size,k*6+4,none⟩ (E J hd)).setCell ⟨w.heap.size,k*6+5,none⟩ (dI rr)) p v' K') /\
         Hid (((((((w5.setCell ⟨w.heap.size,k*6,none⟩ (E J z.1.1)).setCell ⟨w.heap.size,k*6+1,none⟩ (E J z.1.2.1)).setCell ⟨w.heap.size,k*6+2,none⟩ (E J (cv z.1))).setCell ⟨w.heap.size,k*6+3,none⟩ (.slice z.2.1 z.2.2.1 z.2.2.2)).setCell ⟨w.heap.size,k*6+4,none⟩ (E J hd)).setCell ⟨w.heap.size,k*6+5,none⟩ (dI rr)).ownsRow w0.heap.size 124 6 (F (some ⟨w.heap.size,0,none⟩) ni ni) ni (Zn (T'++aR (ni - (k+1)) Ua)))/\Hid (∀ z∈T',LkAt w0 z)/\Hid (v'.ownBlock≠some w.heap.size) /\
         w.heap.size<((((((w5.setCell ⟨w.heap.size,k*6,none⟩ (E J z.1.1)).setCell ⟨w.heap.size,k*6+1,none⟩ (E J z.1.2.1)).setCell ⟨w.heap.size,k*6+2,none⟩ (E J (cv z.1))).setCell ⟨w.heap.size,k*6+3,none⟩ (.slice z.2.1 z.2.2.1 z.2.2.2)).setCell ⟨w.heap.size,k*6+4,none⟩ (E J hd)).setCell ⟨w.heap.size,k*6+5,none⟩ (dI rr)).heap.size)):=by
       intro w5 ab;have bd:=ZE ab gb;have ap:=dh.kept ab;have av:=(Gr.of (S:=λ_=>False) ab).own fu (λ_ _ q=>q);rw[Za fx] at av;have dz:=Za HT
       have ax:∀ j,j<6->w5.cell? ⟨w.heap.size,k*6+j,none⟩=(Ba Ua)[j]?:=λj hj=>by
        rw[World.ownsRow.cellAt av _ (by omega),<-dz,Qz _ _ _ j hj]
       refine⟨⟨Zb bd 0 _ rfl,Zb bd 1 _ rfl,Zb bd 2 _ rfl,Zb bd 3 _ rfl,by rw[<-Za eg];exact Zb bd 4 _ rfl,by rw[<-Za ej];exact Zb bd 5 _ rfl⟩,
        ⟨_,_,_,_,_,_,(ax 0 (by decide)).trans rfl,(ax 1 (by decide)).trans rfl,(ax 2 (by decide)).trans rfl,(ax 3 (by decide)).trans rfl,(ax 4 (by decide)).trans rfl,(ax 5 (by decide)).trans rfl⟩,λj=>av.frozenAt j,(av.lt _ rfl).2,?_⟩
       have hG:=(Gr.refl w5 (λq=>q=w.heap.size)).sixAt w.heap.size (k*6) (.inl rfl) (E J z.1.1) (E J z.1.2.1) (E J (cv z.1)) (.slice z.2.1 z.2.2.1 z.2.2.2) (E J hd) (dI rr);have dx:=Zdi av (k*6) (E J z.1.1) (E J z.1.2.1) (E J (cv z.1)) (.slice z.2.1 z.2.2.1 z.2.2.2) (E J hd) (dI rr);rw[<-Za eg,<-Za ej] at dx hG ⊢;have ff:=Rx T (aR (ni - (k+1)) Ua) Ua z;rw[dz] at ff;rw[ff] at dx;refine⟨T++[z],K3,v3,A2,fy,Za fq,?_,?_,?_,?_,?_,el,aD (av.lt _ rfl).2 hG.size⟩
       ·show _=_;rw[List.length_append,dz];rfl
       ·refine⟨λq hq=>be.1 q (fz q hq),λq hq=>?_⟩
        rcases bL.1 hq with hq|hq
        ·exact be.2 q hq
        ·rw[cP.1 hq];exact Za gc
       ·refine⟨hG.below ap.bel ap.bel.size (λq hq=>by rw[hq];exact hB),ap.ge,hG.heap ap.box (by omega),hG.own ap.own (λq hq e=>el (by rw[hq,e])),ap.ne,ap.lk⟩
       ·show World.ownsRow _ _ _ _ _ _ _;rw[List.append_assoc];exact dx
       ·intro q hq
        rcases bL.1 hq with hq|hq
        ·exact HL q hq
        ·rw[cP.1 hq];exact Za gd
      cases rr with
      | false=>
       clear hD;go_wp2_with fail;rw[<-hY];clear hY;refine au.mono ?_;rintro e w5 ⟨rfl,ab⟩;obtain⟨⟨s0,s1,s2,s3,s4,s5⟩,⟨u0,u1,u2,u3,u4,u5,t0,t1,t2,t3,t4,t5⟩,ac,gu,de⟩:=cd w5 ab;have z0:=ac (k*6);have z1:=ac (k*6+1);have z2:=ac (k*6+2);have z3:=ac (k*6+3);have z4:=ac (k*6+4);have z5:=ac (k*6+5);have gm:=ab.size;have m5:w3.heap.size<w5.heap.size:=aE _ _ s0;have n1:¬(w3.heap.size=w.heap.size):=(by omega);have n2:¬(w.heap.size=w3.heap.size):=(by omega);clear ab ac cd au q2 q3 r3 r4 r5;go_wp2;go_roundw
       case rel=>
        obtain⟨T',K',v',f1,f2,f3,f4,f5,f6,f7,f8,f9,dm⟩:=Za de;exact⟨k+1,T',K',v',by omega,by go_num,f1,f2,f3,f4,f5,f6,f7,f8,f9,dm⟩
       case measure=>simp[intOf];omega
      | true=>
       have gi:¬(h<hd+2):=(by have:=Za hD;simpa using this);clear hD;go_wp2_with fail;rw[<-hY];clear hY;refine au.mono ?_;rintro e w5 ⟨rfl,ab⟩;obtain⟨⟨s0,s1,s2,s3,s4,s5⟩,⟨u0,u1,u2,u3,u4,u5,t0,t1,t2,t3,t4,t5⟩,ac,gu,de⟩:=cd w5 ab;have z0:=ac (k*6);have z1:=ac (k*6+1);have z2:=ac (k*6+2);have z3:=ac (k*6+3);have z4:=ac (k*6+4);have z5:=ac (k*6+5);have gm:=ab.size;have m5:w3.heap.size<w5.heap.size:=aE _ _ s0;have n1:¬(w3.heap.size=w.heap.size):=(by omega);have n2:¬(w.heap.size=w3.heap.size):=(by omega);clear ab ac cd au q2 q3 r3 r4 r5;go_wp2;go_roundw
       case rel=>
        obtain⟨T',K',v',f1,f2,f3,f4,f5,f6,f7,f8,f9,dm⟩:=Za de;exact⟨k+1,T',K',v',by omega,by go_num,f1,f2,f3,f4,f5,f6,f7,f8,f9,dm⟩
       case measure=>simp[intOf];omega
  ·have e:k=ni:=(by omega);subst e;have R:=Za A;rw[A6 h I k (by rw[Za HZ];exact aF _),Za HX] at R;have R1:Hid (x=0):=(by show _=_;injection R);have R2:S=T.map (·.1):=(by injection R with _ R;injection R);have R3:M=K'.map (·.1):=(by injection R with _ R;injection R);subst R2 R3
   have fs:Hid (wr.ownsRow w0.heap.size 124 6 (F (some ⟨w.heap.size,0,none⟩) k k) k (Zn T)):=by
    have:=Za dg;rw[Nat.sub_self,List.replicate_zero,List.append_nil] at this;exact this
   clear R A dg;go_wp2;go_ret2;exact⟨some ⟨w.heap.size,0,none⟩,k,k,by rw[Za R1];rfl,ae.bel,λ_=>⟨v',K',T,rfl,rfl,Za ca,gj,HT.symm,Za HT,Za fs,Za HL,be.1,be.2,Za ae,w.heap.size,rfl,Za df,by omega⟩⟩
set_option maxRecDepth 10000 in
theorem W3(p h k n:Int)(a m c T)(x:Int)(w:World)(hT:TxsAt w a m T)(hx:Yq (p,h,k,n,T)=x) :
  ZH 85 #[.agg #[E J p,E J h,E J k,E J n,F a m c]] w (E J x):=by
 subst hx;obtain⟨X,hX,be,br⟩:=ka00 w [E J p,E J h,E J k,E J n,F a m c] 39;obtain⟨am,af,HT⟩:=kh3 br be (hT.later be);have hz:T.length=m:=hT.1;unfold Yq;simp only;rw[hz];clear be br hT;cases q:Wk p h k n with
 | false=>
  have C:=Zd (Gg p h k n a m c false X q);rw[if_pos rfl];clear q hz;go_enter func85,ntmps85;go_wp2_with fail;rw[<-hX];clear hX;refine C.mono ?_;rintro e w1 ⟨rfl,aa⟩;have aj:=Zd (Zf af aa);clear aa;go_wp2;go_ret;exact⟨rfl,Za aj⟩
 | true=>
  have C:=Zd (Gg p h k n a m c true X q);rw[if_neg (by decide)];clear q;by_cases h4:4<m
  ·rw[if_pos h4];clear hz;go_enter func85,ntmps85;go_wp2_with fail;rw[<-hX];clear hX;refine C.mono ?_;rintro e w1 ⟨rfl,aa⟩;have ac:=ZE aa am;obtain⟨-,-,-,-,c4,l1⟩:=kc5 ac;have aj:=Zd (Zf af aa);clear aa ac;go_wp2;go_ret;exact⟨rfl,Za aj⟩
  ·rw[if_neg h4];by_cases h0:m=0
   ·subst h0;rw[if_pos rfl];clear hz h4;go_enter func85,ntmps85;go_wp2_with fail;rw[<-hX];clear hX;refine C.mono ?_;rintro e w1 ⟨rfl,aa⟩;have ac:=ZE aa am;obtain⟨-,-,-,-,c4,l1⟩:=kc5 ac;have aj:=Zd (Zf af aa);clear aa ac;go_wp2;go_ret;exact⟨rfl,Za aj⟩
   ·rw[if_neg h0];have g0:((m:Int) == 0)=false:=(by simp[h0]);have HZ:=Zd hz;obtain⟨b,off,rfl,cu,bt⟩:=HT.2 (by omega);have HC:=Zd bt;clear hz bt;go_enter func85,ntmps85;go_wp2_with fail;rw[<-hX];clear hX;refine C.mono ?_;rintro e w1 ⟨rfl,aa⟩;have ac:=ZE aa am;obtain⟨-,-,-,-,c4,l1⟩:=kc5 ac;have bk:=Zd aa;clear aa ac;go_wp2
    go_loopw [20] (λi wr=>∃ k:Nat,k<=m/\i = E J k/\Hid (Wc h 0 T=Wc h k (T.drop k))/\Hid (ZD X wr)) (λi _=>m - (intOf i).toNat)
    case atStart=>exact⟨0,aI _,rfl,rfl,bk⟩
    case round=>
     obtain⟨j,hj,rfl,A,ax⟩:=hrel;clear c4 l1 bk;by_cases cj:j<m
     ·have bx:j<T.length:=(by rw[Za HZ];exact cj);have bv:=TxAt.kept _ _ _ _ _ ax (HC j bx);have ST:=Zd (Zlm h T j bx);obtain⟨t,ht⟩:=ZF (T[j]);rw[ht] at bv ST;obtain⟨t1,I,O⟩:=t;obtain⟨bq,⟨ai,ni,ci,g1,hI,sI⟩,ao,no,co,g2,hO,_⟩:=bv;have A2:Hid (Wc h 0 T=if Zq (t1,I,O)≠0 then Zq (t1,I,O) else if J7 (t1,I,O) j h=false then 4 else Wc h (j+1) (T.drop (j+1))):=(by show _=_;rw[Za A,Za ST]);simp only at bq g1 g2 hI hO;obtain⟨Y,hY,ar,bd⟩:=ka00 wr [E J t1,F ai ni ci,F ao no co] 59;obtain⟨cf,aw⟩:=kh2 bd (Zf ax ar);have cg:=ZE aw am;obtain⟨y0,y1,y2,yl⟩:=kc3 bd;obtain⟨x,hx⟩:=ZF (Zq (t1,I,O));obtain⟨o,ho⟩:=ZF (J7 (t1,I,O) j h);have CT:=Zd (Vn t1 ai ao ni ci no co I O Y (hI.later ar) (hO.later ar) sI);have CS:=Zd (λW=>Zfb t1 ai ao ni ci no co I O j h o W hI.1 ho);rw[hx] at A2 CT;rw[ho] at A2;clear ar bd cg A ST ht hI hO sI hx ho;by_cases au:x=0
      ·subst au
       have A3:Hid (Wc h 0 T=if o=false then 4 else Wc h (j+1) (T.drop (j+1))):=by
        have q:=Za A2;rw[if_neg (by decide)] at q;exact q
       clear A2;go_wp2_with fail;rw[<-hY];clear hY;go_wp2_with fail;refine CT.mono ?_;rintro e w2 ⟨rfl,ag⟩;have ca:=ZE ag cf;have bi:=Zd (Zf aw ag);have bu:=ZE bi am;obtain⟨z0,z1,z2,zl⟩:=kc3 ca;obtain⟨-,k1,kl⟩:=kc2 bu;clear ag ca bu y0 y1 y2 yl bq g1 g2;go_wp2_with fail;refine (CS _).mono ?_;rintro e w3 ⟨rfl,bs⟩;have bj:=Zd (Zf bi bs);clear bs;cases o with
       | false=>
        have R:Hid (Wc h 0 T=4):=(by show _=_;rw[Za A3];rfl);have ak:=Zd (Zf af bj);clear A3;go_wp2;go_ret;exact⟨by rw[Za R];rfl,Za ak⟩
       | true=>
        have R:Hid (Wc h 0 T=Wc h (j+1) (T.drop (j+1))):=(by show _=_;rw[Za A3];rfl);clear A3;go_wp2;go_roundw
        case rel=>exact⟨j+1,by omega,by go_num,R,bj⟩
        case measure=>simp[intOf];omega
      ·have R:Hid (Wc h 0 T=x):=(by show _=_;rw[Za A2,if_pos au]);have gx:(x != 0)=true:=(by simp[au]);clear A2 au;go_wp2_with fail;rw[<-hY];clear hY;go_wp2_with fail;refine CT.mono ?_;rintro e w2 ⟨rfl,ag⟩;have ak:=Zd (Zf af (Zf aw ag));clear ag;go_wp2;go_ret;exact⟨by rw[Za R];rfl,Za ak⟩
     ·have R:Hid (Wc h 0 T=0):=(by show _=_;rw[Za A,Zhi h T j (by rw[Za HZ];omega)]);have ak:=Zd (Zf af ax);clear A;go_wp2;go_ret;exact⟨by rw[Za R];rfl,Za ak⟩
theorem Lx:∀ (L pre:List InD),Yj pre L=0->∀ x∈L,Pc x=true/\chk x.2.2=0
 | [],_,_,x,hx=>by cases hx
 | y :: r,pre,h,x,hx=>by
  unfold Yj at h;split at h
  ·rename_i h1
   rcases aO.1 hx with rfl|hx
   ·unfold Wl at h1;split at h1
    ·cases h1
    ·rename_i h2;split at h1
     ·rename_i h3;exact absurd h1 h3
     ·rename_i h3;exact⟨by simpa using h2,by simpa using h3⟩
   ·exact Lx r _ h x hx
  ·contradiction
theorem Gl:∀ (L:List Z3),Yk L=0->∀ x∈L,1<=x.1/\chk x.2=0
 | [],_,x,hx=>by cases hx
 | y :: r,h,x,hx=>by
  unfold Yk at h;split at h
  ·rename_i h1
   rcases aO.1 hx with rfl|hx
   ·unfold Xa at h1;split at h1
    ·cases h1
    ·rename_i h2;exact⟨by omega,h1⟩
   ·exact Gl r h x hx
  ·contradiction
theorem Zis:∀ (Z:List Int) (s:Int),(sm s Z).2=0->∀ z∈Z,0<=z/\z<=1000000000
 | [],_,_,z,hz=>by cases hz
 | y :: r,s,h,z,hz=>by
  unfold sm at h;split at h
  ·rename_i h1;split at h
   ·rcases aO.1 hz with rfl|hz
    ·exact h1
    ·exact Zis r _ h z hz
   ·cases h
  ·cases h
structure TxOk(t:TxD):Prop where
 ins6:t.2.1.length<=6
 outs6:t.2.2.length<=6
 some:0<t.2.2.length
 hgt:0<=t.1/\t.1<=1000
 fit:Fs t=true
 chkI:Yj [] t.2.1=0
 ins:∀ x∈t.2.1,Pc x=true/\chk x.2.2=0
 outs:∀ x∈t.2.2,(1<=x.1/\x.1<=1000000000)/\chk x.2=0
theorem TxOk.of{t}(h:Zq t=0):TxOk t:=by
 unfold Zq at h;split at h
 ·cases h
 ·rename_i h1;split at h
  ·cases h
  ·rename_i h2;split at h
   ·cases h
   ·rename_i h3;split at h
    ·rename_i h4;exact absurd h h4
    ·rename_i h4;have ab:Yj [] t.2.1=0:=(by simpa using h4);have aa:Fs t=true:=(by simpa using h3);unfold Ym at h;split at h
     ·rename_i h5;refine⟨by omega,by omega,by omega,?_,aa,ab,Lx _ _ ab,λx hx=>?_⟩
      ·unfold Fs at aa;split at aa
       ·simp only[cG,decide_eq_true_eq] at aa;omega
       ·have:t.1=0:=(by simpa using aa);omega
      ·have a:=Gl _ h5 x hx;have b:=Zis _ _ h x.1 (List.mem_map.2 ⟨x,hx,rfl⟩);exact⟨⟨a.1,b.2⟩,a.2⟩
     ·contradiction
theorem Ke(x:InD):Pc x=true↔(1<=x.1/\x.1<=120)/\(0<=x.2.1/\x.2.1<=5):=by
 unfold Pc;simp only[cG,decide_eq_true_eq]
