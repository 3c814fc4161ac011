import Derived.Test.YtmomfkikogbdeaaGreatDoorH
import Derived.Test.YtmomfkikogbdeaaGreatDoorG1
import Derived.Test.YtmomfkikogbdeaaGreatDoorG10
open Go.Proofs.Tryz
open Bool renaming and_eq_true->bY
open Go renaming rounds_succ->bD,heap_alloc_new->aH,lt_of_block->aA
open Go.Ending renaming returned->dA
open Go.IntKind renaming i64->J
open Go.Obj renaming cells->cZ
open Go.Proofs.Tryz renaming prog->aB
open Go.Value renaming int->E,slice->F,tuple->dB,pointer->dC,bool->dD
open Go.World renaming block_lt_of_cell?->aE
open List renaming length_eq_zero_iff->aP,replicate->bB,drop_eq_getElem_cons->aI,mem_append->bA,mem_singleton->bX,mem_cons->aU
open Nat renaming le_trans->aT,lt_of_lt_of_le->aD,zero_le->aL,le_refl->aF
set_option maxHeartbeats 12800000
namespace Go.Proofs.YtmomfkikogbdeaaGreatDoor
open Go.RowKit
theorem Zak{w:World}{base:Nat}{e:TypeId}{v}{n:Nat}{Z:List Int}(h:w.ownsRow base e 1 v n (Z.map (Value.int .i64))):∃ a cap,v = F a n cap/\RowAt w a n Z:=by
 have z:Z.length=n:=by have:=h.1;simpa using this
 rcases h.2 with ⟨rfl,rfl⟩|⟨g,cap,Q,rfl,_,_,h1,h2,_,_⟩
 ·have e:Z=[]:=aP.1 z;subst e;exact⟨none,0,rfl,RowAt.nil _ _⟩
 ·refine⟨_,cap,rfl,z,aT h1 h2,λ_=>⟨g,0,rfl,λi hi=>?_⟩⟩;rw[Nat.zero_add,World.ownsRow.cellAt h i (by omega)];simp[z,hi]
theorem Tryz.arr358:Tryz.prog.underlying 358=some (.array (Tryz.prog.arrayLen 358) (Tryz.prog.elem 358)):=by kernel_rfl
theorem Tryz.len358:Tryz.prog.arrayLen 358=16:=by kernel_rfl
theorem Tryz.el358:Tryz.prog.elem 358=3:=by kernel_rfl
theorem Az(p n:Nat)(h:n<=16)(w):(Instr.sliceAt 358 (dC (some ⟨p,0,none⟩)) none (some (E J n)) none).run aB w = .ok (F (some ⟨p,0,none⟩) n 16) w:=by
 rw[run_sliceAt_array_h w 358 ⟨p,0,none⟩ Tryz.arr358 .i64 n (by omega) (by rw[Tryz.len358];omega),Tryz.el358,Tryz.len358,Tryz.sizeOf3];simp[Result.andThen,slicedAt,Addr.add]
set_option maxRecDepth 100000 in
theorem Zky(p:Nat)(s:MS)(W w:World)(Q:Mach p s W w) :
  Calls aB 282 #[dC (some ⟨p,0,none⟩)] w λe w'=>∃ a cap,e = dA (F a s.n cap)/\RowAt w' a s.n (s.cs.take s.n)/\ZD w w':=by
 have c1:=Q.cell_n;have hn:=Q.good.2.1;have hl:=Q.good.1;have HC:Hid (∀ j,j<s.cs.length->w.cell? ⟨p,0+j,none⟩=some (E J (s.cs.getD j 0))):=λj hj=>by rw[Nat.zero_add];exact Q.cell_s j (by omega)
 have ak:=Az p s.n hn;clear Q;go_enter func282,ntmps282;go_wp2
 go_region_with (go_at_call 47;refine (Tryz.slices_Clone_int p 0 s.n 16 s.cs _ ?_ ?_ ?_).mono ?_;omega;omega;exact HC;rintro e w' ⟨v,rfl,aa,ag,z⟩)
 all_goals
  obtain⟨a,cap,rfl,ab⟩:=Zak aa;have HR:=Zd ab;have HB:Hid (ZD w w'):=⟨z.os,z.tape,z.output,z.size,z.block⟩;clear aa ag z ab;go_wp2;go_ret;exact⟨a,cap,rfl,Za HR,Za HB⟩
theorem Zjo{l Z}{h:Int}(e:chk l≠0):To l Z h=chk l/\Hh l Z h=[]:=by
 have h1:To l Z h=chk l:=by unfold To;rw[if_neg e]
 exact⟨h1,by unfold Hh;rw[h1,if_neg e]⟩
theorem Kj{l Z}{h:Int}(e:chk l=0)(g:(Yl Z && hOk h)=false):To l Z h=3/\Hh l Z h=[]:=by
 have h1:To l Z h=3:=by unfold To;rw[if_pos e,g];rfl
 exact⟨h1,by unfold Hh;rw[h1];rfl⟩
theorem Kp{l Z}{h:Int}(e:chk l=0)(g:(Yl Z && hOk h)=true)(r:Wt h l Z=none):To l Z h=8/\Hh l Z h=[]:=by
 have h1:To l Z h=8:=by unfold To;rw[if_pos e,g,r];rfl
 exact⟨h1,by unfold Hh;rw[h1];rfl⟩
theorem Po{l Z}{h:Int}{L}(e:chk l=0)(g:(Yl Z && hOk h)=true)(r:Wt h l Z=some L):To l Z h=0/\Hh l Z h=L:=by
 have h1:To l Z h=0:=by unfold To;rw[if_pos e,g,r];rfl
 exact⟨h1,by unfold Hh;rw[h1,r];rfl⟩
theorem Zjn(p:Nat)(s:MS)(a cap W w)(hm:Mach p s W w) :
  Calls aB 281 #[dC (some ⟨p,0,none⟩),F a 0 cap] w λe w'=>e = dA (dB #[])/\∃ s',Mach p s' W w'/\s'.h=s.h/\s'.rep=s.rep.bind (Wt s.h []):=by
 have z:=Zd hm;have ae:=hm.lt;clear hm;go_enter func281,ntmps281;go_wp2_with fail;refine (K7 p w ae).mono ?_;rintro e w1 ⟨rfl,ah,Q⟩;have ak:=run_storeCells_new (P:=aB) w1 376 #[.nilFunc,.nilFunc,.nilFunc,.nilFunc,.nilFunc,.nilFunc,.nilFunc,.nilFunc,.nilFunc,.nilFunc,.nilFunc,.nilFunc,.nilFunc,.nilFunc] (Tt p (w.heap.size+1)) Tryz.size376 rfl (by simp[Tt,met,Zpi,Zcj,Value.oneCell']);have al:(Tt p (w.heap.size+1)).size=14:=rfl;have ad:Mach p s W w1:=⟨z.good,(Q.block p ae).trans z.block,λk hk hl=>(Q.block k (aD hl z.size)).trans (z.old k hk hl),aT z.size Q.size,Q.os.trans z.os,Q.tape.trans z.tape,Q.output.trans z.output⟩;have ag:=Zd (ad.alloc (cZ (Tt p (w.heap.size+1)) 376));clear ah Q ad;go_wp2;refine wp_loop_rounds 1 ?_;rw[bD];go_wp2;go_end0;exact⟨rfl,s,Za ag,rfl,by cases s.rep <;> rfl⟩
theorem Zku(p:Nat)(s:MS)(a len cap l)(W w:World)(hm:Mach p s W w)(hp:W.heap.size<=p)(hO:OpsAt W a len l)(z:chk l=0) :
  Calls aB 281 #[dC (some ⟨p,0,none⟩),F a len cap] w λe w'=>e = dA (dB #[])/\∃ Q,Mach p Q W w'/\Q.h=s.h/\Q.rep=s.rep.bind (Wt s.h l):=by
 obtain⟨hz,hc⟩:=hO
 have h16:len<=16:=by
  unfold chk at z;split at z
  ·cases z
  ·omega
 have af:U8 l=0:=by
  unfold chk at z;split at z
  ·cases z
  ·exact z
 by_cases h:len=0
 ·subst h;have e:l=[]:=aP.1 hz;subst e;exact Zjn p s a cap W w hm
 ·obtain⟨b,off,rfl,aa⟩:=hc (by omega);exact Zjm p s b off len cap l W w hm hp hz h16 af (aE _ _ (aa 0 (by omega)).1) aa
def fresh(h:Int):MS:=⟨bB 16 0,0,h,false⟩
theorem Zlk(h:Int):(fresh h).ok:=⟨rfl,aL _,λx hx=>by rw[List.eq_of_mem_replicate hx];rfl⟩
theorem Zby(h:Int)(w:World):Mach w.heap.size (fresh h) w (w.alloc (cZ (fresh h).cells 360)) where
 good:=Zlk h
 block:=aH _ _
 old:=λk _ z=>Below.heap_alloc _ _ _ z
 size:=by simp
 os:=rfl
 tape:=rfl
 output:=rfl
theorem Bb{s:MS}{L}(h:s.rep=some L):s.f=false/\s.cs.take s.n=L:=by
 unfold MS.rep at h;cases hf:s.f with
 | true=>rw[hf] at h;cases h
 | false=>rw[hf] at h;exact⟨rfl,by simpa using h⟩
theorem Ba{s:MS}(h:s.rep=none):s.f=true:=by
 unfold MS.rep at h;cases hf:s.f with
 | true=>rfl
 | false=>rw[hf] at h;cases h
theorem Znt(a az len cap lens caps l Z)(h:Int)(w:World)(hO:OpsAt w a len l)(hR:RowAt w az lens Z) :
  Calls aB 253 #[F a len cap,F az lens caps,E J h] w λe w'=>∃ a' cb,e = dA (dB #[.slice a' (Hh l Z h).length cb,E J (To l Z h)])/\RowAt w' a' (Hh l Z h).length (Hh l Z h)/\ZD w w':=by
 obtain⟨CK,HO,HR⟩:=kh3 (Uo a len cap l w hO) hO hR;clear hO hR;by_cases ad:chk l=0
 ·rw[ad] at CK;have HK:=Zd ad;clear ad;go_enter func253,ntmps253;go_wp2_with fail;refine CK.mono ?_;rintro e w1 ⟨rfl,ac⟩;obtain⟨Q,bt,bv⟩:=kh3 ac (HO.later ac) (HR.later ac);clear ac;go_wp2_with fail;refine (Zal w1.heap.size (fresh h) az lens caps Z w1 _ (Zby h w1) (aF _) bv).mono ?_;rintro e w2 ⟨rfl,s',au,bi,bk⟩;have aa:s'.rep=if Yl Z then some Z else none:=bk.trans (Zft Z)
  have al:s'.h=h:=bi;have cg:=au.cell_f;have an:=Zd au;clear bk bi au;cases hso:Yl Z with
  | false=>
   rw[hso] at aa;have hf:=Ba aa;have e:=Kj (h:=h) HK (show (Yl Z && hOk h)=false by rw[hso];rfl);have z:=Zd e;rw[hf] at cg;clear e hf aa al hso;go_wp2;go_ret2;rw[(Za z).1,(Za z).2];exact⟨none,0,rfl,RowAt.nil _ _,Q.trans ((an.below (aF _)).mono Q.size)⟩
  | true=>
   rw[hso] at aa;have hf:=Bb aa;rw[hf.1] at cg;have HF:=Zd hf.2;clear hf;cases hho:hOk h with
   | false=>
    have e:=Kj HK (show (Yl Z && hOk h)=false by rw[hso,hho];rfl);obtain⟨z,HH⟩:=kh2 e hho;clear e aa al hso hho
    go_wp2_with (go_at_call 252;refine (Wy h false _ HH.symm).mono ?_;rintro e w' ⟨rfl,rfl⟩)
    go_ret2;rw[(Za z).1,(Za z).2];exact⟨none,0,rfl,RowAt.nil _ _,Q.trans ((an.below (aF _)).mono Q.size)⟩
   | true=>
    obtain⟨HH,HS,bx,br⟩:=kh4 hho hso aa al;clear aa al hso hho
    go_wp2_with (go_at_call 252;refine (Wy h true _ HH.symm).mono ?_;rintro e w' ⟨rfl,rfl⟩)
    refine (Zku w1.heap.size s' a len cap l w1 _ an (aF _) bt HK).mono ?_;rintro e w3 ⟨rfl,s3,av,cd,aw⟩;rw[Za bx,Za br] at aw;have am:s3.rep=Wt h l Z:=aw;have bf:=av.cell_f;have aj:=Zd av;clear aw cd av cg;cases hrl:Wt h l Z with
    | none=>
     have ae:=Ba (am.trans hrl);have e:=Kp HK (show (Yl Z && hOk h)=true by rw[Za HS,Za HH];rfl) hrl;have z:=Zd e;rw[ae] at bf;clear e am ae hrl;go_wp2;go_ret2;rw[(Za z).1,(Za z).2];exact⟨none,0,rfl,RowAt.nil _ _,Q.trans ((aj.below (aF _)).mono Q.size)⟩
    | some L=>
     have ae:=Bb (am.trans hrl);have e:=Po HK (show (Yl Z && hOk h)=true by rw[Za HS,Za HH];rfl) hrl;have z:=Zd e
     have bj:s3.n=L.length:=by
      have h1:=aj.good.1;have h2:=aj.good.2.1;rw[<-ae.2,List.length_take];omega
     rw[ae.1] at bf;have LF:=Zd (Zky w1.heap.size s3 w1 w3 aj);rw[ae.2,bj] at LF;clear e am ae hrl bj;go_wp2_with fail;refine LF.mono ?_;rintro e w4 ⟨a4,cc,rfl,bo,bh⟩;obtain⟨bz,bq⟩:=kh2 bo bh;clear bo bh;go_wp2;go_ret2;rw[(Za z).1,(Za z).2];have b3:=aj.below (aF _);exact⟨a4,cc,rfl,Za bz,Q.trans ((b3.trans (bq.mono b3.size)).mono Q.size)⟩
 ·have e:=Zjo (Z:=Z) (h:=h) ad;rw[e.1,e.2];obtain⟨x,hx⟩:=ZG (chk l);rw[<-hx] at ad CK ⊢;have cf:(x != 0)=true:=by simp[ad]
  clear e ad hx;go_enter func253,ntmps253;go_wp2_with fail;refine CK.mono ?_;rintro e w1 ⟨rfl,ac⟩;have Q:=Zd ac;clear ac;go_wp2;go_ret2;exact⟨none,0,rfl,RowAt.nil _ _,Za Q⟩
theorem check_is(a len cap l)(x:Int)(w:World)(hx:chk l=x)(h:OpsAt w a len l) :
  ZH 249 #[F a len cap] w (E J x):=by
 subst hx;exact Uo a len cap l w h
theorem Ki(a z len cap lens caps l Z)(h:Int)(x:Int)(L:List Int)(w:World)(hE:To l Z h=x)(hS:Hh l Z h=L)(hO:OpsAt w a len l)(hR:RowAt w z lens Z) :
  Calls aB 253 #[F a len cap,F z lens caps,E J h] w λe w'=>∃ Q aa,e = dA (dB #[F Q L.length aa,E J x])/\RowAt w' Q L.length L/\ZD w w':=by
 subst hE hS;exact Znt a z len cap lens caps l Z h w hO hR
theorem Vv{w z w2:World}(h1:ZD w z)(h2:ZD z w2):ZD w w2:=h1.trans (h2.mono h1.size)
theorem A1{h:Int}(z:hOk h=true):(Yl [] && hOk h)=true:=by rw[z];rfl
theorem Da(a b n c m d w) :
  (Instr.index 335 (.agg #[F a n c,F b m d]) (E J 0)).run aB w = .ok (F a n c) w /\
  (Instr.index 335 (.agg #[F a n c,F b m d]) (E J 1)).run aB w = .ok (F b m d) w:=by
 constructor <;> kernel_rfl
set_option maxRecDepth 100000 in
theorem Zgc(a ak len cap ag ah l k)(h:Int)(w:World)(hO:OpsAt w a len l)(hK:OpsAt w ak ag k) :
  ZH 206 #[F a len cap,F ak ag ah,E J h] w (dB #[dD (Xe l k h),E J (Vl l k h)]):=by
 obtain⟨HO,HK⟩:=kh2 hO hK;have bu:=λw=>(Da a ak len cap ag ah w).1;have bv:=λw=>(Da a ak len cap ag ah w).2;clear hO hK;by_cases c1:chk l=0
 ·by_cases c2:chk k=0
  ·cases c3:hOk h with
   | false=>
    have Q:Vl l k h=3:=(by simp[Vl,c1,c2,c3]);have z:Xe l k h=false:=(by simp[Xe,Q]);rw[Q,z];obtain⟨C1,C2,C3⟩:=kh3 c1 c2 c3;clear c1 c2 c3 Q z;go_enter func206,ntmps206;go_wp2;refine wp_loop_rounds 3 ?_;rw[bD];go_wp2_with fail;refine (check_is a len cap l 0 _ C1 HO).mono ?_;rintro e w1 ⟨rfl,aa⟩;have ab:=Zd aa;clear aa;go_wp2;rw[bD];go_wp2_with fail;refine (check_is ak ag ah k 0 _ C2 (HK.later ab)).mono ?_;rintro e w2 ⟨rfl,ad⟩;have ae:=Zd (Vv ab ad);clear ad;go_wp2;rw[bD]
    go_wp2_with (go_at_call 252;refine (Wy h false _ C3.symm).mono ?_;rintro e w' ⟨rfl,rfl⟩)
    go_ret2;exact⟨rfl,Za ae⟩
   | true=>
    have Q:Vl l k h=0:=(by simp[Vl,c1,c2,c3]);obtain⟨C1,C2,C3⟩:=kh3 c1 c2 c3;rw[Q];cases r1:Wt h k [] with
    | none=>
     have z:Xe l k h=false:=(by simp[Xe,r1]);rw[z];have R1:=Zd (Kp c2 (A1 c3) r1);clear c1 c2 c3 Q z r1;go_enter func206,ntmps206;go_wp2;refine wp_loop_rounds 3 ?_;rw[bD];go_wp2_with fail;refine (check_is a len cap l 0 _ C1 HO).mono ?_;rintro e w1 ⟨rfl,aa⟩;have ab:=Zd aa;clear aa;go_wp2;rw[bD];go_wp2_with fail;refine (check_is ak ag ah k 0 _ C2 (HK.later ab)).mono ?_;rintro e w2 ⟨rfl,ad⟩;have ae:=Zd (Vv ab ad);clear ad;go_wp2;rw[bD]
     go_wp2_with (go_at_call 252;refine (Wy h true _ C3.symm).mono ?_;rintro e w' ⟨rfl,rfl⟩)
     refine (Ki ak none ag ah 0 0 k [] h 8 [] _ R1.1 R1.2 (HK.later ae) (RowAt.nil _ _)).mono ?_;rintro e w3 ⟨a3,az,rfl,_,al⟩;have an:=Zd (Vv ae al);clear al;go_wp2;go_ret2;exact⟨rfl,Za an⟩
    | some L=>
     have sL:Yl L=true:=Zds (by rfl) r1;have gL:(Yl L && hOk h)=true:=(by rw[sL,c3];rfl);have R1:=Zd (Po c2 (A1 c3) r1);cases r2:Wt h l L with
     | none=>
      have z:Xe l k h=false:=(by simp[Xe,r1,r2]);rw[z];have R2:=Zd (Kp c1 gL r2);clear c1 c2 c3 Q z r1 r2 sL gL;go_enter func206,ntmps206;go_wp2;refine wp_loop_rounds 3 ?_;rw[bD];go_wp2_with fail;refine (check_is a len cap l 0 _ C1 HO).mono ?_;rintro e w1 ⟨rfl,aa⟩;have ab:=Zd aa;clear aa;go_wp2;rw[bD];go_wp2_with fail;refine (check_is ak ag ah k 0 _ C2 (HK.later ab)).mono ?_;rintro e w2 ⟨rfl,ad⟩;have ae:=Zd (Vv ab ad);clear ad;go_wp2;rw[bD]
      go_wp2_with (go_at_call 252;refine (Wy h true _ C3.symm).mono ?_;rintro e w' ⟨rfl,rfl⟩)
      refine (Ki ak none ag ah 0 0 k [] h 0 L _ R1.1 R1.2 (HK.later ae) (RowAt.nil _ _)).mono ?_;rintro e w3 ⟨a3,az,rfl,av,al⟩;obtain⟨an,bd⟩:=kh2 (Vv ae al) av;clear al av;go_wp2_with fail;refine (Ki a a3 len cap L.length az l L h 8 [] _ R2.1 R2.2 (HO.later an) bd).mono ?_;rintro e w4 ⟨a4,bq,rfl,_,au⟩;have ax:=Zd (Vv an au);clear au;go_wp2;go_ret2;exact⟨rfl,Za ax⟩
     | some M=>
      have z:Xe l k h=Bo M:=(by simp[Xe,r1,r2,Q]);rw[z];have R2:=Zd (Po c1 gL r2);clear c1 c2 c3 Q z r1 r2 sL gL;go_enter func206,ntmps206;go_wp2;refine wp_loop_rounds 3 ?_;rw[bD];go_wp2_with fail;refine (check_is a len cap l 0 _ C1 HO).mono ?_;rintro e w1 ⟨rfl,aa⟩;have ab:=Zd aa;clear aa;go_wp2;rw[bD];go_wp2_with fail;refine (check_is ak ag ah k 0 _ C2 (HK.later ab)).mono ?_;rintro e w2 ⟨rfl,ad⟩;have ae:=Zd (Vv ab ad);clear ad;go_wp2;rw[bD]
      go_wp2_with (go_at_call 252;refine (Wy h true _ C3.symm).mono ?_;rintro e w' ⟨rfl,rfl⟩)
      refine (Ki ak none ag ah 0 0 k [] h 0 L _ R1.1 R1.2 (HK.later ae) (RowAt.nil _ _)).mono ?_;rintro e w3 ⟨a3,az,rfl,av,al⟩;obtain⟨an,bd⟩:=kh2 (Vv ae al) av;clear al av;go_wp2_with fail;refine (Ki a a3 len cap L.length az l L h 0 M _ R2.1 R2.2 (HO.later an) bd).mono ?_;rintro e w4 ⟨a4,bq,rfl,bf,au⟩;have ax:=Zd (Vv an au);have HE:Hid (∀ b:Bool,b=Bo M->Ending.returned (dB #[dD b,E J 0]) = dA (dB #[dD (Bo M),E J 0])):=λb hb=>by rw[hb]
      clear au;by_cases m1:M.length=1
      ·obtain⟨y,rfl⟩:=List.length_eq_one_iff.1 m1;obtain⟨b4,o4,rfl,bj⟩:=bf.2.2 (by simp);have c4:w4.cell? ⟨b4,o4,none⟩=some (E J y):=bj 0 (by simp);have HY:Hid ((y != 0)=Bo [y]):=(by simp[Bo,Tj,Hid]);clear bj bf m1;go_wp2;go_ret2;exact⟨HE _ HY,Za ax⟩
      ·have m2:((M.length:Int) == 1)=false:=(by simp;omega);have HY:Hid (false=Bo M):=(by simp[Bo,m1,Hid]);clear bf m1;go_wp2;go_ret2;exact⟨HE _ HY,Za ax⟩
  ·have Q:Vl l k h=chk k:=(by simp[Vl,c1,c2]);have z:Xe l k h=false:=(by simp[Xe,Q,c2]);rw[Q,z];obtain⟨x,hx⟩:=ZF (chk k);rw[hx] at c2 ⊢;have g2:(x != 0)=true:=(by simp[c2]);obtain⟨C1,C2⟩:=kh2 c1 hx;clear c1 c2 hx Q z;go_enter func206,ntmps206;go_wp2;refine wp_loop_rounds 3 ?_;rw[bD];go_wp2_with fail;refine (check_is a len cap l 0 _ C1 HO).mono ?_;rintro e w1 ⟨rfl,aa⟩;have ab:=Zd aa;clear aa;go_wp2;rw[bD];go_wp2_with fail;refine (check_is ak ag ah k x _ C2 (HK.later ab)).mono ?_;rintro e w2 ⟨rfl,ad⟩;have ae:=Zd (Vv ab ad);clear ad;go_wp2;go_ret2;exact⟨rfl,Za ae⟩
 ·have Q:Vl l k h=chk l:=by simp[Vl,c1]
  have z:Xe l k h=false:=by simp[Xe,Q,c1]
  rw[Q,z];obtain⟨x,hx⟩:=ZF (chk l);rw[hx] at c1 ⊢;have g2:(x != 0)=true:=by simp[c1]
  have C1:=Zd hx;clear c1 hx Q z;go_enter func206,ntmps206;go_wp2;refine wp_loop_rounds 3 ?_;rw[bD];go_wp2_with fail;refine (check_is a len cap l x _ C1 HO).mono ?_;rintro e w1 ⟨rfl,aa⟩;have ab:=Zd aa;clear aa;go_wp2;go_ret2;exact⟨rfl,Za ab⟩
def Uq:CV:=((0,0,0,[],0,false),none,0,0)
theorem Jj(T R:List CV)(z:CV)(j:Nat)(Q:j<6):(Zm (T++z :: R))[T.length*6+j]? = (A0 z)[j]?:=by
 rw[Yp,List.getElem?_append_right (by rw[Yd];omega),Yd,Nat.add_sub_cancel_left,show z :: R=[z]++R from rfl,Yp,List.getElem?_append_left (by rw[Yd];simpa using Q),Zll]
theorem Tc(T R:List CV)(z y:CV):((((((Zm (T++z :: R)).set (T.length*6) (E J y.1.1)).set (T.length*6+1) (E J y.1.2.1)).set (T.length*6+2) (E J (cv y.1))).set (T.length*6+3) (.slice y.2.1 y.2.2.1 y.2.2.2)).set (T.length*6+4) (E J (ch y.1))).set (T.length*6+5) (dD (cr y.1))=Zm (T++y :: R):=by
 rw[Yp,Yp];have e:=Yd T;rw[<-e];simp only[Zm,List.set_append_right _ _ (aF _),List.set_append_right _ _ (Nat.le_add_right _ _),Nat.sub_self,Nat.add_sub_cancel_left,List.set_cons_zero,List.set_cons_succ]
theorem Zgq(n:Nat):(madeCells zeroC.cells (n*6)).toList=Zm (bB n Uq):=by
 apply List.ext_getElem?
 intro j;by_cases hj:j<n*6
 ·obtain⟨z,Q,f2,f3,f4,f5⟩:=Sv (bB n Uq) (j / 6) (by rw[List.length_replicate];omega);rw[List.getElem_replicate] at z Q f2 f3 f4 f5;have hz:zeroC.cells=zeroCs.toArray:=rfl
  have hL:(madeCells zeroC.cells (n*6)).toList[j]? = zeroCs[j % 6]?:=by
   have hs:zeroCs.length=6:=rfl;have h6:j % 6<6:=(by omega);simp[madeCells,hj,hz,hs,h6]
  rw[hL];obtain⟨i,r,rfl,hr⟩:∃ i r,j=i*6+r/\r<6:=⟨j / 6,j % 6,by omega,by omega⟩;rw[show (i*6+r) / 6=i by omega] at z Q f2 f3 f4 f5;rw[show (i*6+r) % 6=r by omega]
  match r,hr with
  | 0,_=>exact z.symm
  | 1,_=>exact Q.symm
  | 2,_=>exact f2.symm
  | 3,_=>exact f3.symm
  | 4,_=>exact f4.symm
  | 5,_=>exact f5.symm
 ·rw[List.getElem?_eq_none (by simp[madeCells];omega),List.getElem?_eq_none (by rw[Yd,List.length_replicate];omega)]
theorem Zdl{w:World}{base g n c:Nat}{xs:List Value}(h:w.ownsRow base 124 6 (F (some ⟨g,0,none⟩) n c) n xs)(b:Nat)(z Q a2 a3 a4 a5) :
  ((((((w.setCell ⟨g,b,none⟩ z).setCell ⟨g,b+1,none⟩ Q).setCell ⟨g,b+2,none⟩ a2).setCell ⟨g,b+3,none⟩ a3).setCell ⟨g,b+4,none⟩ a4).setCell ⟨g,b+5,none⟩ a5).ownsRow base 124 6 (F (some ⟨g,0,none⟩) n c) n ((((((xs.set b z).set (b+1) Q).set (b+2) a2).set (b+3) a3).set (b+4) a4).set (b+5) a5):=
 ((((((h.stored b z).1.stored (b+1) Q).1.stored (b+2) a2).1.stored (b+3) a3).1.stored (b+4) a4).1.stored (b+5) a5).1
theorem Gr.sixAt{w w1:World}{S:Nat->Prop}(h:Gr w w1 S)(b i:Nat)(z:S b\/w.heap.size<=b)(Q a1 a2 a3 a4 a5):Gr w ((((((w1.setCell ⟨b,i,none⟩ Q).setCell ⟨b,i+1,none⟩ a1).setCell ⟨b,i+2,none⟩ a2).setCell ⟨b,i+3,none⟩ a3).setCell ⟨b,i+4,none⟩ a4).setCell ⟨b,i+5,none⟩ a5) S:=
 (((((h.one b i z Q).one b (i+1) z a1).one b (i+2) z a2).one b (i+3) z a3).one b (i+4) z a4).one b (i+5) z a5
theorem Dx(h:Int)(I:List InD)(k:Nat)(z:k<I.length)(S L)(Q:Ue (I[k].1,I[k].2.1) L=none):Zr h (I.drop k) S L=(7,[],[]):=by
 rw[aI z,Zr,Q]
theorem Dy(h:Int)(I:List InD)(k:Nat)(z:k<I.length)(S L M)(c:Zj)(ht:Ue (I[k].1,I[k].2.1) L=some (c,M))(Q:cr c=true/\h<ch c+2):Zr h (I.drop k) S L=(10,[],[]):=by
 rw[aI z,Zr,ht];simp only;rw[if_pos Q]
theorem Au(h:Int)(I:List InD)(k:Nat)(z:k<I.length)(S L M)(c:Zj)(ht:Ue (I[k].1,I[k].2.1) L=some (c,M))(Q:¬(cr c=true/\h<ch c+2))(ho:Xe (ck c) I[k].2.2 h=false):Zr h (I.drop k) S L=(8,[],[]):=by
 rw[aI z,Zr,ht];simp only;rw[if_neg Q,if_pos ho]
theorem Zag(h:Int)(I:List InD)(k:Nat)(z:k<I.length)(S L M)(c:Zj)(ht:Ue (I[k].1,I[k].2.1) L=some (c,M))(Q:¬(cr c=true/\h<ch c+2))(ho:Xe (ck c) I[k].2.2 h=true):Zr h (I.drop k) S L=Zr h (I.drop (k+1)) (S++[c]) M:=by
 rw[aI z,Zr,ht];simp only;rw[if_neg Q,if_neg (by rw[ho];decide)]
theorem Av(h:Int)(I:List InD)(k:Nat)(z:I.length<=k)(S L):Zr h (I.drop k) S L=(0,S,L):=by
 rw[List.drop_of_length_le z,Zr]
theorem Zez{q:PtD}{L M}{c:Zj}(h:Ue q L=some (c,M))(z:Srt L):Srt M:=by
 rw[(Vk h).2.2];exact z.filter _
theorem Zke{l k}{h:Int}(q:Xe l k h=true):Vl l k h=0:=by
 unfold Xe at q;rw[bY,decide_eq_true_eq] at q;exact q.1
theorem Zkd(a z len cap Q aa l k)(h:Int)(b:Bool)(x:Int)(w:World)(hO:OpsAt w a len l)(hK:OpsAt w z Q k)(hb:Xe l k h=b)(hx:Vl l k h=x) :
  ZH 206 #[F a len cap,F z Q aa,E J h] w (dB #[dD b,E J x]):=by
 subst hb hx;exact Zgc a z len cap Q aa l k h w hO hK
theorem Zx(w:World)(a b c)(t:TypeId):(w.alloc (cZ #[a,b,c] t)).heap[w.heap.size]? = some (cZ [a,b,c].toArray t (0,0)):=aH w _
def Spent(w0 w':World)(p ni:Nat)(K:List CV)(S M:List Zj)(a':Option Addr)(Q c':Nat):Prop:=
 ∃ (v':Value) (K' T:List CV),T.map (·.1)=S/\K'.map (·.1)=M/\Srt M/\K'.length<=K.length/\Q=T.length/\T.length=ni/\w'.ownsRow w0.heap.size 124 6 (F a' Q c') Q (Zm T)/\(∀ z∈T,LkAt w0 z)/\(∀ z∈K',z∈K)/\(∀ z∈T,z∈K)/\Pu w0 w' p v' K'/\(∃ s,(Value.slice a' Q c').ownBlock=some s/\v'.ownBlock≠some s/\s≠p)
set_option maxRecDepth 10000 in
theorem Zje(w0 w:World)(p:Nat)(v)(K:List CV)(ai ni ci I)(h:Int)(x:Int)(S M)(hP:Pu w0 w p v K)(hs:Srt (K.map (·.1)))(hn:K.length<=4096)(hr:∀ z∈K,ck1 z.1=0)(hI:InsAt w0 ai ni I)(iz:ni<=6)(hx:Zr h I [] (K.map (·.1))=(x,S,M)) :
  Calls aB 146 #[dC (some ⟨p,0,none⟩),F ai ni ci,E J h] w λe w'=>∃ a' n' c',e = dA (dB #[F a' n' c',E J x])/\ZD w0 w' /\
   (x=0->Spent w0 w' p ni K S M a' n' c'):=by
 obtain⟨i0,gj,gs,gu,gv⟩:=info_parts Tryz.infoCoin;have hB:w0.heap.size<=w.heap.size:=hP.bel.size;have jb:p<w.heap.size:=hP.lt;obtain⟨HP,HS,HR,HI,HZ,HX⟩:=kh6 hP hs hr hI hI.1 hx;clear hP hs hr hI hx;go_enter func146,ntmps146
 go_wp2_with (at_make;refine wpList_make_full _ rfl _ _ 29 rfl w0.heap.size 124 i0 zeroC 6 underlying29 gj gs gu .i64 .i64 _ _ ni rfl rfl rfl rfl (by rw[gv];omega) (by unfold maxLen;omega) hB ?_;intro w2 cp ew)
 rw[Zgq] at cp;have es:ZD w w2:=(Below.refl _ _).grown ew (aF _) (λk h=>by cases h);have gn:w.heap.size<w2.heap.size:=(cp.lt w.heap.size rfl).2
 have ST:Hid (Pu w0 w2 p v K/\w2.ownsRow w0.heap.size 124 6 (F (some ⟨w.heap.size,0,none⟩) ni ni) ni (Zm ([]++bB (ni - 0) Uq))/\v.ownBlock≠some w.heap.size):=
  ⟨HP.kept es,cp,λe=>by have:=(HP.own.lt _ e).2;omega⟩
 clear cp ew es
 go_loopw [20] (λi wr=>∃ (k:Nat) (T K':List CV) (v':Value),k<=ni/\i = E J k/\Hid (Zr h I [] (K.map (·.1))=Zr h (I.drop k) (T.map (·.1)) (K'.map (·.1)))/\Hid (Srt (K'.map (·.1)))/\K'.length<=K.length/\Hid (T.length=k)/\Hid ((∀ z∈K',z∈K)/\(∀ z∈T,z∈K)) /\
  Hid (Pu w0 wr p v' K')/\Hid (wr.ownsRow w0.heap.size 124 6 (F (some ⟨w.heap.size,0,none⟩) ni ni) ni (Zm (T++bB (ni - k) Uq)))/\Hid (∀ z∈T,LkAt w0 z)/\Hid (v'.ownBlock≠some w.heap.size)/\w.heap.size<wr.heap.size) (λi _=>ni - (intOf i).toNat)
 case atStart=>exact⟨0,[],K,v,aL _,rfl,rfl,HS,aF _,rfl,⟨λz hz=>hz,λz hz=>(by cases hz)⟩,ST.1,ST.2.1,(λz hz=>(by cases hz):∀ z∈([]:List CV),LkAt w0 z),ST.2.2,gn⟩
 case round=>
  obtain⟨k,T,K',v',hk,rfl,A,bx,gf,HT,bb,ad,dd,HL,dc,jc⟩:=hrel;clear ST HS;by_cases gm:k<ni
  ·have bj:k<I.length:=(by rw[Za HZ];exact gm);obtain⟨b,off,rfl,it,gi⟩:=HI.2 (by omega);have ey:=gi k bj;obtain⟨E1,E2,E3,E4⟩:=kh4 (Dx h I k bj (T.map (·.1)) (K'.map (·.1))) (Dy h I k bj (T.map (·.1)) (K'.map (·.1))) (Au h I k bj (T.map (·.1)) (K'.map (·.1))) (Zag h I k bj (T.map (·.1)) (K'.map (·.1)));obtain⟨y,hy⟩:=ZF (I[k]);rw[hy] at ey E1 E2 E3 E4;obtain⟨y1,y2,key⟩:=y;obtain⟨en,eo,ka,kn,kc,ep,g4,_⟩:=ey;have g1:=Ze ad.bel en;have g2:=Ze ad.bel eo;have g3:=Ze ad.bel ep;have fk:Hid (OpsAt w0 ka kn key):=g4;clear en eo ep g4;simp only at g1 g2 g3 E1 E2 E3 E4;obtain⟨X,hX,cl,bg⟩:=ka00 wr [E J y1,E J y2,F ka kn kc] 119;have bf:=ad.kept cl;have dv:=(Gr.of (S:=λ_=>False) cl).own dd (λ_ _ q=>q);obtain⟨x0,x1,-⟩:=kc2 bg;have je:wr.heap.size<X.heap.size:=aA bg;obtain⟨fw,fq,fo⟩:=kh3 bg bf dv;have ja:p<wr.heap.size:=ad.lt;cases hf:Y3 (y1,y2) (K'.map (·.1)) with
   | false=>
    have C:=Zd (Zan w0 X p v' K' (y1,y2) bf bx (by omega) hf)
    have R:Hid (x=7):=by
     have e:=Za A;rw[(Za E1) (Zac hf),Za HX] at e;injection e
    clear E1 E2 E3 E4 cl bg bf dv hf hy A;go_wp2_with fail;rw[<-hX];clear hX;go_wp2_with fail;refine C.mono ?_;rintro e w3 ⟨rfl,er⟩;have fh:=Zd ((fq.kept er).bel);unfold zeroC;clear er;go_wp2;go_ret2;exact⟨_,_,_,by rw[Za R];rfl,Zf fh (Zh _ _),λe=>absurd e (by rw[Za R];decide)⟩
   | true=>
    have C:=Zd (Zam w0 X p v' K' (y1,y2) bf bx (by omega) hf);clear cl bg bf dv hf hy;go_wp2_with fail;rw[<-hX];clear hX;go_wp2_with fail;refine C.mono ?_;rintro e w3 ⟨z,v3,K3,rfl,ht,fd,ct,ix,cg,be,gp⟩;have fc:z∈K:=bb.1 z fd;have br:=Yu (HR z fc);have bq:=ad.lk z fd;have eu:1<=ch z.1:=br.2.2.2.2.2.2.1;have ev:ch z.1<=1000:=br.2.2.2.2.2.2.2.1;have cq:=Zez ht bx
    have cm:¬PuS p v' wr.heap.size:=by
     rintro (e|e)
     ·omega
     ·have:=(ad.own.lt _ e).2;omega
    have ay:=be.heap fw cm
    have cn:¬PuS p v' w.heap.size:=by
     rintro (e|e)
     ·omega
     ·exact dc e
    have ce:=be.own fo (λq hq=>by cases hq;exact cn);have bt:=Zd (E2 _ _ ht);have bu:=Zd (E3 _ _ ht);have bv:=Zd (E4 _ _ ht);obtain⟨Y,Q⟩:=ZG (w3.alloc (cZ #[E J z.1.1,E J z.1.2.1,E J (cv z.1),.slice z.2.1 z.2.2.1 z.2.2.2,E J (ch z.1),dD (cr z.1)] 124));have aw:ZD w3 Y:=(by rw[Q];exact Zh _ _);have au:Y.heap[w3.heap.size]? = some (cZ (A0 z).toArray 124 (0,0)):=(by rw[Q];exact W7 _ _ _ _ _ _ _ _);have an:=cg.kept aw;have cf:=(Gr.of (S:=λ_=>False) aw).own ce (λ_ _ q=>q);have bi:=ZE aw ay;have jd:wr.heap.size<w3.heap.size:=aA ay;have jf:w3.heap.size<Y.heap.size:=aA au;have q2:=Zb bi 2 _ rfl;have q3:=Zb ay 2 _ rfl;obtain⟨-,-,-,r3,r4,r5,-⟩:=kc6 au;have OP:=Zd (λjg xx hb hx=>Zkd z.2.1 ka z.2.2.1 z.2.2.2 kn kc (ck z.1) key h jg xx Y (bq.1.later an.bel) (fk.later an.bel) hb hx);by_cases ae:cr z.1=true/\h<ch z.1+2
    ·have R:Hid (x=10):=by
      have e:=Za A;rw[(Za bt) ae,Za HX] at e;injection e
     have et:cr z.1=true:=ae.1;have iu:h<ch z.1+2:=ae.2;have fi:=Zd an.bel;rw[et] at Q r5;unfold cnV;rw[et];clear E1 E2 E3 E4 bt bu bv A ae C aw au an cf bi cg be ce ay ht ct cq bq br cm cn q2 r3 g1 g2 g3 x0 x1;go_wp2_with fail;rw[<-Q];clear Q;go_wp2;go_ret2;exact⟨_,_,_,by rw[Za R];rfl,Za fi,λe=>absurd e (by rw[Za R];decide)⟩
    ·have hD:Hid ((cr z.1 && decide (h<ch z.1+2))=false):=by
      show _=_;rw[Bool.and_eq_false_iff,decide_eq_false_iff_not];cases q:cr z.1 with
      | true=>exact .inr λe=>ae ⟨q,e⟩
      | false=>exact .inl rfl
     obtain⟨jg,ax⟩:=ZF (Xe (ck z.1) key h);obtain⟨xx,cu⟩:=ZF (Vl (ck z.1) key h);obtain⟨aq,de,fp,fx⟩:=kh4 (OP jg xx ax cu) an cf au;have dx:v3.ownBlock≠some w.heap.size:=(by rw[gp];exact Za dc);obtain⟨ei,fu,fv,fz,fy,ir⟩:=kh6 dx cq ct bq fc bi;obtain⟨hd,bh⟩:=ZF (ch z.1);obtain⟨rr,bk⟩:=ZF (cr z.1);cases jg with
     | false=>
      have R:Hid (x=8):=by
       have e:=Za A;rw[(Za bu) ae ax,Za HX] at e;injection e
      unfold cnV;rw[bh] at hD Q r4 eu ev ⊢;rw[bk] at hD Q r5 ⊢;clear E1 E2 E3 E4 bt bu bv A ae C aw au an cf bi cg be ce ay ht ct cq bq br cm cn g1 g2 g3 x0 x1 OP ax cu dx bh bk;cases rr with
      | false=>
       clear hD;go_wp2_with fail;rw[<-Q];clear Q;refine aq.mono ?_;rintro e w5 ⟨rfl,aa⟩;have da:=Zd (de.kept aa).bel;clear aa;go_wp2;go_ret2;exact⟨_,_,_,by rw[Za R];rfl,Za da,λe=>absurd e (by rw[Za R];decide)⟩
      | true=>
       have gd:¬(h<hd+2):=(by have:=Za hD;simpa using this);clear hD;go_wp2_with fail;rw[<-Q];clear Q;refine aq.mono ?_;rintro e w5 ⟨rfl,aa⟩;have da:=Zd (de.kept aa).bel;clear aa;go_wp2;go_ret2;exact⟨_,_,_,by rw[Za R];rfl,Za da,λe=>absurd e (by rw[Za R];decide)⟩
     | true=>
      have gq:xx=0:=(by rw[<-cu];exact Zke ax);subst gq
      have A2:Hid (Zr h I [] (K.map (·.1))=Zr h (I.drop (k+1)) ((T++[z]).map (·.1)) (K3.map (·.1))):=by
       show _=_;rw[Za A,(Za bv) ae ax,List.map_append];rfl
      have ft:Hid (T++bB (ni - k) Uq=T++Uq :: bB (ni - (k+1)) Uq):=by
       show _=_;rw[show ni - k=(ni - (k+1))+1 by omega,List.replicate_succ]
      have fl:Hid (K3.length<=K.length):=(by show _<=_;omega);have iw:(k:Int)<(ni:Int):=(by omega);unfold cnV;rw[bh] at hD Q r4 eu ev ⊢;rw[bk] at hD Q r5 ⊢;obtain⟨ed,eg⟩:=kh2 bh bk;clear E1 E2 E3 E4 bt bu bv A ae C aw au an cf bi cg be ce ay ht ct cq bq br cm cn g1 g2 g3 x0 x1 OP ax cu dx bh bk
      have cb:Hid (∀ w5,ZD Y w5->(w5.cell? ⟨w3.heap.size,0,none⟩=some (E J z.1.1)/\w5.cell? ⟨w3.heap.size,1,none⟩=some (E J z.1.2.1)/\w5.cell? ⟨w3.heap.size,2,none⟩=some (E J (cv z.1))/\w5.cell? ⟨w3.heap.size,3,none⟩=some (.slice z.2.1 z.2.2.1 z.2.2.2)/\w5.cell? ⟨w3.heap.size,4,none⟩=some (E J hd)/\w5.cell? ⟨w3.heap.size,5,none⟩=some (dD rr)) /\
        (∃ u0 u1 u2 u3 u4 u5,w5.cell? ⟨w.heap.size,k*6,none⟩=some u0/\w5.cell? ⟨w.heap.size,k*6+1,none⟩=some u1/\w5.cell? ⟨w.heap.size,k*6+2,none⟩=some u2/\w5.cell? ⟨w.heap.size,k*6+3,none⟩=some u3/\w5.cell? ⟨w.heap.size,k*6+4,none⟩=some u4/\w5.cell? ⟨w.heap.size,k*6+5,none⟩=some u5)/\(∀ j,w5.frozen? ⟨w.heap.size,j,none⟩=false)/\w.heap.size<w5.heap.size /\
        Hid (∃ (T' K':List CV) (v':Value),Hid (Zr h I [] (K.map (·.1))=Zr h (I.drop (k+1)) (T'.map (·.1)) (K'.map (·.1)))/\Hid (Srt (K'.map (·.1)))/\K'.length<=K.length/\Hid (T'.length=k+1)/\Hid ((∀ z∈K',z∈K)/\(∀ z∈T',z∈K)) /\
         Hid (Pu w0 ((((((w5.setCell ⟨w.heap.size,k*6,none⟩ (E J z.1.1)).setCell ⟨w.heap.size,k*6+1,none⟩ (E J z.1.2.1)).setCell ⟨w.heap.size,k*6+2,none⟩ (E J (cv z.1))).setCell ⟨w.heap.size,k*6+3,none⟩ (.slice z.2.1 z.2.2.1 z.2.2.2)).setCell ⟨w.heap.size,k*6+4,none⟩ (E J hd)).setCell ⟨w.heap.size,k*6+5,none⟩ (dD rr)) p v' K') /\
         Hid (((((((w5.setCell ⟨w.heap.size,k*6,none⟩ (E J z.1.1)).setCell ⟨w.heap.size,k*6+1,none⟩ (E J z.1.2.1)).setCell ⟨w.heap.size,k*6+2,none⟩ (E J (cv z.1))).setCell ⟨w.heap.size,k*6+3,none⟩ (.slice z.2.1 z.2.2.1 z.2.2.2)).setCell ⟨w.heap.size,k*6+4,none⟩ (E J hd)).setCell ⟨w.heap.size,k*6+5,none⟩ (dD rr)).ownsRow w0.heap.size 124 6 (F (some ⟨w.heap.size,0,none⟩) ni ni) ni (Zm (T'++bB (ni - (k+1)) Uq)))/\Hid (∀ z∈T',LkAt w0 z)/\Hid (v'.ownBlock≠some w.heap.size) /\
         w.heap.size<((((((w5.setCell ⟨w.heap.size,k*6,none⟩ (E J z.1.1)).setCell ⟨w.heap.size,k*6+1,none⟩ (E J z.1.2.1)).setCell ⟨w.heap.size,k*6+2,none⟩ (E J (cv z.1))).setCell ⟨w.heap.size,k*6+3,none⟩ (.slice z.2.1 z.2.2.1 z.2.2.2)).setCell ⟨w.heap.size,k*6+4,none⟩ (E J hd)).setCell ⟨w.heap.size,k*6+5,none⟩ (dD rr)).heap.size)):=by
       intro w5 aa;have az:=ZE aa fx;have am:=de.kept aa;have ar:=(Gr.of (S:=λ_=>False) aa).own fp (λ_ _ q=>q);rw[Za ft] at ar;have dw:=Za HT
       have av:∀ j,j<6->w5.cell? ⟨w.heap.size,k*6+j,none⟩=(A0 Uq)[j]?:=λj hj=>by
        rw[World.ownsRow.cellAt ar _ (by omega),<-dw,Jj _ _ _ j hj]
       refine⟨⟨Zb az 0 _ rfl,Zb az 1 _ rfl,Zb az 2 _ rfl,Zb az 3 _ rfl,by rw[<-Za ed];exact Zb az 4 _ rfl,by rw[<-Za eg];exact Zb az 5 _ rfl⟩,
        ⟨_,_,_,_,_,_,(av 0 (by decide)).trans rfl,(av 1 (by decide)).trans rfl,(av 2 (by decide)).trans rfl,(av 3 (by decide)).trans rfl,(av 4 (by decide)).trans rfl,(av 5 (by decide)).trans rfl⟩,λj=>ar.frozenAt j,(ar.lt _ rfl).2,?_⟩
       have hG:=(Gr.refl w5 (λq=>q=w.heap.size)).sixAt w.heap.size (k*6) (.inl rfl) (E J z.1.1) (E J z.1.2.1) (E J (cv z.1)) (.slice z.2.1 z.2.2.1 z.2.2.2) (E J hd) (dD rr);have du:=Zdl ar (k*6) (E J z.1.1) (E J z.1.2.1) (E J (cv z.1)) (.slice z.2.1 z.2.2.1 z.2.2.2) (E J hd) (dD rr);rw[<-Za ed,<-Za eg] at du hG ⊢;have fb:=Tc T (bB (ni - (k+1)) Uq) Uq z;rw[dw] at fb;rw[fb] at du;refine⟨T++[z],K3,v3,A2,fu,Za fl,?_,?_,?_,?_,?_,ei,aD (ar.lt _ rfl).2 hG.size⟩
       ·show _=_;rw[List.length_append,dw];rfl
       ·refine⟨λq hq=>bb.1 q (fv q hq),λq hq=>?_⟩
        rcases bA.1 hq with hq|hq
        ·exact bb.2 q hq
        ·rw[bX.1 hq];exact Za fy
       ·refine⟨hG.below am.bel am.bel.size (λq hq=>by rw[hq];exact hB),am.ge,hG.heap am.box (by omega),hG.own am.own (λq hq e=>ei (by rw[hq,e])),am.ne,am.lk⟩
       ·show World.ownsRow _ _ _ _ _ _ _;rw[List.append_assoc];exact du
       ·intro q hq
        rcases bA.1 hq with hq|hq
        ·exact HL q hq
        ·rw[bX.1 hq];exact Za fz
      cases rr with
      | false=>
       clear hD;go_wp2_with fail;rw[<-Q];clear Q;refine aq.mono ?_;rintro e w5 ⟨rfl,aa⟩;obtain⟨⟨s0,s1,s2,s3,s4,s5⟩,⟨u0,u1,u2,u3,u4,u5,t0,t1,t2,t3,t4,t5⟩,ab,go,db⟩:=cb w5 aa;have z0:=ab (k*6);have z1:=ab (k*6+1);have z2:=ab (k*6+2);have z3:=ab (k*6+3);have z4:=ab (k*6+4);have z5:=ab (k*6+5);have gh:=aa.size;have m5:w3.heap.size<w5.heap.size:=aE _ _ s0;have n1:¬(w3.heap.size=w.heap.size):=(by omega);have n2:¬(w.heap.size=w3.heap.size):=(by omega);clear aa ab cb aq q2 q3 r3 r4 r5;go_wp2;go_roundw
       case rel=>
        obtain⟨T',K',v',f1,f2,f3,f4,f5,f6,f7,f8,f9,dj⟩:=Za db;exact⟨k+1,T',K',v',by omega,by go_num,f1,f2,f3,f4,f5,f6,f7,f8,f9,dj⟩
       case measure=>simp[intOf];omega
      | true=>
       have gd:¬(h<hd+2):=(by have:=Za hD;simpa using this);clear hD;go_wp2_with fail;rw[<-Q];clear Q;refine aq.mono ?_;rintro e w5 ⟨rfl,aa⟩;obtain⟨⟨s0,s1,s2,s3,s4,s5⟩,⟨u0,u1,u2,u3,u4,u5,t0,t1,t2,t3,t4,t5⟩,ab,go,db⟩:=cb w5 aa;have z0:=ab (k*6);have z1:=ab (k*6+1);have z2:=ab (k*6+2);have z3:=ab (k*6+3);have z4:=ab (k*6+4);have z5:=ab (k*6+5);have gh:=aa.size;have m5:w3.heap.size<w5.heap.size:=aE _ _ s0;have n1:¬(w3.heap.size=w.heap.size):=(by omega);have n2:¬(w.heap.size=w3.heap.size):=(by omega);clear aa ab cb aq q2 q3 r3 r4 r5;go_wp2;go_roundw
       case rel=>
        obtain⟨T',K',v',f1,f2,f3,f4,f5,f6,f7,f8,f9,dj⟩:=Za db;exact⟨k+1,T',K',v',by omega,by go_num,f1,f2,f3,f4,f5,f6,f7,f8,f9,dj⟩
       case measure=>simp[intOf];omega
  ·have e:k=ni:=(by omega);subst e;have R:=Za A;rw[Av h I k (by rw[Za HZ];exact aF _),Za HX] at R;have R1:Hid (x=0):=(by show _=_;injection R);have R2:S=T.map (·.1):=(by injection R with _ R;injection R);have R3:M=K'.map (·.1):=(by injection R with _ R;injection R);subst R2 R3
   have fm:Hid (wr.ownsRow w0.heap.size 124 6 (F (some ⟨w.heap.size,0,none⟩) k k) k (Zm T)):=by
    have:=Za dd;rw[Nat.sub_self,List.replicate_zero,List.append_nil] at this;exact this
   clear R A dd;go_wp2;go_ret2;exact⟨some ⟨w.heap.size,0,none⟩,k,k,by rw[Za R1];rfl,ad.bel,λ_=>⟨v',K',T,rfl,rfl,Za bx,gf,HT.symm,Za HT,Za fm,Za HL,bb.1,bb.2,Za ad,w.heap.size,rfl,Za dc,by omega⟩⟩
set_option maxRecDepth 10000 in
theorem Vc(p h k n:Int)(a m c T)(x:Int)(w:World)(hT:TxsAt w a m T)(hx:Yk (p,h,k,n,T)=x) :
  ZH 85 #[.agg #[E J p,E J h,E J k,E J n,F a m c]] w (E J x):=by
 subst hx;obtain⟨X,Q,az,bk⟩:=ka00 w [E J p,E J h,E J k,E J n,F a m c] 39;obtain⟨aj,ad,HT⟩:=kh3 bk az (hT.later az);have hz:T.length=m:=hT.1;unfold Yk;simp only;rw[hz];clear az bk hT;cases q:W9 p h k n with
 | false=>
  have C:=Zd (Gv p h k n a m c false X q);rw[if_pos rfl];clear q hz;go_enter func85,ntmps85;go_wp2_with fail;rw[<-Q];clear Q;refine C.mono ?_;rintro e w1 ⟨rfl,z⟩;have ag:=Zd (Zf ad z);clear z;go_wp2;go_ret;exact⟨rfl,Za ag⟩
 | true=>
  have C:=Zd (Gv p h k n a m c true X q);rw[if_neg (by decide)];clear q;by_cases h4:4<m
  ·rw[if_pos h4];clear hz;go_enter func85,ntmps85;go_wp2_with fail;rw[<-Q];clear Q;refine C.mono ?_;rintro e w1 ⟨rfl,z⟩;have aa:=ZE z aj;obtain⟨-,-,-,-,c4,l1⟩:=kc5 aa;have ag:=Zd (Zf ad z);clear z aa;go_wp2;go_ret;exact⟨rfl,Za ag⟩
  ·rw[if_neg h4];by_cases h0:m=0
   ·subst h0;rw[if_pos rfl];clear hz h4;go_enter func85,ntmps85;go_wp2_with fail;rw[<-Q];clear Q;refine C.mono ?_;rintro e w1 ⟨rfl,z⟩;have aa:=ZE z aj;obtain⟨-,-,-,-,c4,l1⟩:=kc5 aa;have ag:=Zd (Zf ad z);clear z aa;go_wp2;go_ret;exact⟨rfl,Za ag⟩
   ·rw[if_neg h0];have g0:((m:Int) == 0)=false:=(by simp[h0]);have HZ:=Zd hz;obtain⟨b,off,rfl,cp,bq⟩:=HT.2 (by omega);have HC:=Zd bq;clear hz bq;go_enter func85,ntmps85;go_wp2_with fail;rw[<-Q];clear Q;refine C.mono ?_;rintro e w1 ⟨rfl,z⟩;have aa:=ZE z aj;obtain⟨-,-,-,-,c4,l1⟩:=kc5 aa;have bh:=Zd z;clear z aa;go_wp2
    go_loopw [20] (λi wr=>∃ k:Nat,k<=m/\i = E J k/\Hid (We h 0 T=We h k (T.drop k))/\Hid (ZD X wr)) (λi _=>m - (intOf i).toNat)
    case atStart=>exact⟨0,aL _,rfl,rfl,bh⟩
    case round=>
     obtain⟨j,hj,rfl,A,au⟩:=hrel;clear c4 l1 bh;by_cases ce:j<m
     ·have bt:j<T.length:=(by rw[Za HZ];exact ce);have bs:=TxAt.kept _ _ _ _ _ au (HC j bt);have ST:=Zd (Zmd h T j bt);obtain⟨t,ht⟩:=ZF (T[j]);rw[ht] at bs ST;obtain⟨t1,I,O⟩:=t;obtain⟨bj,⟨ai,ni,ci,g1,hI,sI⟩,ao,no,co,g2,hO,_⟩:=bs;have A2:Hid (We h 0 T=if Zu (t1,I,O)≠0 then Zu (t1,I,O) else if Vr (t1,I,O) j h=false then 4 else We h (j+1) (T.drop (j+1))):=(by show _=_;rw[Za A,Za ST]);simp only at bj g1 g2 hI hO;obtain⟨Y,hY,an,ay⟩:=ka00 wr [E J t1,F ai ni ci,F ao no co] 59;obtain⟨cc,ar⟩:=kh2 ay (Zf au an);have cd:=ZE ar aj;obtain⟨y0,y1,y2,yl⟩:=kc3 ay;obtain⟨x,hx⟩:=ZF (Zu (t1,I,O));obtain⟨o,ho⟩:=ZF (Vr (t1,I,O) j h);have CT:=Zd (Vw t1 ai ao ni ci no co I O Y (hI.later an) (hO.later an) sI);have CS:=Zd (λW=>Zfh t1 ai ao ni ci no co I O j h o W hI.1 ho);rw[hx] at A2 CT;rw[ho] at A2;clear an ay cd A ST ht hI hO sI hx ho;by_cases ap:x=0
      ·subst ap
       have A3:Hid (We h 0 T=if o=false then 4 else We h (j+1) (T.drop (j+1))):=by
        have q:=Za A2;rw[if_neg (by decide)] at q;exact q
       clear A2;go_wp2_with fail;rw[<-hY];clear hY;go_wp2_with fail;refine CT.mono ?_;rintro e w2 ⟨rfl,ae⟩;have bv:=ZE ae cc;have bf:=Zd (Zf ar ae);have br:=ZE bf aj;obtain⟨z0,z1,z2,zl⟩:=kc3 bv;obtain⟨-,k1,kl⟩:=kc2 br;clear ae bv br y0 y1 y2 yl bj g1 g2;go_wp2_with fail;refine (CS _).mono ?_;rintro e w3 ⟨rfl,bo⟩;have bg:=Zd (Zf bf bo);clear bo;cases o with
       | false=>
        have R:Hid (We h 0 T=4):=(by show _=_;rw[Za A3];rfl);have ah:=Zd (Zf ad bg);clear A3;go_wp2;go_ret;exact⟨by rw[Za R];rfl,Za ah⟩
       | true=>
        have R:Hid (We h 0 T=We h (j+1) (T.drop (j+1))):=(by show _=_;rw[Za A3];rfl);clear A3;go_wp2;go_roundw
        case rel=>exact⟨j+1,by omega,by go_num,R,bg⟩
        case measure=>simp[intOf];omega
      ·have R:Hid (We h 0 T=x):=(by show _=_;rw[Za A2,if_pos ap]);have gx:(x != 0)=true:=(by simp[ap]);clear A2 ap;go_wp2_with fail;rw[<-hY];clear hY;go_wp2_with fail;refine CT.mono ?_;rintro e w2 ⟨rfl,ae⟩;have ah:=Zd (Zf ad (Zf ar ae));clear ae;go_wp2;go_ret;exact⟨by rw[Za R];rfl,Za ah⟩
     ·have R:Hid (We h 0 T=0):=(by show _=_;rw[Za A,Zhz h T j (by rw[Za HZ];omega)]);have ah:=Zd (Zf ad au);clear A;go_wp2;go_ret;exact⟨by rw[Za R];rfl,Za ah⟩
theorem Mc:∀ (L pre:List InD),Ya pre L=0->∀ x∈L,Tp x=true/\chk x.2.2=0
 | [],_,_,x,hx=>by cases hx
 | y :: r,pre,h,x,hx=>by
  unfold Ya at h;split at h
  ·rename_i h1
   rcases aU.1 hx with rfl|hx
   ·unfold Wf at h1;split at h1
    ·cases h1
    ·rename_i h2;split at h1
     ·rename_i h3;exact absurd h1 h3
     ·rename_i h3;exact⟨by simpa using h2,by simpa using h3⟩
   ·exact Mc r _ h x hx
  ·contradiction
theorem G9:∀ (L:List Zy),Yi L=0->∀ x∈L,1<=x.1/\chk x.2=0
 | [],_,x,hx=>by cases hx
 | y :: r,h,x,hx=>by
  unfold Yi at h;split at h
  ·rename_i h1
   rcases aU.1 hx with rfl|hx
   ·unfold Xa at h1;split at h1
    ·cases h1
    ·rename_i h2;exact⟨by omega,h1⟩
   ·exact G9 r h x hx
  ·contradiction
theorem Zjh:∀ (Z:List Int) (s:Int),(sm s Z).2=0->∀ aa∈Z,0<=aa/\aa<=1000000000
 | [],_,_,aa,z=>by cases z
 | y :: r,s,h,aa,z=>by
  unfold sm at h;split at h
  ·rename_i h1;split at h
   ·rcases aU.1 z with rfl|z
    ·exact h1
    ·exact Zjh r _ h aa z
   ·cases h
  ·cases h
structure TxOk(t:TxD):Prop where
 ins6:t.2.1.length<=6
 outs6:t.2.2.length<=6
 some:0<t.2.2.length
 hgt:0<=t.1/\t.1<=1000
 fit:Fo t=true
 chkI:Ya [] t.2.1=0
 ins:∀ x∈t.2.1,Tp x=true/\chk x.2.2=0
 outs:∀ x∈t.2.2,(1<=x.1/\x.1<=1000000000)/\chk x.2=0
theorem TxOk.of{t}(h:Zu t=0):TxOk t:=by
 unfold Zu at h;split at h
 ·cases h
 ·rename_i h1;split at h
  ·cases h
  ·rename_i h2;split at h
   ·cases h
   ·rename_i h3;split at h
    ·rename_i h4;exact absurd h h4
    ·rename_i h4;have Q:Ya [] t.2.1=0:=(by simpa using h4);have z:Fo t=true:=(by simpa using h3);unfold Yq at h;split at h
     ·rename_i h5;refine⟨by omega,by omega,by omega,?_,z,Q,Mc _ _ Q,λx hx=>?_⟩
      ·unfold Fo at z;split at z
       ·simp only[bY,decide_eq_true_eq] at z;omega
       ·have:t.1=0:=(by simpa using z);omega
      ·have a:=G9 _ h5 x hx;have b:=Zjh _ _ h x.1 (List.mem_map.2 ⟨x,hx,rfl⟩);exact⟨⟨a.1,b.2⟩,a.2⟩
     ·contradiction
theorem Ku(x:InD):Tp x=true↔(1<=x.1/\x.1<=120)/\(0<=x.2.1/\x.2.1<=5):=by
 unfold Tp;simp only[bY,decide_eq_true_eq]
