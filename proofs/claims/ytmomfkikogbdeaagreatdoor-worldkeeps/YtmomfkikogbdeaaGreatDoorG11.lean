import Derived.Test.YtmomfkikogbdeaaGreatDoorH
import Derived.Test.YtmomfkikogbdeaaGreatDoorG1
import Derived.Test.YtmomfkikogbdeaaGreatDoorG10
open Go.Proofs.Tryz
open Bool renaming and_eq_true->cB
open Go renaming rounds_succ->bF,heap_alloc_new->aJ
open Go.Ending renaming returned->cS
open Go.IntKind renaming i64->J
open Go.Obj renaming cells->cR
open Go.Proofs.Tryz renaming prog->aA
open Go.Value renaming int->E,slice->F,tuple->cT,pointer->cU,bool->cV
open Go.World renaming block_lt_of_cell?->aD
open List renaming length_eq_zero_iff->aG,replicate->bN,drop_eq_getElem_cons->aL,mem_cons->bB
open Nat renaming le_trans->aT,lt_of_lt_of_le->aC,zero_le->aM,le_refl->aF
set_option maxHeartbeats 12800000
namespace Go.Proofs.YtmomfkikogbdeaaGreatDoor
open Go.RowKit
theorem B9{w:World}{base:Nat}{e:TypeId}{v}{n:Nat}{Z:List Int}(h:w.ownsRow base e 1 v n (Z.map (Value.int .i64))):∃ a cap,v = F a n cap/\RowAt w a n Z:=by
 have z:Z.length=n:=by have:=h.1;simpa using this
 rcases h.2 with ⟨rfl,rfl⟩|⟨g,cap,Q,rfl,_,_,h1,h2,_,_⟩
 ·have e:Z=[]:=aG.1 z;subst e;exact⟨none,0,rfl,RowAt.nil _ _⟩
 ·refine⟨_,cap,rfl,z,aT h1 h2,λ_=>⟨g,0,rfl,λi hi=>?_⟩⟩;rw[Nat.zero_add,World.ownsRow.cellAt h i (by omega)];simp[z,hi]
theorem Tryz.arr358:Tryz.prog.underlying 358=some (.array (Tryz.prog.arrayLen 358) (Tryz.prog.elem 358)):=by kernel_rfl
theorem Tryz.len358:Tryz.prog.arrayLen 358=16:=by kernel_rfl
theorem Tryz.el358:Tryz.prog.elem 358=3:=by kernel_rfl
theorem D7(p n:Nat)(h:n<=16)(w):(Instr.sliceAt 358 (cU (some ⟨p,0,none⟩)) none (some (E J n)) none).run aA w = .ok (F (some ⟨p,0,none⟩) n 16) w:=by
 rw[run_sliceAt_array_h w 358 ⟨p,0,none⟩ Tryz.arr358 .i64 n (by omega) (by rw[Tryz.len358];omega),Tryz.el358,Tryz.len358,Tryz.sizeOf3];simp[Result.andThen,slicedAt,Addr.add]
set_option maxRecDepth 100000 in
theorem Zhe(p:Nat)(s:MS)(W w:World)(Q:Mach p s W w) :
  Calls aA 282 #[cU (some ⟨p,0,none⟩)] w λe w'=>∃ a cap,e = cS (F a s.n cap)/\RowAt w' a s.n (s.cs.take s.n)/\ZD w w':=by
 have c1:=Q.cell_n;have hn:=Q.good.2.1;have hl:=Q.good.1;have HC:Hid (∀ j,j<s.cs.length->w.cell? ⟨p,0+j,none⟩=some (E J (s.cs.getD j 0))):=λj hj=>by rw[Nat.zero_add];exact Q.cell_s j (by omega)
 have ak:=D7 p s.n hn;clear Q;go_enter func282,ntmps282;go_wp2
 go_region_with (go_at_call 47;refine (Tryz.slices_Clone_int p 0 s.n 16 s.cs _ ?_ ?_ ?_).mono ?_;omega;omega;exact HC;rintro e w' ⟨v,rfl,aa,ag,z⟩)
 all_goals
  obtain⟨a,cap,rfl,ab⟩:=B9 aa;have HR:=Zd ab;have HB:Hid (ZD w w'):=⟨z.os,z.tape,z.output,z.size,z.block⟩;clear aa ag z ab;go_wp2;go_ret;exact⟨a,cap,rfl,Za HR,Za HB⟩
theorem Zft{l Z}{h:Int}(e:chk l≠0):Rz l Z h=chk l/\Pz l Z h=[]:=by
 have h1:Rz l Z h=chk l:=by unfold Rz;rw[if_neg e]
 exact⟨h1,by unfold Pz;rw[h1,if_neg e]⟩
theorem Hb{l Z}{h:Int}(e:chk l=0)(g:(Yd Z && hOk h)=false):Rz l Z h=3/\Pz l Z h=[]:=by
 have h1:Rz l Z h=3:=by unfold Rz;rw[if_pos e,g];rfl
 exact⟨h1,by unfold Pz;rw[h1];rfl⟩
theorem Hc{l Z}{h:Int}(e:chk l=0)(g:(Yd Z && hOk h)=true)(r:We h l Z=none):Rz l Z h=8/\Pz l Z h=[]:=by
 have h1:Rz l Z h=8:=by unfold Rz;rw[if_pos e,g,r];rfl
 exact⟨h1,by unfold Pz;rw[h1];rfl⟩
theorem Sl{l Z}{h:Int}{L}(e:chk l=0)(g:(Yd Z && hOk h)=true)(r:We h l Z=some L):Rz l Z h=0/\Pz l Z h=L:=by
 have h1:Rz l Z h=0:=by unfold Rz;rw[if_pos e,g,r];rfl
 exact⟨h1,by unfold Pz;rw[h1,r];rfl⟩
theorem Zfs(p:Nat)(s:MS)(a cap W w)(hm:Mach p s W w) :
  Calls aA 281 #[cU (some ⟨p,0,none⟩),F a 0 cap] w λe w'=>e = cS (cT #[])/\∃ s',Mach p s' W w'/\s'.h=s.h/\s'.rep=s.rep.bind (We s.h []):=by
 have z:=Zd hm;have ae:=hm.lt;clear hm;go_enter func281,ntmps281;go_wp2_with fail;refine (Hn p w ae).mono ?_;rintro e w1 ⟨rfl,ah,Q⟩;have ak:=run_storeCells_new (P:=aA) w1 376 #[.nilFunc,.nilFunc,.nilFunc,.nilFunc,.nilFunc,.nilFunc,.nilFunc,.nilFunc,.nilFunc,.nilFunc,.nilFunc,.nilFunc,.nilFunc,.nilFunc] (R5 p (w.heap.size+1)) Tryz.size376 rfl (by simp[R5,met,Zla,Ew,Value.oneCell']);have al:(R5 p (w.heap.size+1)).size=14:=rfl;have ad:Mach p s W w1:=⟨z.good,(Q.block p ae).trans z.block,λk hk hl=>(Q.block k (aC hl z.size)).trans (z.old k hk hl),aT z.size Q.size,Q.os.trans z.os,Q.tape.trans z.tape,Q.output.trans z.output⟩;have ag:=Zd (ad.alloc (cR (R5 p (w.heap.size+1)) 376));clear ah Q ad;go_wp2;refine wp_loop_rounds 1 ?_;rw[bF];go_wp2;go_end0;exact⟨rfl,s,Za ag,rfl,by cases s.rep <;> rfl⟩
theorem Zha(p:Nat)(s:MS)(a len cap l)(W w:World)(hm:Mach p s W w)(hp:W.heap.size<=p)(hO:OpsAt W a len l)(z:chk l=0) :
  Calls aA 281 #[cU (some ⟨p,0,none⟩),F a len cap] w λe w'=>e = cS (cT #[])/\∃ Q,Mach p Q W w'/\Q.h=s.h/\Q.rep=s.rep.bind (We s.h l):=by
 obtain⟨hz,hc⟩:=hO
 have h16:len<=16:=by
  unfold chk at z;split at z
  ·cases z
  ·omega
 have af:Qh l=0:=by
  unfold chk at z;split at z
  ·cases z
  ·exact z
 by_cases h:len=0
 ·subst h;have e:l=[]:=aG.1 hz;subst e;exact Zfs p s a cap W w hm
 ·obtain⟨b,off,rfl,aa⟩:=hc (by omega);exact Zfr p s b off len cap l W w hm hp hz h16 af (aD _ _ (aa 0 (by omega)).1) aa
def fresh(h:Int):MS:=⟨bN 16 0,0,h,false⟩
theorem Zhm(h:Int):(fresh h).ok:=⟨rfl,aM _,λx hx=>by rw[List.eq_of_mem_replicate hx];rfl⟩
theorem Ej(h:Int)(w:World):Mach w.heap.size (fresh h) w (w.alloc (cR (fresh h).cells 360)) where
 good:=Zhm h
 block:=aJ _ _
 old:=λk _ z=>Below.heap_alloc _ _ _ z
 size:=by simp
 os:=rfl
 tape:=rfl
 output:=rfl
theorem Fe{s:MS}{L}(h:s.rep=some L):s.f=false/\s.cs.take s.n=L:=by
 unfold MS.rep at h;cases hf:s.f with
 | true=>rw[hf] at h;cases h
 | false=>rw[hf] at h;exact⟨rfl,by simpa using h⟩
theorem Fd{s:MS}(h:s.rep=none):s.f=true:=by
 unfold MS.rep at h;cases hf:s.f with
 | true=>rfl
 | false=>rw[hf] at h;cases h
theorem Zjs(a az len cap lens caps l Z)(h:Int)(w:World)(hO:OpsAt w a len l)(hR:RowAt w az lens Z) :
  Calls aA 253 #[F a len cap,F az lens caps,E J h] w λe w'=>∃ a' cb,e = cS (cT #[.slice a' (Pz l Z h).length cb,E J (Rz l Z h)])/\RowAt w' a' (Pz l Z h).length (Pz l Z h)/\ZD w w':=by
 have CK:=Zd (V7 a len cap l w hO);have HO:=Zd hO;have HR:=Zd hR;clear hO hR;by_cases ad:chk l=0
 ·rw[ad] at CK;have HK:=Zd ad;clear ad;go_enter func253,ntmps253;go_wp2_with fail;refine CK.mono ?_;rintro e w1 ⟨rfl,ac⟩;have Q:=Zd ac;have bt:=Zd (HO.later ac);have bv:=Zd (HR.later ac);clear ac;go_wp2_with fail;refine (Ca w1.heap.size (fresh h) az lens caps Z w1 _ (Ej h w1) (aF _) bv).mono ?_;rintro e w2 ⟨rfl,s',au,bi,bk⟩;have aa:s'.rep=if Yd Z then some Z else none:=bk.trans (Zbz Z)
  have al:s'.h=h:=bi;have cg:=au.cell_f;have an:=Zd au;clear bk bi au;cases hso:Yd Z with
  | false=>
   rw[hso] at aa;have hf:=Fd aa;have e:=Hb (h:=h) HK (show (Yd Z && hOk h)=false by rw[hso];rfl);have z:=Zd e;rw[hf] at cg;clear e hf aa al hso;go_wp2;go_ret2;rw[(Za z).1,(Za z).2];exact⟨none,0,rfl,RowAt.nil _ _,Q.trans ((an.below (aF _)).mono Q.size)⟩
  | true=>
   rw[hso] at aa;have hf:=Fe aa;rw[hf.1] at cg;have HF:=Zd hf.2;clear hf;cases hho:hOk h with
   | false=>
    have e:=Hb HK (show (Yd Z && hOk h)=false by rw[hso,hho];rfl);have z:=Zd e;have HH:=Zd hho;clear e aa al hso hho
    go_wp2_with (go_at_call 252;refine (Wk h false _ HH.symm).mono ?_;rintro e w' ⟨rfl,rfl⟩)
    go_ret2;rw[(Za z).1,(Za z).2];exact⟨none,0,rfl,RowAt.nil _ _,Q.trans ((an.below (aF _)).mono Q.size)⟩
   | true=>
    have HH:=Zd hho;have HS:=Zd hso;have bx:=Zd aa;have br:=Zd al;clear aa al hso hho
    go_wp2_with (go_at_call 252;refine (Wk h true _ HH.symm).mono ?_;rintro e w' ⟨rfl,rfl⟩)
    refine (Zha w1.heap.size s' a len cap l w1 _ an (aF _) bt HK).mono ?_;rintro e w3 ⟨rfl,s3,av,cd,aw⟩;rw[Za bx,Za br] at aw;have am:s3.rep=We h l Z:=aw;have bf:=av.cell_f;have aj:=Zd av;clear aw cd av cg;cases hrl:We h l Z with
    | none=>
     have ae:=Fd (am.trans hrl);have e:=Hc HK (show (Yd Z && hOk h)=true by rw[Za HS,Za HH];rfl) hrl;have z:=Zd e;rw[ae] at bf;clear e am ae hrl;go_wp2;go_ret2;rw[(Za z).1,(Za z).2];exact⟨none,0,rfl,RowAt.nil _ _,Q.trans ((aj.below (aF _)).mono Q.size)⟩
    | some L=>
     have ae:=Fe (am.trans hrl);have e:=Sl HK (show (Yd Z && hOk h)=true by rw[Za HS,Za HH];rfl) hrl;have z:=Zd e
     have bj:s3.n=L.length:=by
      have h1:=aj.good.1;have h2:=aj.good.2.1;rw[<-ae.2,List.length_take];omega
     rw[ae.1] at bf;have LF:=Zd (Zhe w1.heap.size s3 w1 w3 aj);rw[ae.2,bj] at LF;clear e am ae hrl bj;go_wp2_with fail;refine LF.mono ?_;rintro e w4 ⟨a4,cc,rfl,bo,bh⟩;have bz:=Zd bo;have bq:=Zd bh;clear bo bh;go_wp2;go_ret2;rw[(Za z).1,(Za z).2];have b3:=aj.below (aF _);exact⟨a4,cc,rfl,Za bz,Q.trans ((b3.trans (bq.mono b3.size)).mono Q.size)⟩
 ·have e:=Zft (Z:=Z) (h:=h) ad;rw[e.1,e.2];obtain⟨x,hx⟩:=ZG (chk l);rw[<-hx] at ad CK ⊢;have cf:(x != 0)=true:=by simp[ad]
  clear e ad hx;go_enter func253,ntmps253;go_wp2_with fail;refine CK.mono ?_;rintro e w1 ⟨rfl,ac⟩;have Q:=Zd ac;clear ac;go_wp2;go_ret2;exact⟨none,0,rfl,RowAt.nil _ _,Za Q⟩
theorem check_is(a len cap l)(x:Int)(w:World)(hx:chk l=x)(h:OpsAt w a len l) :
  ZH 249 #[F a len cap] w (E J x):=by
 subst hx;exact V7 a len cap l w h
theorem Ha(a z len cap lens caps l Z)(h:Int)(x:Int)(L:List Int)(w:World)(hE:Rz l Z h=x)(hS:Pz l Z h=L)(hO:OpsAt w a len l)(hR:RowAt w z lens Z) :
  Calls aA 253 #[F a len cap,F z lens caps,E J h] w λe w'=>∃ Q aa,e = cS (cT #[F Q L.length aa,E J x])/\RowAt w' Q L.length L/\ZD w w':=by
 subst hE hS;exact Zjs a z len cap lens caps l Z h w hO hR
theorem Vc{w z w2:World}(h1:ZD w z)(h2:ZD z w2):ZD w w2:=h1.trans (h2.mono h1.size)
theorem Fa{h:Int}(z:hOk h=true):(Yd [] && hOk h)=true:=by rw[z];rfl
theorem Mp(a b n c m d w) :
  (Instr.index 335 (.agg #[F a n c,F b m d]) (E J 0)).run aA w = .ok (F a n c) w /\
  (Instr.index 335 (.agg #[F a n c,F b m d]) (E J 1)).run aA w = .ok (F b m d) w:=by
 constructor <;> kernel_rfl
set_option maxRecDepth 100000 in
theorem Zcg(a ak len cap ag ah l k)(h:Int)(w:World)(hO:OpsAt w a len l)(hK:OpsAt w ak ag k) :
  ZH 206 #[F a len cap,F ak ag ah,E J h] w (cT #[cV (Y3 l k h),E J (W4 l k h)]):=by
 have HO:=Zd hO;have HK:=Zd hK;have bu:=λw=>(Mp a ak len cap ag ah w).1;have bv:=λw=>(Mp a ak len cap ag ah w).2;clear hO hK;by_cases c1:chk l=0
 ·by_cases c2:chk k=0
  ·cases c3:hOk h with
   | false=>
    have Q:W4 l k h=3:=(by simp[W4,c1,c2,c3]);have z:Y3 l k h=false:=(by simp[Y3,Q]);rw[Q,z];have C1:=Zd c1;have C2:=Zd c2;have C3:=Zd c3;clear c1 c2 c3 Q z;go_enter func206,ntmps206;go_wp2;refine wp_loop_rounds 3 ?_;rw[bF];go_wp2_with fail;refine (check_is a len cap l 0 _ C1 HO).mono ?_;rintro e w1 ⟨rfl,aa⟩;have ab:=Zd aa;clear aa;go_wp2;rw[bF];go_wp2_with fail;refine (check_is ak ag ah k 0 _ C2 (HK.later ab)).mono ?_;rintro e w2 ⟨rfl,ad⟩;have ae:=Zd (Vc ab ad);clear ad;go_wp2;rw[bF]
    go_wp2_with (go_at_call 252;refine (Wk h false _ C3.symm).mono ?_;rintro e w' ⟨rfl,rfl⟩)
    go_ret2;exact⟨rfl,Za ae⟩
   | true=>
    have Q:W4 l k h=0:=(by simp[W4,c1,c2,c3]);have C1:=Zd c1;have C2:=Zd c2;have C3:=Zd c3;rw[Q];cases r1:We h k [] with
    | none=>
     have z:Y3 l k h=false:=(by simp[Y3,r1]);rw[z];have R1:=Zd (Hc c2 (Fa c3) r1);clear c1 c2 c3 Q z r1;go_enter func206,ntmps206;go_wp2;refine wp_loop_rounds 3 ?_;rw[bF];go_wp2_with fail;refine (check_is a len cap l 0 _ C1 HO).mono ?_;rintro e w1 ⟨rfl,aa⟩;have ab:=Zd aa;clear aa;go_wp2;rw[bF];go_wp2_with fail;refine (check_is ak ag ah k 0 _ C2 (HK.later ab)).mono ?_;rintro e w2 ⟨rfl,ad⟩;have ae:=Zd (Vc ab ad);clear ad;go_wp2;rw[bF]
     go_wp2_with (go_at_call 252;refine (Wk h true _ C3.symm).mono ?_;rintro e w' ⟨rfl,rfl⟩)
     refine (Ha ak none ag ah 0 0 k [] h 8 [] _ R1.1 R1.2 (HK.later ae) (RowAt.nil _ _)).mono ?_;rintro e w3 ⟨a3,az,rfl,_,al⟩;have an:=Zd (Vc ae al);clear al;go_wp2;go_ret2;exact⟨rfl,Za an⟩
    | some L=>
     have sL:Yd L=true:=Zak (by rfl) r1;have gL:(Yd L && hOk h)=true:=(by rw[sL,c3];rfl);have R1:=Zd (Sl c2 (Fa c3) r1);cases r2:We h l L with
     | none=>
      have z:Y3 l k h=false:=(by simp[Y3,r1,r2]);rw[z];have R2:=Zd (Hc c1 gL r2);clear c1 c2 c3 Q z r1 r2 sL gL;go_enter func206,ntmps206;go_wp2;refine wp_loop_rounds 3 ?_;rw[bF];go_wp2_with fail;refine (check_is a len cap l 0 _ C1 HO).mono ?_;rintro e w1 ⟨rfl,aa⟩;have ab:=Zd aa;clear aa;go_wp2;rw[bF];go_wp2_with fail;refine (check_is ak ag ah k 0 _ C2 (HK.later ab)).mono ?_;rintro e w2 ⟨rfl,ad⟩;have ae:=Zd (Vc ab ad);clear ad;go_wp2;rw[bF]
      go_wp2_with (go_at_call 252;refine (Wk h true _ C3.symm).mono ?_;rintro e w' ⟨rfl,rfl⟩)
      refine (Ha ak none ag ah 0 0 k [] h 0 L _ R1.1 R1.2 (HK.later ae) (RowAt.nil _ _)).mono ?_;rintro e w3 ⟨a3,az,rfl,av,al⟩;have an:=Zd (Vc ae al);have bd:=Zd av;clear al av;go_wp2_with fail;refine (Ha a a3 len cap L.length az l L h 8 [] _ R2.1 R2.2 (HO.later an) bd).mono ?_;rintro e w4 ⟨a4,bq,rfl,_,au⟩;have ax:=Zd (Vc an au);clear au;go_wp2;go_ret2;exact⟨rfl,Za ax⟩
     | some M=>
      have z:Y3 l k h=Ft M:=(by simp[Y3,r1,r2,Q]);rw[z];have R2:=Zd (Sl c1 gL r2);clear c1 c2 c3 Q z r1 r2 sL gL;go_enter func206,ntmps206;go_wp2;refine wp_loop_rounds 3 ?_;rw[bF];go_wp2_with fail;refine (check_is a len cap l 0 _ C1 HO).mono ?_;rintro e w1 ⟨rfl,aa⟩;have ab:=Zd aa;clear aa;go_wp2;rw[bF];go_wp2_with fail;refine (check_is ak ag ah k 0 _ C2 (HK.later ab)).mono ?_;rintro e w2 ⟨rfl,ad⟩;have ae:=Zd (Vc ab ad);clear ad;go_wp2;rw[bF]
      go_wp2_with (go_at_call 252;refine (Wk h true _ C3.symm).mono ?_;rintro e w' ⟨rfl,rfl⟩)
      refine (Ha ak none ag ah 0 0 k [] h 0 L _ R1.1 R1.2 (HK.later ae) (RowAt.nil _ _)).mono ?_;rintro e w3 ⟨a3,az,rfl,av,al⟩;have an:=Zd (Vc ae al);have bd:=Zd av;clear al av;go_wp2_with fail;refine (Ha a a3 len cap L.length az l L h 0 M _ R2.1 R2.2 (HO.later an) bd).mono ?_;rintro e w4 ⟨a4,bq,rfl,bf,au⟩;have ax:=Zd (Vc an au);have HE:Hid (∀ b:Bool,b=Ft M->Ending.returned (cT #[cV b,E J 0]) = cS (cT #[cV (Ft M),E J 0])):=λb hb=>by rw[hb]
      clear au;by_cases m1:M.length=1
      ·obtain⟨y,rfl⟩:=List.length_eq_one_iff.1 m1;obtain⟨b4,o4,rfl,bj⟩:=bf.2.2 (by simp);have c4:w4.cell? ⟨b4,o4,none⟩=some (E J y):=bj 0 (by simp);have HY:Hid ((y != 0)=Ft [y]):=(by simp[Ft,Rv,Hid]);clear bj bf m1;go_wp2;go_ret2;exact⟨HE _ HY,Za ax⟩
      ·have m2:((M.length:Int) == 1)=false:=(by simp;omega);have HY:Hid (false=Ft M):=(by simp[Ft,m1,Hid]);clear bf m1;go_wp2;go_ret2;exact⟨HE _ HY,Za ax⟩
  ·have Q:W4 l k h=chk k:=(by simp[W4,c1,c2]);have z:Y3 l k h=false:=(by simp[Y3,Q,c2]);rw[Q,z];obtain⟨x,hx⟩:=ZF (chk k);rw[hx] at c2 ⊢;have g2:(x != 0)=true:=(by simp[c2]);have C1:=Zd c1;have C2:=Zd hx;clear c1 c2 hx Q z;go_enter func206,ntmps206;go_wp2;refine wp_loop_rounds 3 ?_;rw[bF];go_wp2_with fail;refine (check_is a len cap l 0 _ C1 HO).mono ?_;rintro e w1 ⟨rfl,aa⟩;have ab:=Zd aa;clear aa;go_wp2;rw[bF];go_wp2_with fail;refine (check_is ak ag ah k x _ C2 (HK.later ab)).mono ?_;rintro e w2 ⟨rfl,ad⟩;have ae:=Zd (Vc ab ad);clear ad;go_wp2;go_ret2;exact⟨rfl,Za ae⟩
 ·have Q:W4 l k h=chk l:=by simp[W4,c1]
  have z:Y3 l k h=false:=by simp[Y3,Q,c1]
  rw[Q,z];obtain⟨x,hx⟩:=ZF (chk l);rw[hx] at c1 ⊢;have g2:(x != 0)=true:=by simp[c1]
  have C1:=Zd hx;clear c1 hx Q z;go_enter func206,ntmps206;go_wp2;refine wp_loop_rounds 3 ?_;rw[bF];go_wp2_with fail;refine (check_is a len cap l x _ C1 HO).mono ?_;rintro e w1 ⟨rfl,aa⟩;have ab:=Zd aa;clear aa;go_wp2;go_ret2;exact⟨rfl,Za ab⟩
def V8:CV:=((0,0,0,[],0,false),none,0,0)
theorem Qt(T R:List CV)(z:CV)(j:Nat)(Q:j<6):(Zm (T++z :: R))[T.length*6+j]? = (D8 z)[j]?:=by
 rw[Yh,List.getElem?_append_right (by rw[Z6];omega),Z6,Nat.add_sub_cancel_left,show z :: R=[z]++R from rfl,Yh,List.getElem?_append_left (by rw[Z6];simpa using Q),Zhn]
theorem Rn(T R:List CV)(z y:CV):((((((Zm (T++z :: R)).set (T.length*6) (E J y.1.1)).set (T.length*6+1) (E J y.1.2.1)).set (T.length*6+2) (E J (cv y.1))).set (T.length*6+3) (.slice y.2.1 y.2.2.1 y.2.2.2)).set (T.length*6+4) (E J (ch y.1))).set (T.length*6+5) (cV (cr y.1))=Zm (T++y :: R):=by
 rw[Yh,Yh];have e:=Z6 T;rw[<-e];simp only[Zm,List.set_append_right _ _ (aF _),List.set_append_right _ _ (Nat.le_add_right _ _),Nat.sub_self,Nat.add_sub_cancel_left,List.set_cons_zero,List.set_cons_succ]
theorem Zct(n:Nat):(madeCells zeroC.cells (n*6)).toList=Zm (bN n V8):=by
 apply List.ext_getElem?
 intro j;by_cases hj:j<n*6
 ·obtain⟨z,Q,f2,f3,f4,f5⟩:=Tz (bN n V8) (j / 6) (by rw[List.length_replicate];omega);rw[List.getElem_replicate] at z Q f2 f3 f4 f5;have hz:zeroC.cells=zeroCs.toArray:=rfl
  have hL:(madeCells zeroC.cells (n*6)).toList[j]? = zeroCs[j % 6]?:=by
   have hs:zeroCs.length=6:=rfl;have h6:j % 6<6:=(by omega);simp[madeCells,hj,hz,hs,h6]
  rw[hL];obtain⟨i,r,rfl,hr⟩:∃ i r,j=i*6+r/\r<6:=⟨j / 6,j % 6,by omega,by omega⟩;rw[show (i*6+r) / 6=i by omega] at z Q f2 f3 f4 f5;rw[show (i*6+r) % 6=r by omega]
  match r,hr with
  | 0,_=>exact z.symm
  | 1,_=>exact Q.symm
  | 2,_=>exact f2.symm
  | 3,_=>exact f3.symm
  | 4,_=>exact f4.symm
  | 5,_=>exact f5.symm
 ·rw[List.getElem?_eq_none (by simp[madeCells];omega),List.getElem?_eq_none (by rw[Z6,List.length_replicate];omega)]
theorem Zai{w:World}{base g n c:Nat}{xs:List Value}(h:w.ownsRow base 124 6 (F (some ⟨g,0,none⟩) n c) n xs)(b:Nat)(z Q a2 a3 a4 a5) :
  ((((((w.setCell ⟨g,b,none⟩ z).setCell ⟨g,b+1,none⟩ Q).setCell ⟨g,b+2,none⟩ a2).setCell ⟨g,b+3,none⟩ a3).setCell ⟨g,b+4,none⟩ a4).setCell ⟨g,b+5,none⟩ a5).ownsRow base 124 6 (F (some ⟨g,0,none⟩) n c) n ((((((xs.set b z).set (b+1) Q).set (b+2) a2).set (b+3) a3).set (b+4) a4).set (b+5) a5):=
 ((((((h.stored b z).1.stored (b+1) Q).1.stored (b+2) a2).1.stored (b+3) a3).1.stored (b+4) a4).1.stored (b+5) a5).1
theorem Gr.sixAt{w w1:World}{S:Nat->Prop}(h:Gr w w1 S)(b i:Nat)(z:S b\/w.heap.size<=b)(Q a1 a2 a3 a4 a5):Gr w ((((((w1.setCell ⟨b,i,none⟩ Q).setCell ⟨b,i+1,none⟩ a1).setCell ⟨b,i+2,none⟩ a2).setCell ⟨b,i+3,none⟩ a3).setCell ⟨b,i+4,none⟩ a4).setCell ⟨b,i+5,none⟩ a5) S:=
 (((((h.one b i z Q).one b (i+1) z a1).one b (i+2) z a2).one b (i+3) z a3).one b (i+4) z a4).one b (i+5) z a5
theorem Nc(h:Int)(I:List InD)(k:Nat)(z:k<I.length)(S L)(Q:Um (I[k].1,I[k].2.1) L=none):Zq h (I.drop k) S L=(7,[],[]):=by
 rw[aL z,Zq,Q]
theorem Nd(h:Int)(I:List InD)(k:Nat)(z:k<I.length)(S L M)(c:Zj)(ht:Um (I[k].1,I[k].2.1) L=some (c,M))(Q:cr c=true/\h<ch c+2):Zq h (I.drop k) S L=(10,[],[]):=by
 rw[aL z,Zq,ht];simp only;rw[if_pos Q]
theorem Dy(h:Int)(I:List InD)(k:Nat)(z:k<I.length)(S L M)(c:Zj)(ht:Um (I[k].1,I[k].2.1) L=some (c,M))(Q:¬(cr c=true/\h<ch c+2))(ho:Y3 (ck c) I[k].2.2 h=false):Zq h (I.drop k) S L=(8,[],[]):=by
 rw[aL z,Zq,ht];simp only;rw[if_neg Q,if_pos ho]
theorem Bw(h:Int)(I:List InD)(k:Nat)(z:k<I.length)(S L M)(c:Zj)(ht:Um (I[k].1,I[k].2.1) L=some (c,M))(Q:¬(cr c=true/\h<ch c+2))(ho:Y3 (ck c) I[k].2.2 h=true):Zq h (I.drop k) S L=Zq h (I.drop (k+1)) (S++[c]) M:=by
 rw[aL z,Zq,ht];simp only;rw[if_neg Q,if_neg (by rw[ho];decide)]
theorem Dz(h:Int)(I:List InD)(k:Nat)(z:I.length<=k)(S L):Zq h (I.drop k) S L=(0,S,L):=by
 rw[List.drop_of_length_le z,Zq]
theorem Zbl{q:PtD}{L M}{c:Zj}(h:Um q L=some (c,M))(z:Srt L):Srt M:=by
 rw[(Rw h).2.2];exact z.filter _
theorem Zgi{l k}{h:Int}(q:Y3 l k h=true):W4 l k h=0:=by
 unfold Y3 at q;rw[cB,decide_eq_true_eq] at q;exact q.1
theorem Zgh(a z len cap Q aa l k)(h:Int)(b:Bool)(x:Int)(w:World)(hO:OpsAt w a len l)(hK:OpsAt w z Q k)(hb:Y3 l k h=b)(hx:W4 l k h=x) :
  ZH 206 #[F a len cap,F z Q aa,E J h] w (cT #[cV b,E J x]):=by
 subst hb hx;exact Zcg a z len cap Q aa l k h w hO hK
theorem Zv(w:World)(a b c)(t:TypeId):(w.alloc (cR #[a,b,c] t)).heap[w.heap.size]? = some (cR [a,b,c].toArray t (0,0)):=aJ w _
def Spent(w0 w':World)(p ni:Nat)(K:List CV)(S M:List Zj)(a':Option Addr)(Q c':Nat):Prop:=
 ∃ (v':Value) (K' T:List CV),T.map (·.1)=S/\K'.map (·.1)=M/\Srt M/\K'.length<=K.length/\Q=T.length/\T.length=ni/\w'.ownsRow w0.heap.size 124 6 (F a' Q c') Q (Zm T)/\(∀ z∈T,LkAt w0 z)/\(∀ z∈K',z∈K)/\(∀ z∈T,z∈K)/\Pu w0 w' p v' K'/\(∃ s,(Value.slice a' Q c').ownBlock=some s/\v'.ownBlock≠some s/\s≠p)
set_option maxRecDepth 10000 in
theorem Zfk(w0 w:World)(p:Nat)(v)(K:List CV)(ai ni ci I)(h:Int)(x:Int)(S M)(hP:Pu w0 w p v K)(hs:Srt (K.map (·.1)))(hn:K.length<=4096)(hr:∀ z∈K,ck1 z.1=0)(hI:InsAt w0 ai ni I)(jb:ni<=6)(hx:Zq h I [] (K.map (·.1))=(x,S,M)) :
  Calls aA 146 #[cU (some ⟨p,0,none⟩),F ai ni ci,E J h] w λe w'=>∃ a' n' c',e = cS (cT #[F a' n' c',E J x])/\ZD w0 w' /\
   (x=0->Spent w0 w' p ni K S M a' n' c'):=by
 obtain⟨i0,gl,gv,gw,gx⟩:=info_parts Tryz.infoCoin;have hB:w0.heap.size<=w.heap.size:=hP.bel.size;have jd:p<w.heap.size:=hP.lt;have HP:=Zd hP;have HS:=Zd hs;have HR:=Zd hr;have HI:=Zd hI;have HZ:=Zd hI.1;have HX:=Zd hx;clear hP hs hr hI hx;go_enter func146,ntmps146
 go_wp2_with (at_make;refine wpList_make_full _ rfl _ _ 29 rfl w0.heap.size 124 i0 zeroC 6 underlying29 gl gv gw .i64 .i64 _ _ ni rfl rfl rfl rfl (by rw[gx];omega) (by unfold maxLen;omega) hB ?_;intro w2 ct ey)
 rw[Zct] at ct;have et:ZD w w2:=(Below.refl _ _).grown ey (aF _) (λk h=>by cases h);have gp:w.heap.size<w2.heap.size:=(ct.lt w.heap.size rfl).2
 have ST:Hid (Pu w0 w2 p v K/\w2.ownsRow w0.heap.size 124 6 (F (some ⟨w.heap.size,0,none⟩) ni ni) ni (Zm ([]++bN (ni - 0) V8))/\v.ownBlock≠some w.heap.size):=
  ⟨HP.kept et,ct,λe=>by have:=(HP.own.lt _ e).2;omega⟩
 clear ct ey et
 go_loopw [20] (λi wr=>∃ (k:Nat) (T K':List CV) (v':Value),k<=ni/\i = E J k/\Hid (Zq h I [] (K.map (·.1))=Zq h (I.drop k) (T.map (·.1)) (K'.map (·.1)))/\Hid (Srt (K'.map (·.1)))/\K'.length<=K.length/\Hid (T.length=k)/\Hid ((∀ z∈K',z∈K)/\(∀ z∈T,z∈K)) /\
  Hid (Pu w0 wr p v' K')/\Hid (wr.ownsRow w0.heap.size 124 6 (F (some ⟨w.heap.size,0,none⟩) ni ni) ni (Zm (T++bN (ni - k) V8)))/\Hid (∀ z∈T,LkAt w0 z)/\Hid (v'.ownBlock≠some w.heap.size)/\w.heap.size<wr.heap.size) (λi _=>ni - (intOf i).toNat)
 case atStart=>exact⟨0,[],K,v,aM _,rfl,rfl,HS,aF _,rfl,⟨λz hz=>hz,λz hz=>(by cases hz)⟩,ST.1,ST.2.1,(λz hz=>(by cases hz):∀ z∈([]:List CV),LkAt w0 z),ST.2.2,gp⟩
 case round=>
  obtain⟨k,T,K',v',hk,rfl,A,cb,gg,HT,be,ad,de,HL,dd,je⟩:=hrel;clear ST HS;by_cases gn:k<ni
  ·have bk:k<I.length:=(by rw[Za HZ];exact gn);obtain⟨b,off,rfl,iv,gj⟩:=HI.2 (by omega);have ez:=gj k bk;have E1:=Zd (Nc h I k bk (T.map (·.1)) (K'.map (·.1)));have E2:=Zd (Nd h I k bk (T.map (·.1)) (K'.map (·.1)));have E3:=Zd (Dy h I k bk (T.map (·.1)) (K'.map (·.1)));have E4:=Zd (Bw h I k bk (T.map (·.1)) (K'.map (·.1)));obtain⟨y,hy⟩:=ZF (I[k]);rw[hy] at ez E1 E2 E3 E4;obtain⟨y1,y2,cy⟩:=y;obtain⟨eo,ep,ka,kn,kc,eq,g4,_⟩:=ez;have g1:=Ze ad.bel eo;have g2:=Ze ad.bel ep;have g3:=Ze ad.bel eq;have fl:Hid (OpsAt w0 ka kn cy):=g4;clear eo ep eq g4;simp only at g1 g2 g3 E1 E2 E3 E4;obtain⟨X,hX⟩:=ZG (wr.alloc (cR #[E J y1,E J y2,F ka kn kc] 119));have cn:ZD wr X:=(by rw[hX];exact Zh _ _);have aw:X.heap[wr.heap.size]? = some (cR [E J y1,E J y2,F ka kn kc].toArray 119 (0,0)):=(by rw[hX];exact Zv _ _ _ _ _);have bh:=ad.kept cn;have dw:=(Gr.of (S:=λ_=>False) cn).own de (λ_ _ q=>q);have x0:=Zb aw 0 _ rfl;have x1:=Zb aw 1 _ rfl;have jg:wr.heap.size<X.heap.size:=lt_of_block aw;have fx:=Zd aw;have fs:=Zd bh;have fp:=Zd dw;have jc:p<wr.heap.size:=ad.lt;cases hf:Ug (y1,y2) (K'.map (·.1)) with
   | false=>
    have C:=Zd (Cd w0 X p v' K' (y1,y2) bh cb (by omega) hf)
    have R:Hid (x=7):=by
     have e:=Za A;rw[(Za E1) (Bt hf),Za HX] at e;injection e
    clear E1 E2 E3 E4 cn aw bh dw hf hy A;go_wp2_with fail;rw[<-hX];clear hX;go_wp2_with fail;refine C.mono ?_;rintro e w3 ⟨rfl,es⟩;have fi:=Zd ((fs.kept es).bel);unfold zeroC;clear es;go_wp2;go_ret2;exact⟨_,_,_,by rw[Za R];rfl,Zf fi (Zh _ _),λe=>absurd e (by rw[Za R];decide)⟩
   | true=>
    have C:=Zd (Cb w0 X p v' K' (y1,y2) bh cb (by omega) hf);clear cn aw bh dw hf hy;go_wp2_with fail;rw[<-hX];clear hX;go_wp2_with fail;refine C.mono ?_;rintro e w3 ⟨z,v3,K3,rfl,ht,fe,cw,iz,cm,bg,gs⟩;have fd:z∈K:=be.1 z fe;have bs:=Y7 (HR z fd);have br:=ad.lk z fe;have ev:1<=ch z.1:=bs.2.2.2.2.2.2.1;have ew:ch z.1<=1000:=bs.2.2.2.2.2.2.2.1;have cu:=Zbl ht cb
    have cp:¬PuS p v' wr.heap.size:=by
     rintro (e|e)
     ·omega
     ·have:=(ad.own.lt _ e).2;omega
    have bb:=bg.heap fx cp
    have cq:¬PuS p v' w.heap.size:=by
     rintro (e|e)
     ·omega
     ·exact dd e
    have cj:=bg.own fp (λq hq=>by cases hq;exact cq);have bx:=Zd (E2 _ _ ht);have bz:=Zd (E3 _ _ ht);have ca:=Zd (E4 _ _ ht);obtain⟨Y,Q⟩:=ZG (w3.alloc (cR #[E J z.1.1,E J z.1.2.1,E J (cv z.1),.slice z.2.1 z.2.2.1 z.2.2.2,E J (ch z.1),cV (cr z.1)] 124));have ay:ZD w3 Y:=(by rw[Q];exact Zh _ _);have af:Y.heap[w3.heap.size]? = some (cR (D8 z).toArray 124 (0,0)):=(by rw[Q];exact Uc _ _ _ _ _ _ _ _);have ap:=cm.kept ay;have cl:=(Gr.of (S:=λ_=>False) ay).own cj (λ_ _ q=>q);have bj:=ZE ay bb;have jf:wr.heap.size<w3.heap.size:=lt_of_block bb;have jh:w3.heap.size<Y.heap.size:=lt_of_block af;have q2:=Zb bj 2 _ rfl;have q3:=Zb bb 2 _ rfl;have r3:=Zb af 3 _ rfl;have r4:=Zb af 4 _ rfl;have r5:=Zb af 5 _ rfl;have OP:=Zd (λji xx hb hx=>Zgh z.2.1 ka z.2.2.1 z.2.2.2 kn kc (ck z.1) cy h ji xx Y (br.1.later ap.bel) (fl.later ap.bel) hb hx);by_cases ae:cr z.1=true/\h<ch z.1+2
    ·have R:Hid (x=10):=by
      have e:=Za A;rw[(Za bx) ae,Za HX] at e;injection e
     have eu:cr z.1=true:=ae.1;have iw:h<ch z.1+2:=ae.2;have fj:=Zd ap.bel;rw[eu] at Q r5;unfold cnV;rw[eu];clear E1 E2 E3 E4 bx bz ca A ae C ay af ap cl bj cm bg cj bb ht cw cu br bs cp cq q2 r3 g1 g2 g3 x0 x1;go_wp2_with fail;rw[<-Q];clear Q;go_wp2;go_ret2;exact⟨_,_,_,by rw[Za R];rfl,Za fj,λe=>absurd e (by rw[Za R];decide)⟩
    ·have hD:Hid ((cr z.1 && decide (h<ch z.1+2))=false):=by
      show _=_;rw[Bool.and_eq_false_iff,decide_eq_false_iff_not];cases q:cr z.1 with
      | true=>exact .inr λe=>ae ⟨q,e⟩
      | false=>exact .inl rfl
     obtain⟨ji,az⟩:=ZF (Y3 (ck z.1) cy h);obtain⟨xx,cx⟩:=ZF (W4 (ck z.1) cy h);have ar:=Zd (OP ji xx az cx);have df:=Zd ap;have fq:=Zd cl;have fy:=Zd af;have dy:v3.ownBlock≠some w.heap.size:=(by rw[gs];exact Za dd);have ej:=Zd dy;have fv:=Zd cu;have fw:=Zd cw;have ga:=Zd br;have fz:=Zd fd;have iu:=Zd bj;obtain⟨hd,bi⟩:=ZF (ch z.1);obtain⟨rr,bo⟩:=ZF (cr z.1);cases ji with
     | false=>
      have R:Hid (x=8):=by
       have e:=Za A;rw[(Za bz) ae az,Za HX] at e;injection e
      unfold cnV;rw[bi] at hD Q r4 ev ew ⊢;rw[bo] at hD Q r5 ⊢;clear E1 E2 E3 E4 bx bz ca A ae C ay af ap cl bj cm bg cj bb ht cw cu br bs cp cq g1 g2 g3 x0 x1 OP az cx dy bi bo;cases rr with
      | false=>
       clear hD;go_wp2_with fail;rw[<-Q];clear Q;refine ar.mono ?_;rintro e w5 ⟨rfl,aa⟩;have db:=Zd (df.kept aa).bel;clear aa;go_wp2;go_ret2;exact⟨_,_,_,by rw[Za R];rfl,Za db,λe=>absurd e (by rw[Za R];decide)⟩
      | true=>
       have gf:¬(h<hd+2):=(by have:=Za hD;simpa using this);clear hD;go_wp2_with fail;rw[<-Q];clear Q;refine ar.mono ?_;rintro e w5 ⟨rfl,aa⟩;have db:=Zd (df.kept aa).bel;clear aa;go_wp2;go_ret2;exact⟨_,_,_,by rw[Za R];rfl,Za db,λe=>absurd e (by rw[Za R];decide)⟩
     | true=>
      have gu:xx=0:=(by rw[<-cx];exact Zgi az);subst gu
      have A2:Hid (Zq h I [] (K.map (·.1))=Zq h (I.drop (k+1)) ((T++[z]).map (·.1)) (K3.map (·.1))):=by
       show _=_;rw[Za A,(Za ca) ae az,List.map_append];rfl
      have fu:Hid (T++bN (ni - k) V8=T++V8 :: bN (ni - (k+1)) V8):=by
       show _=_;rw[show ni - k=(ni - (k+1))+1 by omega,List.replicate_succ]
      have fm:Hid (K3.length<=K.length):=(by show _<=_;omega);have iy:(k:Int)<(ni:Int):=(by omega);unfold cnV;rw[bi] at hD Q r4 ev ew ⊢;rw[bo] at hD Q r5 ⊢;have ee:=Zd bi;have eh:=Zd bo;clear E1 E2 E3 E4 bx bz ca A ae C ay af ap cl bj cm bg cj bb ht cw cu br bs cp cq g1 g2 g3 x0 x1 OP az cx dy bi bo
      have ce:Hid (∀ w5,ZD Y w5->(w5.cell? ⟨w3.heap.size,0,none⟩=some (E J z.1.1)/\w5.cell? ⟨w3.heap.size,1,none⟩=some (E J z.1.2.1)/\w5.cell? ⟨w3.heap.size,2,none⟩=some (E J (cv z.1))/\w5.cell? ⟨w3.heap.size,3,none⟩=some (.slice z.2.1 z.2.2.1 z.2.2.2)/\w5.cell? ⟨w3.heap.size,4,none⟩=some (E J hd)/\w5.cell? ⟨w3.heap.size,5,none⟩=some (cV rr)) /\
        (∃ u0 u1 u2 u3 u4 u5,w5.cell? ⟨w.heap.size,k*6,none⟩=some u0/\w5.cell? ⟨w.heap.size,k*6+1,none⟩=some u1/\w5.cell? ⟨w.heap.size,k*6+2,none⟩=some u2/\w5.cell? ⟨w.heap.size,k*6+3,none⟩=some u3/\w5.cell? ⟨w.heap.size,k*6+4,none⟩=some u4/\w5.cell? ⟨w.heap.size,k*6+5,none⟩=some u5)/\(∀ j,w5.frozen? ⟨w.heap.size,j,none⟩=false)/\w.heap.size<w5.heap.size /\
        Hid (∃ (T' K':List CV) (v':Value),Hid (Zq h I [] (K.map (·.1))=Zq h (I.drop (k+1)) (T'.map (·.1)) (K'.map (·.1)))/\Hid (Srt (K'.map (·.1)))/\K'.length<=K.length/\Hid (T'.length=k+1)/\Hid ((∀ z∈K',z∈K)/\(∀ z∈T',z∈K)) /\
         Hid (Pu w0 ((((((w5.setCell ⟨w.heap.size,k*6,none⟩ (E J z.1.1)).setCell ⟨w.heap.size,k*6+1,none⟩ (E J z.1.2.1)).setCell ⟨w.heap.size,k*6+2,none⟩ (E J (cv z.1))).setCell ⟨w.heap.size,k*6+3,none⟩ (.slice z.2.1 z.2.2.1 z.2.2.2)).setCell ⟨w.heap.size,k*6+4,none⟩ (E J hd)).setCell ⟨w.heap.size,k*6+5,none⟩ (cV rr)) p v' K') /\
         Hid (((((((w5.setCell ⟨w.heap.size,k*6,none⟩ (E J z.1.1)).setCell ⟨w.heap.size,k*6+1,none⟩ (E J z.1.2.1)).setCell ⟨w.heap.size,k*6+2,none⟩ (E J (cv z.1))).setCell ⟨w.heap.size,k*6+3,none⟩ (.slice z.2.1 z.2.2.1 z.2.2.2)).setCell ⟨w.heap.size,k*6+4,none⟩ (E J hd)).setCell ⟨w.heap.size,k*6+5,none⟩ (cV rr)).ownsRow w0.heap.size 124 6 (F (some ⟨w.heap.size,0,none⟩) ni ni) ni (Zm (T'++bN (ni - (k+1)) V8)))/\Hid (∀ z∈T',LkAt w0 z)/\Hid (v'.ownBlock≠some w.heap.size) /\
         w.heap.size<((((((w5.setCell ⟨w.heap.size,k*6,none⟩ (E J z.1.1)).setCell ⟨w.heap.size,k*6+1,none⟩ (E J z.1.2.1)).setCell ⟨w.heap.size,k*6+2,none⟩ (E J (cv z.1))).setCell ⟨w.heap.size,k*6+3,none⟩ (.slice z.2.1 z.2.2.1 z.2.2.2)).setCell ⟨w.heap.size,k*6+4,none⟩ (E J hd)).setCell ⟨w.heap.size,k*6+5,none⟩ (cV rr)).heap.size)):=by
       intro w5 aa;have bd:=ZE aa fy;have an:=df.kept aa;have au:=(Gr.of (S:=λ_=>False) aa).own fq (λ_ _ q=>q);rw[Za fu] at au;have dx:=Za HT
       have ax:∀ j,j<6->w5.cell? ⟨w.heap.size,k*6+j,none⟩=(D8 V8)[j]?:=λj hj=>by
        rw[World.ownsRow.cellAt au _ (by omega),<-dx,Qt _ _ _ j hj]
       refine⟨⟨Zb bd 0 _ rfl,Zb bd 1 _ rfl,Zb bd 2 _ rfl,Zb bd 3 _ rfl,by rw[<-Za ee];exact Zb bd 4 _ rfl,by rw[<-Za eh];exact Zb bd 5 _ rfl⟩,
        ⟨_,_,_,_,_,_,(ax 0 (by decide)).trans rfl,(ax 1 (by decide)).trans rfl,(ax 2 (by decide)).trans rfl,(ax 3 (by decide)).trans rfl,(ax 4 (by decide)).trans rfl,(ax 5 (by decide)).trans rfl⟩,λj=>au.frozenAt j,(au.lt _ rfl).2,?_⟩
       have hG:=(Gr.refl w5 (λq=>q=w.heap.size)).sixAt w.heap.size (k*6) (.inl rfl) (E J z.1.1) (E J z.1.2.1) (E J (cv z.1)) (.slice z.2.1 z.2.2.1 z.2.2.2) (E J hd) (cV rr);have dv:=Zai au (k*6) (E J z.1.1) (E J z.1.2.1) (E J (cv z.1)) (.slice z.2.1 z.2.2.1 z.2.2.2) (E J hd) (cV rr);rw[<-Za ee,<-Za eh] at dv hG ⊢;have fc:=Rn T (bN (ni - (k+1)) V8) V8 z;rw[dx] at fc;rw[fc] at dv;refine⟨T++[z],K3,v3,A2,fv,Za fm,?_,?_,?_,?_,?_,ej,aC (au.lt _ rfl).2 hG.size⟩
       ·show _=_;rw[List.length_append,dx];rfl
       ·refine⟨λq hq=>be.1 q (fw q hq),λq hq=>?_⟩
        rcases List.mem_append.1 hq with hq|hq
        ·exact be.2 q hq
        ·rw[List.mem_singleton.1 hq];exact Za fz
       ·refine⟨hG.below an.bel an.bel.size (λq hq=>by rw[hq];exact hB),an.ge,hG.heap an.box (by omega),hG.own an.own (λq hq e=>ej (by rw[hq,e])),an.ne,an.lk⟩
       ·show World.ownsRow _ _ _ _ _ _ _;rw[List.append_assoc];exact dv
       ·intro q hq
        rcases List.mem_append.1 hq with hq|hq
        ·exact HL q hq
        ·rw[List.mem_singleton.1 hq];exact Za ga
      cases rr with
      | false=>
       clear hD;go_wp2_with fail;rw[<-Q];clear Q;refine ar.mono ?_;rintro e w5 ⟨rfl,aa⟩;obtain⟨⟨s0,s1,s2,s3,s4,s5⟩,⟨u0,u1,u2,u3,u4,u5,t0,t1,t2,t3,t4,t5⟩,ab,gq,dc⟩:=ce w5 aa;have z0:=ab (k*6);have z1:=ab (k*6+1);have z2:=ab (k*6+2);have z3:=ab (k*6+3);have z4:=ab (k*6+4);have z5:=ab (k*6+5);have gi:=aa.size;have m5:w3.heap.size<w5.heap.size:=aD _ _ s0;have n1:¬(w3.heap.size=w.heap.size):=(by omega);have n2:¬(w.heap.size=w3.heap.size):=(by omega);clear aa ab ce ar q2 q3 r3 r4 r5;go_wp2;go_roundw
       case rel=>
        obtain⟨T',K',v',f1,f2,f3,f4,f5,f6,f7,f8,f9,dk⟩:=Za dc;exact⟨k+1,T',K',v',by omega,by go_num,f1,f2,f3,f4,f5,f6,f7,f8,f9,dk⟩
       case measure=>simp[intOf];omega
      | true=>
       have gf:¬(h<hd+2):=(by have:=Za hD;simpa using this);clear hD;go_wp2_with fail;rw[<-Q];clear Q;refine ar.mono ?_;rintro e w5 ⟨rfl,aa⟩;obtain⟨⟨s0,s1,s2,s3,s4,s5⟩,⟨u0,u1,u2,u3,u4,u5,t0,t1,t2,t3,t4,t5⟩,ab,gq,dc⟩:=ce w5 aa;have z0:=ab (k*6);have z1:=ab (k*6+1);have z2:=ab (k*6+2);have z3:=ab (k*6+3);have z4:=ab (k*6+4);have z5:=ab (k*6+5);have gi:=aa.size;have m5:w3.heap.size<w5.heap.size:=aD _ _ s0;have n1:¬(w3.heap.size=w.heap.size):=(by omega);have n2:¬(w.heap.size=w3.heap.size):=(by omega);clear aa ab ce ar q2 q3 r3 r4 r5;go_wp2;go_roundw
       case rel=>
        obtain⟨T',K',v',f1,f2,f3,f4,f5,f6,f7,f8,f9,dk⟩:=Za dc;exact⟨k+1,T',K',v',by omega,by go_num,f1,f2,f3,f4,f5,f6,f7,f8,f9,dk⟩
       case measure=>simp[intOf];omega
  ·have e:k=ni:=(by omega);subst e;have R:=Za A;rw[Dz h I k (by rw[Za HZ];exact aF _),Za HX] at R;have R1:Hid (x=0):=(by show _=_;injection R);have R2:S=T.map (·.1):=(by injection R with _ R;injection R);have R3:M=K'.map (·.1):=(by injection R with _ R;injection R);subst R2 R3
   have fo:Hid (wr.ownsRow w0.heap.size 124 6 (F (some ⟨w.heap.size,0,none⟩) k k) k (Zm T)):=by
    have:=Za de;rw[Nat.sub_self,List.replicate_zero,List.append_nil] at this;exact this
   clear R A de;go_wp2;go_ret2;exact⟨some ⟨w.heap.size,0,none⟩,k,k,by rw[Za R1];rfl,ad.bel,λ_=>⟨v',K',T,rfl,rfl,Za cb,gg,HT.symm,Za HT,Za fo,Za HL,be.1,be.2,Za ad,w.heap.size,rfl,Za dd,by omega⟩⟩
set_option maxRecDepth 10000 in
theorem Wt(p h k n:Int)(a m c T)(x:Int)(w:World)(hT:TxsAt w a m T)(hx:Ym (p,h,k,n,T)=x) :
  ZH 85 #[.agg #[E J p,E J h,E J k,E J n,F a m c]] w (E J x):=by
 subst hx;obtain⟨X,hX⟩:=ZG (w.alloc (cR #[E J p,E J h,E J k,E J n,F a m c] 39));have bb:ZD w X:=by rw[hX];exact Zh _ _
 have bq:X.heap[w.heap.size]? = some (cR [E J p,E J h,E J k,E J n,F a m c].toArray 39 (0,0)):=by rw[hX];exact Zx _ _ _ _ _ _ _
 have al:=Zd bq;have ad:=Zd bb;have HT:=Zd (hT.later bb);have hz:T.length=m:=hT.1;unfold Ym;simp only;rw[hz];clear bb bq hT;cases q:Wp p h k n with
 | false=>
  have C:=Zd (Pj p h k n a m c false X q);rw[if_pos rfl];clear q hz;go_enter func85,ntmps85;go_wp2_with fail;rw[<-hX];clear hX;refine C.mono ?_;rintro e w1 ⟨rfl,z⟩;have aj:=Zd (Zf ad z);clear z;go_wp2;go_ret;exact⟨rfl,Za aj⟩
 | true=>
  have C:=Zd (Pj p h k n a m c true X q);rw[if_neg (by decide)];clear q;by_cases h4:4<m
  ·rw[if_pos h4];clear hz;go_enter func85,ntmps85;go_wp2_with fail;rw[<-hX];clear hX;refine C.mono ?_;rintro e w1 ⟨rfl,z⟩;have Q:=ZE z al;have c4:=Zb Q 4 _ rfl;have l1:=lt_of_block Q;have aj:=Zd (Zf ad z);clear z Q;go_wp2;go_ret;exact⟨rfl,Za aj⟩
  ·rw[if_neg h4];by_cases h0:m=0
   ·subst h0;rw[if_pos rfl];clear hz h4;go_enter func85,ntmps85;go_wp2_with fail;rw[<-hX];clear hX;refine C.mono ?_;rintro e w1 ⟨rfl,z⟩;have Q:=ZE z al;have c4:=Zb Q 4 _ rfl;have l1:=lt_of_block Q;have aj:=Zd (Zf ad z);clear z Q;go_wp2;go_ret;exact⟨rfl,Za aj⟩
   ·rw[if_neg h0];have g0:((m:Int) == 0)=false:=(by simp[h0]);have HZ:=Zd hz;obtain⟨b,off,rfl,cp,bs⟩:=HT.2 (by omega);have HC:=Zd bs;clear hz bs;go_enter func85,ntmps85;go_wp2_with fail;rw[<-hX];clear hX;refine C.mono ?_;rintro e w1 ⟨rfl,z⟩;have Q:=ZE z al;have c4:=Zb Q 4 _ rfl;have l1:=lt_of_block Q;have bj:=Zd z;clear z Q;go_wp2
    go_loopw [20] (λi wr=>∃ k:Nat,k<=m/\i = E J k/\Hid (Xx h 0 T=Xx h k (T.drop k))/\Hid (ZD X wr)) (λi _=>m - (intOf i).toNat)
    case atStart=>exact⟨0,aM _,rfl,rfl,bj⟩
    case round=>
     obtain⟨j,hj,rfl,A,aw⟩:=hrel;clear c4 l1 bj;by_cases ce:j<m
     ·have bu:j<T.length:=(by rw[Za HZ];exact ce);have bt:=TxAt.kept _ _ _ _ _ aw (HC j bu);have ST:=Zd (Zif h T j bu);obtain⟨t,ht⟩:=ZF (T[j]);rw[ht] at bt ST;obtain⟨t1,I,O⟩:=t;obtain⟨bo,⟨ai,ni,ci,g1,hI,sI⟩,ao,no,co,g2,hO,_⟩:=bt;have A2:Hid (Xx h 0 T=if Zw (t1,I,O)≠0 then Zw (t1,I,O) else if J2 (t1,I,O) j h=false then 4 else Xx h (j+1) (T.drop (j+1))):=(by show _=_;rw[Za A,Za ST]);simp only at bo g1 g2 hI hO;obtain⟨Y,hY⟩:=ZG (wr.alloc (cR #[E J t1,F ai ni ci,F ao no co] 59));have aq:ZD wr Y:=(by rw[hY];exact Zh _ _);have af:Y.heap[wr.heap.size]? = some (cR [E J t1,F ai ni ci,F ao no co].toArray 59 (0,0)):=(by rw[hY];exact Zv _ _ _ _ _);have cc:=Zd af;have av:=Zd (Zf aw aq);have cd:=ZE av al;have y0:=Zb af 0 _ rfl;have y1:=Zb af 1 _ rfl;have y2:=Zb af 2 _ rfl;have yl:=lt_of_block af;obtain⟨x,hx⟩:=ZF (Zw (t1,I,O));obtain⟨o,ho⟩:=ZF (J2 (t1,I,O) j h);have CT:=Zd (Vd t1 ai ao ni ci no co I O Y (hI.later aq) (hO.later aq) sI);have CS:=Zd (λW=>Zbr t1 ai ao ni ci no co I O j h o W hI.1 ho);rw[hx] at A2 CT;rw[ho] at A2;clear aq af cd A ST ht hI hO sI hx ho;by_cases ar:x=0
      ·subst ar
       have A3:Hid (Xx h 0 T=if o=false then 4 else Xx h (j+1) (T.drop (j+1))):=by
        have q:=Za A2;rw[if_neg (by decide)] at q;exact q
       clear A2;go_wp2_with fail;rw[<-hY];clear hY;go_wp2_with fail;refine CT.mono ?_;rintro e w2 ⟨rfl,ag⟩;have am:=ZE ag cc;have bh:=Zd (Zf av ag);have bd:=ZE bh al;have z0:=Zb am 0 _ rfl;have z1:=Zb am 1 _ rfl;have z2:=Zb am 2 _ rfl;have zl:=lt_of_block am;have k1:=Zb bd 1 _ rfl;have kl:=lt_of_block bd;clear ag am bd y0 y1 y2 yl bo g1 g2;go_wp2_with fail;refine (CS _).mono ?_;rintro e w3 ⟨rfl,br⟩;have bi:=Zd (Zf bh br);clear br;cases o with
       | false=>
        have R:Hid (Xx h 0 T=4):=(by show _=_;rw[Za A3];rfl);have ak:=Zd (Zf ad bi);clear A3;go_wp2;go_ret;exact⟨by rw[Za R];rfl,Za ak⟩
       | true=>
        have R:Hid (Xx h 0 T=Xx h (j+1) (T.drop (j+1))):=(by show _=_;rw[Za A3];rfl);clear A3;go_wp2;go_roundw
        case rel=>exact⟨j+1,by omega,by go_num,R,bi⟩
        case measure=>simp[intOf];omega
      ·have R:Hid (Xx h 0 T=x):=(by show _=_;rw[Za A2,if_pos ar]);have gx:(x != 0)=true:=(by simp[ar]);clear A2 ar;go_wp2_with fail;rw[<-hY];clear hY;go_wp2_with fail;refine CT.mono ?_;rintro e w2 ⟨rfl,ag⟩;have ak:=Zd (Zf ad (Zf av ag));clear ag;go_wp2;go_ret;exact⟨by rw[Za R];rfl,Za ak⟩
     ·have R:Hid (Xx h 0 T=0):=(by show _=_;rw[Za A,Zeh h T j (by rw[Za HZ];omega)]);have ak:=Zd (Zf ad aw);clear A;go_wp2;go_ret;exact⟨by rw[Za R];rfl,Za ak⟩
theorem Kx:∀ (L pre:List InD),Yb pre L=0->∀ x∈L,Ga x=true/\chk x.2.2=0
 | [],_,_,x,hx=>by cases hx
 | y :: r,pre,h,x,hx=>by
  unfold Yb at h;split at h
  ·rename_i h1
   rcases bB.1 hx with rfl|hx
   ·unfold Xv at h1;split at h1
    ·cases h1
    ·rename_i h2;split at h1
     ·rename_i h3;exact absurd h1 h3
     ·rename_i h3;exact⟨by simpa using h2,by simpa using h3⟩
   ·exact Kx r _ h x hx
  ·contradiction
theorem Pq:∀ (L:List Zz),Z8 L=0->∀ x∈L,1<=x.1/\chk x.2=0
 | [],_,x,hx=>by cases hx
 | y :: r,h,x,hx=>by
  unfold Z8 at h;split at h
  ·rename_i h1
   rcases bB.1 hx with rfl|hx
   ·unfold Yz at h1;split at h1
    ·cases h1
    ·rename_i h2;exact⟨by omega,h1⟩
   ·exact Pq r h x hx
  ·contradiction
theorem Zfm:∀ (Z:List Int) (s:Int),(sm s Z).2=0->∀ aa∈Z,0<=aa/\aa<=1000000000
 | [],_,_,aa,z=>by cases z
 | y :: r,s,h,aa,z=>by
  unfold sm at h;split at h
  ·rename_i h1;split at h
   ·rcases bB.1 z with rfl|z
    ·exact h1
    ·exact Zfm r _ h aa z
   ·cases h
  ·cases h
structure TxOk(t:TxD):Prop where
 ins6:t.2.1.length<=6
 outs6:t.2.2.length<=6
 some:0<t.2.2.length
 hgt:0<=t.1/\t.1<=1000
 fit:Nq t=true
 chkI:Yb [] t.2.1=0
 ins:∀ x∈t.2.1,Ga x=true/\chk x.2.2=0
 outs:∀ x∈t.2.2,(1<=x.1/\x.1<=1000000000)/\chk x.2=0
theorem TxOk.of{t}(h:Zw t=0):TxOk t:=by
 unfold Zw at h;split at h
 ·cases h
 ·rename_i h1;split at h
  ·cases h
  ·rename_i h2;split at h
   ·cases h
   ·rename_i h3;split at h
    ·rename_i h4;exact absurd h h4
    ·rename_i h4;have Q:Yb [] t.2.1=0:=(by simpa using h4);have z:Nq t=true:=(by simpa using h3);unfold Yj at h;split at h
     ·rename_i h5;refine⟨by omega,by omega,by omega,?_,z,Q,Kx _ _ Q,λx hx=>?_⟩
      ·unfold Nq at z;split at z
       ·simp only[cB,decide_eq_true_eq] at z;omega
       ·have:t.1=0:=(by simpa using z);omega
      ·have a:=Pq _ h5 x hx;have b:=Zfm _ _ h x.1 (List.mem_map.2 ⟨x,hx,rfl⟩);exact⟨⟨a.1,b.2⟩,a.2⟩
     ·contradiction
theorem Fl(x:InD):Ga x=true↔(1<=x.1/\x.1<=120)/\(0<=x.2.1/\x.2.1<=5):=by
 unfold Ga;simp only[cB,decide_eq_true_eq]
