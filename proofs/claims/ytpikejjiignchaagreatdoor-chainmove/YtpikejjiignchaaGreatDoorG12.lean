import Derived.Test.YtpikejjiignchaaGreatDoorH
import Derived.Test.YtpikejjiignchaaGreatDoorG11
open Go.Proofs.Tryz
open Bool renaming and_eq_true->bL
open Go renaming wp_loop_rounds->aQ,rounds_succ->aL,heap_alloc_new->aK,lt_of_block->aA
open Go.Ending renaming returned->dX
open Go.IntKind renaming i64->J
open Go.Obj renaming cells->dW
open Go.Proofs.Tryz renaming prog->aB
open Go.Value renaming int->E,slice->F,tuple->dY,pointer->dZ,bool->eA
open Go.World renaming block_lt_of_cell?->aC
open List renaming length_eq_zero_iff->aJ,replicate->aF,drop_eq_getElem_cons->aN,mem_append->cI,mem_singleton->dN
open Nat renaming le_trans->aT,lt_of_lt_of_le->aI,zero_le->aP,le_refl->aE
set_option maxHeartbeats 12800000
namespace Go.Proofs.YtpikejjiignchaaGreatDoor
open Go.RowKit
theorem Pf{w:World}{base:Nat}{e:TypeId}{v}{n:Nat}{Z:List Int}(h:w.ownsRow base e 1 v n (Z.map (Value.int .i64))):∃ a cap,v = F a n cap/\RowAt w a n Z:=by
 have z:Z.length=n:=by have:=h.1;simpa using this
 rcases h.2 with ⟨rfl,rfl⟩|⟨g,cap,O,rfl,_,_,h1,h2,_,_⟩
 ·have e:Z=[]:=aJ.1 z;subst e;exact⟨none,0,rfl,RowAt.nil _ _⟩
 ·refine⟨_,cap,rfl,z,aT h1 h2,λ_=>⟨g,0,rfl,λi hi=>?_⟩⟩;rw[Nat.zero_add,World.ownsRow.cellAt h i (by omega)];simp[z,hi]
theorem Tryz.arr317:Tryz.prog.underlying 317=some (.array (Tryz.prog.arrayLen 317) (Tryz.prog.elem 317)):=by kernel_rfl
theorem Tryz.len317:Tryz.prog.arrayLen 317=16:=by kernel_rfl
theorem Tryz.el317:Tryz.prog.elem 317=3:=by kernel_rfl
theorem Ex(p n:Nat)(h:n<=16)(w):(Instr.sliceAt 317 (dZ (some ⟨p,0,none⟩)) none (some (E J n)) none).run aB w = .ok (F (some ⟨p,0,none⟩) n 16) w:=by
 rw[run_sliceAt_array_h w 317 ⟨p,0,none⟩ Tryz.arr317 .i64 n (by omega) (by rw[Tryz.len317];omega),Tryz.el317,Tryz.len317,Tryz.sizeOf3];simp[Result.andThen,slicedAt,Addr.add]
set_option maxRecDepth 100000 in
theorem Zlx(p:Nat)(s:MS)(W w:World)(O:Mach p s W w) :
  Calls aB 232 #[dZ (some ⟨p,0,none⟩)] w λe w'=>∃ a cap,e = dX (F a s.n cap)/\RowAt w' a s.n (s.cs.take s.n)/\ZD w w':=by
 have c1:=O.cell_n;have hn:=O.good.2.1;have hl:=O.good.1;have HC:Hid (∀ j,j<s.cs.length->w.cell? ⟨p,0+j,none⟩=some (E J (s.cs.getD j 0))):=λj hj=>by rw[Nat.zero_add];exact O.cell_s j (by omega)
 have aj:=Ex p s.n hn;clear O;go_enter func232,ntmps232;go_wp2
 go_region_with (go_at_call 129;refine (Tryz.slices_Clone_int p 0 s.n 16 s.cs _ ?_ ?_ ?_).mono ?_;omega;omega;exact HC;rintro e w' ⟨v,rfl,aa,ag,z⟩)
 all_goals
  obtain⟨a,cap,rfl,ab⟩:=Pf aa;have HR:=Zb ab;have HB:Hid (ZD w w'):=⟨z.os,z.tape,z.output,z.size,z.block⟩;clear aa ag z ab;go_wp2;go_ret;exact⟨a,cap,rfl,Za HR,Za HB⟩
theorem Zkp{l Z}{h:Int}(e:chk l≠0):Pe l Z h=chk l/\Lr l Z h=[]:=by
 have h1:Pe l Z h=chk l:=by unfold Pe;rw[if_neg e]
 exact⟨h1,by unfold Lr;rw[h1,if_neg e]⟩
theorem Mu{l Z}{h:Int}(e:chk l=0)(g:(Yj Z && hOk h)=false):Pe l Z h=3/\Lr l Z h=[]:=by
 have h1:Pe l Z h=3:=by unfold Pe;rw[if_pos e,g];rfl
 exact⟨h1,by unfold Lr;rw[h1];rfl⟩
theorem Mv{l Z}{h:Int}(e:chk l=0)(g:(Yj Z && hOk h)=true)(r:Xh h l Z=none):Pe l Z h=8/\Lr l Z h=[]:=by
 have h1:Pe l Z h=8:=by unfold Pe;rw[if_pos e,g,r];rfl
 exact⟨h1,by unfold Lr;rw[h1];rfl⟩
theorem Hf{l Z}{h:Int}{L}(e:chk l=0)(g:(Yj Z && hOk h)=true)(r:Xh h l Z=some L):Pe l Z h=0/\Lr l Z h=L:=by
 have h1:Pe l Z h=0:=by unfold Pe;rw[if_pos e,g,r];rfl
 exact⟨h1,by unfold Lr;rw[h1,r];rfl⟩
theorem Zko(p:Nat)(s:MS)(a cap W w)(hm:Mach p s W w) :
  Calls aB 231 #[dZ (some ⟨p,0,none⟩),F a 0 cap] w λe w'=>e = dX (dY #[])/\∃ s',Mach p s' W w'/\s'.h=s.h/\s'.rep=s.rep.bind (Xh s.h []):=by
 have z:=Zb hm;have ae:=hm.lt;clear hm;go_enter func231,ntmps231;go_wp2_with fail;refine (Ni p w ae).mono ?_;rintro e w1 ⟨rfl,ah,O⟩;have aj:=run_storeCells_new (P:=aB) w1 344 #[.nilFunc,.nilFunc,.nilFunc,.nilFunc,.nilFunc,.nilFunc,.nilFunc,.nilFunc,.nilFunc,.nilFunc,.nilFunc,.nilFunc,.nilFunc,.nilFunc] (Ph p (w.heap.size+1)) Tryz.size344 rfl (by simp[Ph,met,Zpj,Zem,Value.oneCell']);have ak:(Ph p (w.heap.size+1)).size=14:=rfl;have ad:Mach p s W w1:=⟨z.good,(O.block p ae).trans z.block,λk hk hl=>(O.block k (aI hl z.size)).trans (z.old k hk hl),aT z.size O.size,O.os.trans z.os,O.tape.trans z.tape,O.output.trans z.output⟩;have ag:=Zb (ad.alloc (dW (Ph p (w.heap.size+1)) 344));clear ah O ad;go_wp2;refine aQ 1 ?_;rw[aL];go_wp2;go_end0;exact⟨rfl,s,Za ag,rfl,by cases s.rep <;> rfl⟩
theorem Zlt(p:Nat)(s:MS)(a len cap l)(W w:World)(hm:Mach p s W w)(hp:W.heap.size<=p)(hO:OpsAt W a len l)(z:chk l=0) :
  Calls aB 231 #[dZ (some ⟨p,0,none⟩),F a len cap] w λe w'=>e = dX (dY #[])/\∃ O,Mach p O W w'/\O.h=s.h/\O.rep=s.rep.bind (Xh s.h l):=by
 obtain⟨hz,hc⟩:=hO
 have h16:len<=16:=by
  unfold chk at z;split at z
  ·cases z
  ·omega
 have af:Un l=0:=by
  unfold chk at z;split at z
  ·cases z
  ·exact z
 by_cases h:len=0
 ·subst h;have e:l=[]:=aJ.1 hz;subst e;exact Zko p s a cap W w hm
 ·obtain⟨b,off,rfl,aa⟩:=hc (by omega);exact Zkn p s b off len cap l W w hm hp hz h16 af (aC _ _ (aa 0 (by omega)).1) aa
def Zgc(h:Int):MS:=⟨aF 16 0,0,h,false⟩
theorem Zmg(h:Int):(Zgc h).ok:=⟨rfl,aP _,λx z=>by rw[List.eq_of_mem_replicate z];rfl⟩
theorem Zdw(h:Int)(w:World):Mach w.heap.size (Zgc h) w (w.alloc (dW (Zgc h).cells 319)) where
 good:=Zmg h
 block:=aK _ _
 old:=λk _ z=>Below.heap_alloc _ _ _ z
 size:=by simp
 os:=rfl
 tape:=rfl
 output:=rfl
theorem Zai{s:MS}{L}(h:s.rep=some L):s.f=false/\s.cs.take s.n=L:=by
 unfold MS.rep at h;cases hf:s.f with
 | true=>rw[hf] at h;cases h
 | false=>rw[hf] at h;exact⟨rfl,by simpa using h⟩
theorem Zah{s:MS}(h:s.rep=none):s.f=true:=by
 unfold MS.rep at h;cases hf:s.f with
 | true=>rfl
 | false=>rw[hf] at h;cases h
theorem Znw(a az len cap lens caps l Z)(h:Int)(w:World)(hO:OpsAt w a len l)(hR:RowAt w az lens Z) :
  Calls aB 196 #[F a len cap,F az lens caps,E J h] w λe w'=>∃ a' bu,e = dX (dY #[.slice a' (Lr l Z h).length bu,E J (Pe l Z h)])/\RowAt w' a' (Lr l Z h).length (Lr l Z h)/\ZD w w':=by
 have CK:=Zb (Qj a len cap l w hO);have HO:=Zb hO;have HR:=Zb hR;clear hO hR;by_cases ad:chk l=0
 ·rw[ad] at CK;have HK:=Zb ad;clear ad;go_enter func196,ntmps196;go_wp2_with fail;refine CK.mono ?_;rintro e w1 ⟨rfl,ac⟩;have O:=Zb ac;have bn:=Zb (HO.later ac);have bq:=Zb (HR.later ac);clear ac;go_wp2_with fail;refine (Zdj w1.heap.size (Zgc h) az lens caps Z w1 _ (Zdw h w1) (aE _) bq).mono ?_;rintro e w2 ⟨rfl,s',aq,bd,bf⟩;have aa:s'.rep=if Yj Z then some Z else none:=bf.trans (Zhq Z)
  have ak:s'.h=h:=bd;have cf:=aq.cell_f;have am:=Zb aq;clear bf bd aq;cases hso:Yj Z with
  | false=>
   rw[hso] at aa;have hf:=Zah aa;have e:=Mu (h:=h) HK (show (Yj Z && hOk h)=false by rw[hso];rfl);have z:=Zb e;rw[hf] at cf;clear e hf aa ak hso;go_wp2;go_ret2;rw[(Za z).1,(Za z).2];exact⟨none,0,rfl,RowAt.nil _ _,O.trans ((am.below (aE _)).mono O.size)⟩
  | true=>
   rw[hso] at aa;have hf:=Zai aa;rw[hf.1] at cf;have HF:=Zb hf.2;clear hf;cases hho:hOk h with
   | false=>
    have e:=Mu HK (show (Yj Z && hOk h)=false by rw[hso,hho];rfl);have z:=Zb e;have HH:=Zb hho;clear e aa ak hso hho
    go_wp2_with (go_at_call 195;refine (Vu h false _ HH.symm).mono ?_;rintro e w' ⟨rfl,rfl⟩)
    go_ret2;rw[(Za z).1,(Za z).2];exact⟨none,0,rfl,RowAt.nil _ _,O.trans ((am.below (aE _)).mono O.size)⟩
   | true=>
    have HH:=Zb hho;have HS:=Zb hso;have br:=Zb aa;have bj:=Zb ak;clear aa ak hso hho
    go_wp2_with (go_at_call 195;refine (Vu h true _ HH.symm).mono ?_;rintro e w' ⟨rfl,rfl⟩)
    refine (Zlt w1.heap.size s' a len cap l w1 _ am (aE _) bn HK).mono ?_;rintro e w3 ⟨rfl,s3,ar,bw,au⟩;rw[Za br,Za bj] at au;have al:s3.rep=Xh h l Z:=au;have ba:=ar.cell_f;have ai:=Zb ar;clear au bw ar cf;cases hrl:Xh h l Z with
    | none=>
     have ae:=Zah (al.trans hrl);have e:=Mv HK (show (Yj Z && hOk h)=true by rw[Za HS,Za HH];rfl) hrl;have z:=Zb e;rw[ae] at ba;clear e al ae hrl;go_wp2;go_ret2;rw[(Za z).1,(Za z).2];exact⟨none,0,rfl,RowAt.nil _ _,O.trans ((ai.below (aE _)).mono O.size)⟩
    | some L=>
     have ae:=Zai (al.trans hrl);have e:=Hf HK (show (Yj Z && hOk h)=true by rw[Za HS,Za HH];rfl) hrl;have z:=Zb e
     have be:s3.n=L.length:=by
      have h1:=ai.good.1;have h2:=ai.good.2.1;rw[<-ae.2,List.length_take];omega
     rw[ae.1] at ba;have LF:=Zb (Zlx w1.heap.size s3 w1 w3 ai);rw[ae.2,be] at LF;clear e al ae hrl be;go_wp2_with fail;refine LF.mono ?_;rintro e w4 ⟨a4,bv,rfl,bg,bc⟩;have bs:=Zb bg;have bi:=Zb bc;clear bg bc;go_wp2;go_ret2;rw[(Za z).1,(Za z).2];have b3:=ai.below (aE _);exact⟨a4,bv,rfl,Za bs,O.trans ((b3.trans (bi.mono b3.size)).mono O.size)⟩
 ·have e:=Zkp (Z:=Z) (h:=h) ad;rw[e.1,e.2];obtain⟨x,hx⟩:=ZG (chk l);rw[<-hx] at ad CK ⊢;have bz:(x != 0)=true:=by simp[ad]
  clear e ad hx;go_enter func196,ntmps196;go_wp2_with fail;refine CK.mono ?_;rintro e w1 ⟨rfl,ac⟩;have O:=Zb ac;clear ac;go_wp2;go_ret2;exact⟨none,0,rfl,RowAt.nil _ _,Za O⟩
theorem check_is(a len cap l)(x:Int)(w:World)(z:chk l=x)(h:OpsAt w a len l) :
  ZH 185 #[F a len cap] w (E J x):=by
 subst z;exact Qj a len cap l w h
theorem Mr(a z len cap lens caps l Z)(h:Int)(x:Int)(L:List Int)(w:World)(hE:Pe l Z h=x)(hS:Lr l Z h=L)(hO:OpsAt w a len l)(hR:RowAt w z lens Z) :
  Calls aB 196 #[F a len cap,F z lens caps,E J h] w λe w'=>∃ a' O,e = dX (dY #[F a' L.length O,E J x])/\RowAt w' a' L.length L/\ZD w w':=by
 subst hE hS;exact Znw a z len cap lens caps l Z h w hO hR
theorem Us{w z w2:World}(h1:ZD w z)(h2:ZD z w2):ZD w w2:=h1.trans (h2.mono h1.size)
theorem Zac{h:Int}(z:hOk h=true):(Yj [] && hOk h)=true:=by rw[z];rfl
theorem An(a b n c m d)(w) :
  (Instr.index 282 (.agg #[F a n c,F b m d]) (E J 0)).run aB w = .ok (F a n c) w /\
  (Instr.index 282 (.agg #[F a n c,F b m d]) (E J 1)).run aB w = .ok (F b m d) w:=by
 constructor <;> kernel_rfl
set_option maxRecDepth 100000 in
theorem Zid(a ak len cap ag ah l k)(h:Int)(w:World)(hO:OpsAt w a len l)(hK:OpsAt w ak ag k) :
  ZH 170 #[F a len cap,F ak ag ah,E J h] w (dY #[eA (Xi l k h),E J (V7 l k h)]):=by
 have HO:=Zb hO;have HK:=Zb hK;have bt:=λw=>(An a ak len cap ag ah w).1;have bu:=λw=>(An a ak len cap ag ah w).2;clear hO hK;by_cases c1:chk l=0
 ·by_cases c2:chk k=0
  ·cases c3:hOk h with
   | false=>
    have O:V7 l k h=3:=(by simp[V7,c1,c2,c3]);have z:Xi l k h=false:=(by simp[Xi,O]);rw[O,z];have C1:=Zb c1;have C2:=Zb c2;have C3:=Zb c3;clear c1 c2 c3 O z;go_enter func170,ntmps170;go_wp2;refine aQ 3 ?_;rw[aL];go_wp2_with fail;refine (check_is a len cap l 0 _ C1 HO).mono ?_;rintro e w1 ⟨rfl,aa⟩;have ab:=Zb aa;clear aa;go_wp2;rw[aL];go_wp2_with fail;refine (check_is ak ag ah k 0 _ C2 (HK.later ab)).mono ?_;rintro e w2 ⟨rfl,ad⟩;have ae:=Zb (Us ab ad);clear ad;go_wp2;rw[aL]
    go_wp2_with (go_at_call 195;refine (Vu h false _ C3.symm).mono ?_;rintro e w' ⟨rfl,rfl⟩)
    go_ret2;exact⟨rfl,Za ae⟩
   | true=>
    have O:V7 l k h=0:=(by simp[V7,c1,c2,c3]);have C1:=Zb c1;have C2:=Zb c2;have C3:=Zb c3;rw[O];cases r1:Xh h k [] with
    | none=>
     have z:Xi l k h=false:=(by simp[Xi,r1]);rw[z];have R1:=Zb (Mv c2 (Zac c3) r1);clear c1 c2 c3 O z r1;go_enter func170,ntmps170;go_wp2;refine aQ 3 ?_;rw[aL];go_wp2_with fail;refine (check_is a len cap l 0 _ C1 HO).mono ?_;rintro e w1 ⟨rfl,aa⟩;have ab:=Zb aa;clear aa;go_wp2;rw[aL];go_wp2_with fail;refine (check_is ak ag ah k 0 _ C2 (HK.later ab)).mono ?_;rintro e w2 ⟨rfl,ad⟩;have ae:=Zb (Us ab ad);clear ad;go_wp2;rw[aL]
     go_wp2_with (go_at_call 195;refine (Vu h true _ C3.symm).mono ?_;rintro e w' ⟨rfl,rfl⟩)
     refine (Mr ak none ag ah 0 0 k [] h 8 [] _ R1.1 R1.2 (HK.later ae) (RowAt.nil _ _)).mono ?_;rintro e w3 ⟨a3,az,rfl,_,al⟩;have an:=Zb (Us ae al);clear al;go_wp2;go_ret2;exact⟨rfl,Za an⟩
    | some L=>
     have sL:Yj L=true:=L5 (by rfl) r1;have gL:(Yj L && hOk h)=true:=(by rw[sL,c3];rfl);have R1:=Zb (Hf c2 (Zac c3) r1);cases r2:Xh h l L with
     | none=>
      have z:Xi l k h=false:=(by simp[Xi,r1,r2]);rw[z];have R2:=Zb (Mv c1 gL r2);clear c1 c2 c3 O z r1 r2 sL gL;go_enter func170,ntmps170;go_wp2;refine aQ 3 ?_;rw[aL];go_wp2_with fail;refine (check_is a len cap l 0 _ C1 HO).mono ?_;rintro e w1 ⟨rfl,aa⟩;have ab:=Zb aa;clear aa;go_wp2;rw[aL];go_wp2_with fail;refine (check_is ak ag ah k 0 _ C2 (HK.later ab)).mono ?_;rintro e w2 ⟨rfl,ad⟩;have ae:=Zb (Us ab ad);clear ad;go_wp2;rw[aL]
      go_wp2_with (go_at_call 195;refine (Vu h true _ C3.symm).mono ?_;rintro e w' ⟨rfl,rfl⟩)
      refine (Mr ak none ag ah 0 0 k [] h 0 L _ R1.1 R1.2 (HK.later ae) (RowAt.nil _ _)).mono ?_;rintro e w3 ⟨a3,az,rfl,av,al⟩;have an:=Zb (Us ae al);have bb:=Zb av;clear al av;go_wp2_with fail;refine (Mr a a3 len cap L.length az l L h 8 [] _ R2.1 R2.2 (HO.later an) bb).mono ?_;rintro e w4 ⟨a4,bo,rfl,_,au⟩;have ax:=Zb (Us an au);clear au;go_wp2;go_ret2;exact⟨rfl,Za ax⟩
     | some M=>
      have z:Xi l k h=Gk M:=(by simp[Xi,r1,r2,O]);rw[z];have R2:=Zb (Hf c1 gL r2);clear c1 c2 c3 O z r1 r2 sL gL;go_enter func170,ntmps170;go_wp2;refine aQ 3 ?_;rw[aL];go_wp2_with fail;refine (check_is a len cap l 0 _ C1 HO).mono ?_;rintro e w1 ⟨rfl,aa⟩;have ab:=Zb aa;clear aa;go_wp2;rw[aL];go_wp2_with fail;refine (check_is ak ag ah k 0 _ C2 (HK.later ab)).mono ?_;rintro e w2 ⟨rfl,ad⟩;have ae:=Zb (Us ab ad);clear ad;go_wp2;rw[aL]
      go_wp2_with (go_at_call 195;refine (Vu h true _ C3.symm).mono ?_;rintro e w' ⟨rfl,rfl⟩)
      refine (Mr ak none ag ah 0 0 k [] h 0 L _ R1.1 R1.2 (HK.later ae) (RowAt.nil _ _)).mono ?_;rintro e w3 ⟨a3,az,rfl,av,al⟩;have an:=Zb (Us ae al);have bb:=Zb av;clear al av;go_wp2_with fail;refine (Mr a a3 len cap L.length az l L h 0 M _ R2.1 R2.2 (HO.later an) bb).mono ?_;rintro e w4 ⟨a4,bo,rfl,bd,au⟩;have ax:=Zb (Us an au);have HE:Hid (∀ b:Bool,b=Gk M->Ending.returned (dY #[eA b,E J 0]) = dX (dY #[eA (Gk M),E J 0])):=λb hb=>by rw[hb]
      clear au;by_cases m1:M.length=1
      ·obtain⟨y,rfl⟩:=List.length_eq_one_iff.1 m1;obtain⟨b4,o4,rfl,bi⟩:=bd.2.2 (by simp);have c4:w4.cell? ⟨b4,o4,none⟩=some (E J y):=bi 0 (by simp);have HY:Hid ((y != 0)=Gk [y]):=(by simp[Gk,Rd,Hid]);clear bi bd m1;go_wp2;go_ret2;exact⟨HE _ HY,Za ax⟩
      ·have m2:((M.length:Int) == 1)=false:=(by simp;omega);have HY:Hid (false=Gk M):=(by simp[Gk,m1,Hid]);clear bd m1;go_wp2;go_ret2;exact⟨HE _ HY,Za ax⟩
  ·have O:V7 l k h=chk k:=(by simp[V7,c1,c2]);have z:Xi l k h=false:=(by simp[Xi,O,c2]);rw[O,z];obtain⟨x,hx⟩:=ZF (chk k);rw[hx] at c2 ⊢;have g2:(x != 0)=true:=(by simp[c2]);have C1:=Zb c1;have C2:=Zb hx;clear c1 c2 hx O z;go_enter func170,ntmps170;go_wp2;refine aQ 3 ?_;rw[aL];go_wp2_with fail;refine (check_is a len cap l 0 _ C1 HO).mono ?_;rintro e w1 ⟨rfl,aa⟩;have ab:=Zb aa;clear aa;go_wp2;rw[aL];go_wp2_with fail;refine (check_is ak ag ah k x _ C2 (HK.later ab)).mono ?_;rintro e w2 ⟨rfl,ad⟩;have ae:=Zb (Us ab ad);clear ad;go_wp2;go_ret2;exact⟨rfl,Za ae⟩
 ·have O:V7 l k h=chk l:=by simp[V7,c1]
  have z:Xi l k h=false:=by simp[Xi,O,c1]
  rw[O,z];obtain⟨x,hx⟩:=ZF (chk l);rw[hx] at c1 ⊢;have g2:(x != 0)=true:=by simp[c1]
  have C1:=Zb hx;clear c1 hx O z;go_enter func170,ntmps170;go_wp2;refine aQ 3 ?_;rw[aL];go_wp2_with fail;refine (check_is a len cap l x _ C1 HO).mono ?_;rintro e w1 ⟨rfl,aa⟩;have ab:=Zb aa;clear aa;go_wp2;go_ret2;exact⟨rfl,Za ab⟩
def Qk:CV:=((0,0,0,[],0,false),none,0,0)
theorem Rv(T R:List CV)(z:CV)(j:Nat)(O:j<6):(Zk (T++z :: R))[T.length*6+j]? = (Ey z)[j]?:=by
 rw[Z0,List.getElem?_append_right (by rw[Z9];omega),Z9,Nat.add_sub_cancel_left,show z :: R=[z]++R from rfl,Z0,List.getElem?_append_left (by rw[Z9];simpa using O),Zmh]
theorem Sq(T R:List CV)(z y:CV):((((((Zk (T++z :: R)).set (T.length*6) (E J y.1.1)).set (T.length*6+1) (E J y.1.2.1)).set (T.length*6+2) (E J (cv y.1))).set (T.length*6+3) (.slice y.2.1 y.2.2.1 y.2.2.2)).set (T.length*6+4) (E J (ch y.1))).set (T.length*6+5) (eA (cr y.1))=Zk (T++y :: R):=by
 rw[Z0,Z0];have e:=Z9 T;rw[<-e];simp only[Zk,List.set_append_right _ _ (aE _),List.set_append_right _ _ (Nat.le_add_right _ _),Nat.sub_self,Nat.add_sub_cancel_left,List.set_cons_zero,List.set_cons_succ]
theorem Zii(n:Nat):(madeCells zeroC.cells (n*6)).toList=Zk (aF n Qk):=by
 apply List.ext_getElem?
 intro j;by_cases hj:j<n*6
 ·obtain⟨z,O,f2,f3,f4,f5⟩:=Qy (aF n Qk) (j / 6) (by rw[List.length_replicate];omega);rw[List.getElem_replicate] at z O f2 f3 f4 f5;have hz:zeroC.cells=zeroCs.toArray:=rfl
  have hL:(madeCells zeroC.cells (n*6)).toList[j]? = zeroCs[j % 6]?:=by
   have hs:zeroCs.length=6:=rfl;have h6:j % 6<6:=(by omega);simp[madeCells,hj,hz,hs,h6]
  rw[hL];obtain⟨i,r,rfl,hr⟩:∃ i r,j=i*6+r/\r<6:=⟨j / 6,j % 6,by omega,by omega⟩;rw[show (i*6+r) / 6=i by omega] at z O f2 f3 f4 f5;rw[show (i*6+r) % 6=r by omega]
  match r,hr with
  | 0,_=>exact z.symm
  | 1,_=>exact O.symm
  | 2,_=>exact f2.symm
  | 3,_=>exact f3.symm
  | 4,_=>exact f4.symm
  | 5,_=>exact f5.symm
 ·rw[List.getElem?_eq_none (by simp[madeCells];omega),List.getElem?_eq_none (by rw[Z9,List.length_replicate];omega)]
theorem Zfc{w:World}{base g n c:Nat}{xs:List Value}(h:w.ownsRow base 103 6 (F (some ⟨g,0,none⟩) n c) n xs)(b:Nat)(z O a2 a3 a4 a5) :
  ((((((w.setCell ⟨g,b,none⟩ z).setCell ⟨g,b+1,none⟩ O).setCell ⟨g,b+2,none⟩ a2).setCell ⟨g,b+3,none⟩ a3).setCell ⟨g,b+4,none⟩ a4).setCell ⟨g,b+5,none⟩ a5).ownsRow base 103 6 (F (some ⟨g,0,none⟩) n c) n ((((((xs.set b z).set (b+1) O).set (b+2) a2).set (b+3) a3).set (b+4) a4).set (b+5) a5):=
 ((((((h.stored b z).1.stored (b+1) O).1.stored (b+2) a2).1.stored (b+3) a3).1.stored (b+4) a4).1.stored (b+5) a5).1
theorem Gr.sixAt{w w1:World}{S:Nat->Prop}(h:Gr w w1 S)(b i:Nat)(z:S b\/w.heap.size<=b)(O a1 a2 a3 a4 a5):Gr w ((((((w1.setCell ⟨b,i,none⟩ O).setCell ⟨b,i+1,none⟩ a1).setCell ⟨b,i+2,none⟩ a2).setCell ⟨b,i+3,none⟩ a3).setCell ⟨b,i+4,none⟩ a4).setCell ⟨b,i+5,none⟩ a5) S:=
 (((((h.one b i z O).one b (i+1) z a1).one b (i+2) z a2).one b (i+3) z a3).one b (i+4) z a4).one b (i+5) z a5
theorem P8(h:Int)(I:List InD)(k:Nat)(z:k<I.length)(S L)(O:Ww (I[k].1,I[k].2.1) L=none):Zp h (I.drop k) S L=(7,[],[]):=by
 rw[aN z,Zp,O]
theorem P9(h:Int)(I:List InD)(k:Nat)(z:k<I.length)(S L M)(c:Zf)(ht:Ww (I[k].1,I[k].2.1) L=some (c,M))(O:cr c=true/\h<ch c+2):Zp h (I.drop k) S L=(10,[],[]):=by
 rw[aN z,Zp,ht];simp only;rw[if_pos O]
theorem Kf(h:Int)(I:List InD)(k:Nat)(z:k<I.length)(S L M)(c:Zf)(ht:Ww (I[k].1,I[k].2.1) L=some (c,M))(O:¬(cr c=true/\h<ch c+2))(ho:Xi (ck c) I[k].2.2 h=false):Zp h (I.drop k) S L=(8,[],[]):=by
 rw[aN z,Zp,ht];simp only;rw[if_neg O,if_pos ho]
theorem Mm(h:Int)(I:List InD)(k:Nat)(z:k<I.length)(S L M)(c:Zf)(ht:Ww (I[k].1,I[k].2.1) L=some (c,M))(O:¬(cr c=true/\h<ch c+2))(ho:Xi (ck c) I[k].2.2 h=true):Zp h (I.drop k) S L=Zp h (I.drop (k+1)) (S++[c]) M:=by
 rw[aN z,Zp,ht];simp only;rw[if_neg O,if_neg (by rw[ho];decide)]
theorem Kg(h:Int)(I:List InD)(k:Nat)(z:I.length<=k)(S L):Zp h (I.drop k) S L=(0,S,L):=by
 rw[List.drop_of_length_le z,Zp]
theorem Jt{q:PtD}{L M}{c:Zf}(h:Ww q L=some (c,M))(z:Srt L):Srt M:=by
 rw[(Pb h).2.2];exact z.filter _
theorem Zlj{l k}{h:Int}(q:Xi l k h=true):V7 l k h=0:=by
 unfold Xi at q;rw[bL,decide_eq_true_eq] at q;exact q.1
theorem Zli(a z len cap O aa l k)(h:Int)(b:Bool)(x:Int)(w:World)(hO:OpsAt w a len l)(hK:OpsAt w z O k)(hb:Xi l k h=b)(hx:V7 l k h=x) :
  ZH 170 #[F a len cap,F z O aa,E J h] w (dY #[eA b,E J x]):=by
 subst hb hx;exact Zid a z len cap O aa l k h w hO hK
theorem Zs(w:World)(a b c)(t:TypeId):(w.alloc (dW #[a,b,c] t)).heap[w.heap.size]? = some (dW [a,b,c].toArray t (0,0)):=aK w _
def Spent(w0 w':World)(p ni:Nat)(K:List CV)(S M:List Zf)(a':Option Addr)(n' c':Nat):Prop:=
 ∃ (v':Value) (O T:List CV),T.map (·.1)=S/\O.map (·.1)=M/\Srt M/\O.length<=K.length/\n'=T.length/\T.length=ni/\w'.ownsRow w0.heap.size 103 6 (F a' n' c') n' (Zk T)/\(∀ z∈T,LkAt w0 z)/\(∀ z∈O,z∈K)/\(∀ z∈T,z∈K)/\Pu w0 w' p v' O/\(∃ s,(Value.slice a' n' c').ownBlock=some s/\v'.ownBlock≠some s/\s≠p)
set_option maxRecDepth 10000 in
theorem Zkf(w0 w:World)(p:Nat)(v)(K:List CV)(jm O jn I)(h:Int)(x:Int)(S M)(hP:Pu w0 w p v K)(hs:Srt (K.map (·.1)))(hn:K.length<=4096)(hr:∀ z∈K,ck1 z.1=0)(hI:InsAt w0 jm O I)(jf:O<=6)(hx:Zp h I [] (K.map (·.1))=(x,S,M)) :
  Calls aB 141 #[dZ (some ⟨p,0,none⟩),F jm O jn,E J h] w λe w'=>∃ a' n' c',e = dX (dY #[F a' n' c',E J x])/\ZD w0 w' /\
   (x=0->Spent w0 w' p O K S M a' n' c'):=by
 obtain⟨i0,gq,gz,ia,ib⟩:=info_parts Tryz.infoCoin;have hB:w0.heap.size<=w.heap.size:=hP.bel.size;have jh:p<w.heap.size:=hP.lt;have HP:=Zb hP;have HS:=Zb hs;have HR:=Zb hr;have HI:=Zb hI;have HZ:=Zb hI.1;have HX:=Zb hx;clear hP hs hr hI hx;go_enter func141,ntmps141
 go_wp2_with (at_make;refine wpList_make_full _ rfl _ _ 29 rfl w0.heap.size 103 i0 zeroC 6 underlying29 gq gz ia .i64 .i64 _ _ O rfl rfl rfl rfl (by rw[ib];omega) (by unfold maxLen;omega) hB ?_;intro w2 cf ev)
 rw[Zii] at cf;have er:ZD w w2:=(Below.refl _ _).grown ev (aE _) (λk h=>by cases h);have gv:w.heap.size<w2.heap.size:=(cf.lt w.heap.size rfl).2
 have ST:Hid (Pu w0 w2 p v K/\w2.ownsRow w0.heap.size 103 6 (F (some ⟨w.heap.size,0,none⟩) O O) O (Zk ([]++aF (O - 0) Qk))/\v.ownBlock≠some w.heap.size):=
  ⟨HP.kept er,cf,λe=>by have:=(HP.own.lt _ e).2;omega⟩
 clear cf ev er
 go_loopw [20] (λi wr=>∃ (k:Nat) (T K':List CV) (v':Value),k<=O/\i = E J k/\Hid (Zp h I [] (K.map (·.1))=Zp h (I.drop k) (T.map (·.1)) (K'.map (·.1)))/\Hid (Srt (K'.map (·.1)))/\K'.length<=K.length/\Hid (T.length=k)/\Hid ((∀ z∈K',z∈K)/\(∀ z∈T,z∈K)) /\
  Hid (Pu w0 wr p v' K')/\Hid (wr.ownsRow w0.heap.size 103 6 (F (some ⟨w.heap.size,0,none⟩) O O) O (Zk (T++aF (O - k) Qk)))/\Hid (∀ z∈T,LkAt w0 z)/\Hid (v'.ownBlock≠some w.heap.size)/\w.heap.size<wr.heap.size) (λi _=>O - (intOf i).toNat)
 case atStart=>exact⟨0,[],K,v,aP _,rfl,rfl,HS,aE _,rfl,⟨λz hz=>hz,λz hz=>(by cases hz)⟩,ST.1,ST.2.1,(λz hz=>(by cases hz):∀ z∈([]:List CV),LkAt w0 z),ST.2.2,gv⟩
 case round=>
  obtain⟨k,T,K',v',hk,rfl,A,br,gl,HT,ba,ag,ed,HL,da,ji⟩:=hrel;by_cases gu:k<O
  ·have bg:k<I.length:=(by rw[Za HZ];exact gu);obtain⟨b,off,rfl,iz,gp⟩:=HI.2 (by omega);have ew:=gp k bg;have E1:=Zb (P8 h I k bg (T.map (·.1)) (K'.map (·.1)));have E2:=Zb (P9 h I k bg (T.map (·.1)) (K'.map (·.1)));have E3:=Zb (Kf h I k bg (T.map (·.1)) (K'.map (·.1)));have E4:=Zb (Mm h I k bg (T.map (·.1)) (K'.map (·.1)));obtain⟨y,hy⟩:=ZF (I[k]);rw[hy] at ew E1 E2 E3 E4;obtain⟨y1,y2,cn⟩:=y;obtain⟨ek,el,ka,kn,kc,en,g4,_⟩:=ew;have g1:=Zc ag.bel ek;have g2:=Zc ag.bel el;have g3:=Zc ag.bel en;have fl:Hid (OpsAt w0 ka kn cn):=g4;clear ek el en g4;simp only at g1 g2 g3 E1 E2 E3 E4;obtain⟨X,hX⟩:=ZG (wr.alloc (dW #[E J y1,E J y2,F ka kn kc] 124));have cc:ZD wr X:=(by rw[hX];exact Zg _ _);have au:X.heap[wr.heap.size]? = some (dW [E J y1,E J y2,F ka kn kc].toArray 124 (0,0)):=(by rw[hX];exact Zs _ _ _ _ _);have bd:=ag.kept cc;have ds:=(Gr.of (S:=λ_=>False) cc).own ed (λ_ _ q=>q);have x0:=Zd au 0 _ rfl;have x1:=Zd au 1 _ rfl;have jk:wr.heap.size<X.heap.size:=aA au;have fy:=Zb au;have fs:=Zb bd;have fp:=Zb ds;have jg:p<wr.heap.size:=ag.lt;cases hf:Xp (y1,y2) (K'.map (·.1)) with
   | false=>
    have C:=Zb (Na w0 X p v' K' (y1,y2) bd br (by omega) hf)
    have R:Hid (x=7):=by
     have e:=Za A;rw[(Za E1) (Ml hf),Za HX] at e;injection e
    clear cc au bd ds hf hy A;go_wp2_with fail;rw[<-hX];clear hX;go_wp2_with fail;refine C.mono ?_;rintro e w3 ⟨rfl,eq⟩;have fi:=Zb ((fs.kept eq).bel);unfold zeroC;clear eq;go_wp2;go_ret2;exact⟨_,_,_,by rw[Za R];rfl,Ze fi (Zg _ _),λe=>absurd e (by rw[Za R];decide)⟩
   | true=>
    have C:=Zb (M9 w0 X p v' K' (y1,y2) bd br (by omega) hf);clear cc au bd ds hf hy;go_wp2_with fail;rw[<-hX];clear hX;go_wp2_with fail;refine C.mono ?_;rintro e w3 ⟨z,v3,K3,rfl,ht,fc,ci,jd,cb,bc,gx⟩;have fb:z∈K:=ba.1 z fc;have bk:=Wp (HR z fb);have bj:=ag.lk z fc;have et:1<=ch z.1:=bk.2.2.2.2.2.2.1;have eu:ch z.1<=1000:=bk.2.2.2.2.2.2.2.1;have cg:=Jt ht br
    have cd:¬PuS p v' wr.heap.size:=by
     rintro (e|e)
     ·omega
     ·have:=(ag.own.lt _ e).2;omega
    have ay:=bc.heap fy cd
    have ce:¬PuS p v' w.heap.size:=by
     rintro (e|e)
     ·omega
     ·exact da e
    have bx:=bc.own fp (λq hq=>by cases hq;exact ce);have ff:=Zb (E2 _ _ ht);have fg:=Zb (E3 _ _ ht);have fh:=Zb (E4 _ _ ht);obtain⟨Y,hY⟩:=ZG (w3.alloc (dW #[E J z.1.1,E J z.1.2.1,E J (cv z.1),.slice z.2.1 z.2.2.1 z.2.2.2,E J (ch z.1),eA (cr z.1)] 103));have aw:ZD w3 Y:=(by rw[hY];exact Zg _ _);have aj:Y.heap[w3.heap.size]? = some (dW (Ey z).toArray 103 (0,0)):=(by rw[hY];exact Qn _ _ _ _ _ _ _ _);have an:=cb.kept aw;have bz:=(Gr.of (S:=λ_=>False) aw).own bx (λ_ _ q=>q);have bf:=ZE aw ay;have jj:wr.heap.size<w3.heap.size:=aA ay;have jl:w3.heap.size<Y.heap.size:=aA aj;have q2:=Zd bf 2 _ rfl;have q3:=Zd ay 2 _ rfl;have r3:=Zd aj 3 _ rfl;have r4:=Zd aj 4 _ rfl;have r5:=Zd aj 5 _ rfl;have OP:=Zb (λbb xx hb hx=>Zli z.2.1 ka z.2.2.1 z.2.2.2 kn kc (ck z.1) cn h bb xx Y (bj.1.later an.bel) (fl.later an.bel) hb hx);by_cases ai:cr z.1=true/\h<ch z.1+2
    ·have R:Hid (x=10):=by
      have e:=Za A;rw[(Za ff) ai,Za HX] at e;injection e
     have es:cr z.1=true:=ai.1;have ja:h<ch z.1+2:=ai.2;have fj:=Zb an.bel;rw[es] at hY r5;unfold cnV;rw[es];clear A ai aw aj an bz bf cb bc bx ay ht ci cg bj bk cd ce q2 r3 g1 g2 g3 x0 x1;go_wp2_with fail;rw[<-hY];clear hY;go_wp2;go_ret2;exact⟨_,_,_,by rw[Za R];rfl,Za fj,λe=>absurd e (by rw[Za R];decide)⟩
    ·have hD:Hid ((cr z.1 && decide (h<ch z.1+2))=false):=by
      show _=_;rw[Bool.and_eq_false_iff,decide_eq_false_iff_not];cases q:cr z.1 with
      | true=>exact .inr λe=>ai ⟨q,e⟩
      | false=>exact .inl rfl
     obtain⟨bb,ax⟩:=ZF (Xi (ck z.1) cn h);obtain⟨xx,cl⟩:=ZF (V7 (ck z.1) cn h);have bt:=Zb (OP bb xx ax cl);have db:=Zb an;have fq:=Zb bz;have fz:=Zb aj;have du:v3.ownBlock≠some w.heap.size:=(by rw[gx];exact Za da);have eg:=Zb du;have fw:=Zb cg;have fx:=Zb ci;have gb:=Zb bj;have ga:=Zb fb;have iy:=Zb bf;obtain⟨hd,be⟩:=ZF (ch z.1);obtain⟨rr,bh⟩:=ZF (cr z.1);cases bb with
     | false=>
      have R:Hid (x=8):=by
       have e:=Za A;rw[(Za fg) ai ax,Za HX] at e;injection e
      unfold cnV;rw[be] at hD hY r4 et eu ⊢;rw[bh] at hD hY r5 ⊢;clear A ai aw aj an bz bf cb bc bx ay ht ci cg bj bk cd ce g1 g2 g3 x0 x1 ax cl du be bh;cases rr with
      | false=>
       go_wp2_with fail;rw[<-hY];clear hY;refine bt.mono ?_;rintro e w5 ⟨rfl,ad⟩;have cy:=Zb (db.kept ad).bel;clear ad;go_wp2;go_ret2;exact⟨_,_,_,by rw[Za R];rfl,Za cy,λe=>absurd e (by rw[Za R];decide)⟩
      | true=>
       have gj:¬(h<hd+2):=(by have:=Za hD;simpa using this);go_wp2_with fail;rw[<-hY];clear hY;refine bt.mono ?_;rintro e w5 ⟨rfl,ad⟩;have cy:=Zb (db.kept ad).bel;clear ad;go_wp2;go_ret2;exact⟨_,_,_,by rw[Za R];rfl,Za cy,λe=>absurd e (by rw[Za R];decide)⟩
     | true=>
      have gy:xx=0:=(by rw[<-cl];exact Zlj ax);subst gy
      have A2:Hid (Zp h I [] (K.map (·.1))=Zp h (I.drop (k+1)) ((T++[z]).map (·.1)) (K3.map (·.1))):=by
       show _=_;rw[Za A,(Za fh) ai ax,List.map_append];rfl
      have fu:Hid (T++aF (O - k) Qk=T++Qk :: aF (O - (k+1)) Qk):=by
       show _=_;rw[show O - k=(O - (k+1))+1 by omega,List.replicate_succ]
      have fm:Hid (K3.length<=K.length):=(by show _<=_;omega);have jc:(k:Int)<(O:Int):=(by omega);unfold cnV;rw[be] at hD hY r4 et eu ⊢;rw[bh] at hD hY r5 ⊢;have eb:=Zb be;have ef:=Zb bh;clear A ai aw aj an bz bf cb bc bx ay ht ci cg bj bk cd ce g1 g2 g3 x0 x1 ax cl du be bh
      have bu:Hid (∀ w5,ZD Y w5->(w5.cell? ⟨w3.heap.size,0,none⟩=some (E J z.1.1)/\w5.cell? ⟨w3.heap.size,1,none⟩=some (E J z.1.2.1)/\w5.cell? ⟨w3.heap.size,2,none⟩=some (E J (cv z.1))/\w5.cell? ⟨w3.heap.size,3,none⟩=some (.slice z.2.1 z.2.2.1 z.2.2.2)/\w5.cell? ⟨w3.heap.size,4,none⟩=some (E J hd)/\w5.cell? ⟨w3.heap.size,5,none⟩=some (eA rr)) /\
        (∃ u0 u1 u2 u3 u4 u5,w5.cell? ⟨w.heap.size,k*6,none⟩=some u0/\w5.cell? ⟨w.heap.size,k*6+1,none⟩=some u1/\w5.cell? ⟨w.heap.size,k*6+2,none⟩=some u2/\w5.cell? ⟨w.heap.size,k*6+3,none⟩=some u3/\w5.cell? ⟨w.heap.size,k*6+4,none⟩=some u4/\w5.cell? ⟨w.heap.size,k*6+5,none⟩=some u5)/\(∀ j,w5.frozen? ⟨w.heap.size,j,none⟩=false)/\w.heap.size<w5.heap.size /\
        Hid (∃ (T' K':List CV) (v':Value),Hid (Zp h I [] (K.map (·.1))=Zp h (I.drop (k+1)) (T'.map (·.1)) (K'.map (·.1)))/\Hid (Srt (K'.map (·.1)))/\K'.length<=K.length/\Hid (T'.length=k+1)/\Hid ((∀ z∈K',z∈K)/\(∀ z∈T',z∈K)) /\
         Hid (Pu w0 ((((((w5.setCell ⟨w.heap.size,k*6,none⟩ (E J z.1.1)).setCell ⟨w.heap.size,k*6+1,none⟩ (E J z.1.2.1)).setCell ⟨w.heap.size,k*6+2,none⟩ (E J (cv z.1))).setCell ⟨w.heap.size,k*6+3,none⟩ (.slice z.2.1 z.2.2.1 z.2.2.2)).setCell ⟨w.heap.size,k*6+4,none⟩ (E J hd)).setCell ⟨w.heap.size,k*6+5,none⟩ (eA rr)) p v' K') /\
         Hid (((((((w5.setCell ⟨w.heap.size,k*6,none⟩ (E J z.1.1)).setCell ⟨w.heap.size,k*6+1,none⟩ (E J z.1.2.1)).setCell ⟨w.heap.size,k*6+2,none⟩ (E J (cv z.1))).setCell ⟨w.heap.size,k*6+3,none⟩ (.slice z.2.1 z.2.2.1 z.2.2.2)).setCell ⟨w.heap.size,k*6+4,none⟩ (E J hd)).setCell ⟨w.heap.size,k*6+5,none⟩ (eA rr)).ownsRow w0.heap.size 103 6 (F (some ⟨w.heap.size,0,none⟩) O O) O (Zk (T'++aF (O - (k+1)) Qk)))/\Hid (∀ z∈T',LkAt w0 z)/\Hid (v'.ownBlock≠some w.heap.size) /\
         w.heap.size<((((((w5.setCell ⟨w.heap.size,k*6,none⟩ (E J z.1.1)).setCell ⟨w.heap.size,k*6+1,none⟩ (E J z.1.2.1)).setCell ⟨w.heap.size,k*6+2,none⟩ (E J (cv z.1))).setCell ⟨w.heap.size,k*6+3,none⟩ (.slice z.2.1 z.2.2.1 z.2.2.2)).setCell ⟨w.heap.size,k*6+4,none⟩ (E J hd)).setCell ⟨w.heap.size,k*6+5,none⟩ (eA rr)).heap.size)):=by
       intro w5 ad;have az:=ZE ad fz;have am:=db.kept ad;have aq:=(Gr.of (S:=λ_=>False) ad).own fq (λ_ _ q=>q);rw[Za fu] at aq;have dt:=Za HT
       have av:∀ j,j<6->w5.cell? ⟨w.heap.size,k*6+j,none⟩=(Ey Qk)[j]?:=λj hj=>by
        rw[World.ownsRow.cellAt aq _ (by omega),<-dt,Rv _ _ _ j hj]
       refine⟨⟨Zd az 0 _ rfl,Zd az 1 _ rfl,Zd az 2 _ rfl,Zd az 3 _ rfl,by rw[<-Za eb];exact Zd az 4 _ rfl,by rw[<-Za ef];exact Zd az 5 _ rfl⟩,
        ⟨_,_,_,_,_,_,(av 0 (by decide)).trans rfl,(av 1 (by decide)).trans rfl,(av 2 (by decide)).trans rfl,(av 3 (by decide)).trans rfl,(av 4 (by decide)).trans rfl,(av 5 (by decide)).trans rfl⟩,λj=>aq.frozenAt j,(aq.lt _ rfl).2,?_⟩
       have hG:=(Gr.refl w5 (λq=>q=w.heap.size)).sixAt w.heap.size (k*6) (.inl rfl) (E J z.1.1) (E J z.1.2.1) (E J (cv z.1)) (.slice z.2.1 z.2.2.1 z.2.2.2) (E J hd) (eA rr);have dr:=Zfc aq (k*6) (E J z.1.1) (E J z.1.2.1) (E J (cv z.1)) (.slice z.2.1 z.2.2.1 z.2.2.2) (E J hd) (eA rr);rw[<-Za eb,<-Za ef] at dr hG ⊢;have fa:=Sq T (aF (O - (k+1)) Qk) Qk z;rw[dt] at fa;rw[fa] at dr;refine⟨T++[z],K3,v3,A2,fw,Za fm,?_,?_,?_,?_,?_,eg,aI (aq.lt _ rfl).2 hG.size⟩
       ·show _=_;rw[List.length_append,dt];rfl
       ·refine⟨λq hq=>ba.1 q (fx q hq),λq hq=>?_⟩
        rcases cI.1 hq with hq|hq
        ·exact ba.2 q hq
        ·rw[dN.1 hq];exact Za ga
       ·refine⟨hG.below am.bel am.bel.size (λq hq=>by rw[hq];exact hB),am.ge,hG.heap am.box (by omega),hG.own am.own (λq hq e=>eg (by rw[hq,e])),am.ne,am.lk⟩
       ·show World.ownsRow _ _ _ _ _ _ _;rw[List.append_assoc];exact dr
       ·intro q hq
        rcases cI.1 hq with hq|hq
        ·exact HL q hq
        ·rw[dN.1 hq];exact Za gb
      cases rr with
      | false=>
       go_wp2_with fail;rw[<-hY];clear hY;refine bt.mono ?_;rintro e w5 ⟨rfl,ad⟩;obtain⟨⟨s0,s1,s2,s3,s4,s5⟩,⟨u0,u1,u2,u3,u4,u5,t0,t1,t2,t3,t4,t5⟩,ae,gw,cz⟩:=bu w5 ad;have z0:=ae (k*6);have z1:=ae (k*6+1);have z2:=ae (k*6+2);have z3:=ae (k*6+3);have z4:=ae (k*6+4);have z5:=ae (k*6+5);have gn:=ad.size;have m5:w3.heap.size<w5.heap.size:=aC _ _ s0;have n1:¬(w3.heap.size=w.heap.size):=(by omega);have n2:¬(w.heap.size=w3.heap.size):=(by omega);clear ad ae bu q2 q3 r3 r4 r5;go_wp2;go_roundw
       case rel=>
        obtain⟨T',K',v',f1,f2,f3,f4,f5,f6,f7,f8,f9,dg⟩:=Za cz;exact⟨k+1,T',K',v',by omega,by go_num,f1,f2,f3,f4,f5,f6,f7,f8,f9,dg⟩
       case measure=>simp[intOf];omega
      | true=>
       have gj:¬(h<hd+2):=(by have:=Za hD;simpa using this);go_wp2_with fail;rw[<-hY];clear hY;refine bt.mono ?_;rintro e w5 ⟨rfl,ad⟩;obtain⟨⟨s0,s1,s2,s3,s4,s5⟩,⟨u0,u1,u2,u3,u4,u5,t0,t1,t2,t3,t4,t5⟩,ae,gw,cz⟩:=bu w5 ad;have z0:=ae (k*6);have z1:=ae (k*6+1);have z2:=ae (k*6+2);have z3:=ae (k*6+3);have z4:=ae (k*6+4);have z5:=ae (k*6+5);have gn:=ad.size;have m5:w3.heap.size<w5.heap.size:=aC _ _ s0;have n1:¬(w3.heap.size=w.heap.size):=(by omega);have n2:¬(w.heap.size=w3.heap.size):=(by omega);clear ad ae bu q2 q3 r3 r4 r5;go_wp2;go_roundw
       case rel=>
        obtain⟨T',K',v',f1,f2,f3,f4,f5,f6,f7,f8,f9,dg⟩:=Za cz;exact⟨k+1,T',K',v',by omega,by go_num,f1,f2,f3,f4,f5,f6,f7,f8,f9,dg⟩
       case measure=>simp[intOf];omega
  ·have e:k=O:=(by omega);subst e;have R:=Za A;rw[Kg h I k (by rw[Za HZ];exact aE _),Za HX] at R;have R1:Hid (x=0):=(by show _=_;injection R);have R2:S=T.map (·.1):=(by injection R with _ R;injection R);have R3:M=K'.map (·.1):=(by injection R with _ R;injection R);subst R2 R3
   have fo:Hid (wr.ownsRow w0.heap.size 103 6 (F (some ⟨w.heap.size,0,none⟩) k k) k (Zk T)):=by
    have:=Za ed;rw[Nat.sub_self,List.replicate_zero,List.append_nil] at this;exact this
   clear R A;go_wp2;go_ret2;exact⟨some ⟨w.heap.size,0,none⟩,k,k,by rw[Za R1];rfl,ag.bel,λ_=>⟨v',K',T,rfl,rfl,Za br,gl,HT.symm,Za HT,Za fo,Za HL,ba.1,ba.2,Za ag,w.heap.size,rfl,Za da,by omega⟩⟩
set_option maxRecDepth 10000 in
theorem R0(p h k n:Int)(a m c T)(x:Int)(w:World)(hT:TxsAt w a m T)(hx:Xo (p,h,k,n,T)=x) :
  ZH 68 #[.agg #[E J p,E J h,E J k,E J n,F a m c]] w (E J x):=by
 subst hx;obtain⟨X,hX⟩:=ZG (w.alloc (dW #[E J p,E J h,E J k,E J n,F a m c] 68));have bd:ZD w X:=by rw[hX];exact Zg _ _
 have br:X.heap[w.heap.size]? = some (dW [E J p,E J h,E J k,E J n,F a m c].toArray 68 (0,0)):=by rw[hX];exact Z8 _ _ _ _ _ _ _
 have ak:=Zb br;have ad:=Zb bd;have HT:=Zb (hT.later bd);have hz:T.length=m:=hT.1;unfold Xo;simp only;rw[hz];clear bd br hT;cases q:Wj p h k n with
 | false=>
  have C:=Zb (Ky p h k n a m c false X q);rw[if_pos rfl];clear q hz;go_enter func68,ntmps68;go_wp2_with fail;rw[<-hX];clear hX;refine C.mono ?_;rintro e w1 ⟨rfl,z⟩;have ai:=Zb (Ze ad z);clear z;go_wp2;go_ret;exact⟨rfl,Za ai⟩
 | true=>
  have C:=Zb (Ky p h k n a m c true X q);rw[if_neg (by decide)];clear q;by_cases h4:4<m
  ·rw[if_pos h4];clear hz;go_enter func68,ntmps68;go_wp2_with fail;rw[<-hX];clear hX;refine C.mono ?_;rintro e w1 ⟨rfl,z⟩;have O:=ZE z ak;have c4:=Zd O 4 _ rfl;have l1:=aA O;have ai:=Zb (Ze ad z);clear z O;go_wp2;go_ret;exact⟨rfl,Za ai⟩
  ·rw[if_neg h4];by_cases h0:m=0
   ·subst h0;rw[if_pos rfl];clear hz h4;go_enter func68,ntmps68;go_wp2_with fail;rw[<-hX];clear hX;refine C.mono ?_;rintro e w1 ⟨rfl,z⟩;have O:=ZE z ak;have c4:=Zd O 4 _ rfl;have l1:=aA O;have ai:=Zb (Ze ad z);clear z O;go_wp2;go_ret;exact⟨rfl,Za ai⟩
   ·rw[if_neg h0];have g0:((m:Int) == 0)=false:=(by simp[h0]);have HZ:=Zb hz;obtain⟨b,off,rfl,cn,bt⟩:=HT.2 (by omega);have HC:=Zb bt;clear hz bt;go_enter func68,ntmps68;go_wp2_with fail;rw[<-hX];clear hX;refine C.mono ?_;rintro e w1 ⟨rfl,z⟩;have O:=ZE z ak;have c4:=Zd O 4 _ rfl;have l1:=aA O;have cc:=Zb z;clear z O;go_wp2
    go_loopw [20] (λi wr=>∃ k:Nat,k<=m/\i = E J k/\Hid (Xa h 0 T=Xa h k (T.drop k))/\Hid (ZD X wr)) (λi _=>m - (intOf i).toNat)
    case atStart=>exact⟨0,aP _,rfl,rfl,cc⟩
    case round=>
     obtain⟨j,hj,rfl,A,az⟩:=hrel;clear c4 l1;by_cases cf:j<m
     ·have bv:j<T.length:=(by rw[Za HZ];exact cf);have bu:=TxAt.kept _ _ _ _ _ az (HC j bv);have ST:=Zb (Zci h T j bv);obtain⟨t,ht⟩:=ZF (T[j]);rw[ht] at bu ST;obtain⟨t1,I,cy⟩:=t;obtain⟨bq,⟨cz,ni,ci,g1,hI,sI⟩,ao,no,co,g2,hO,_⟩:=bu;have A2:Hid (Xa h 0 T=if Zr (t1,I,cy)≠0 then Zr (t1,I,cy) else if Qc (t1,I,cy) j h=false then 4 else Xa h (j+1) (T.drop (j+1))):=(by show _=_;rw[Za A,Za ST]);simp only at bq g1 g2 hI hO;obtain⟨Y,hY⟩:=ZG (wr.alloc (dW #[E J t1,F cz ni ci,F ao no co] 52));have ar:ZD wr Y:=(by rw[hY];exact Zg _ _);have af:Y.heap[wr.heap.size]? = some (dW [E J t1,F cz ni ci,F ao no co].toArray 52 (0,0)):=(by rw[hY];exact Zs _ _ _ _ _);have cd:=Zb af;have ay:=Zb (Ze az ar);have ce:=ZE ay ak;have y0:=Zd af 0 _ rfl;have y1:=Zd af 1 _ rfl;have y2:=Zd af 2 _ rfl;have yl:=aA af;obtain⟨x,hx⟩:=ZF (Zr (t1,I,cy));obtain⟨o,ho⟩:=ZF (Qc (t1,I,cy) j h);have CT:=Zb (R9 t1 cz ao ni ci no co I cy Y (hI.later ar) (hO.later ar) sI);have CS:=Zb (λW=>Zgz t1 cz ao ni ci no co I cy j h o W hI.1 ho);rw[hx] at A2 CT;rw[ho] at A2;clear ar af ce A ht hI hO sI hx ho;by_cases av:x=0
      ·subst av
       have A3:Hid (Xa h 0 T=if o=false then 4 else Xa h (j+1) (T.drop (j+1))):=by
        have q:=Za A2;rw[if_neg (by decide)] at q;exact q
       go_wp2_with fail;rw[<-hY];clear hY;go_wp2_with fail;refine CT.mono ?_;rintro e w2 ⟨rfl,ag⟩;have al:=ZE ag cd;have bj:=Zb (Ze ay ag);have be:=ZE bj ak;have z0:=Zd al 0 _ rfl;have z1:=Zd al 1 _ rfl;have z2:=Zd al 2 _ rfl;have zl:=aA al;have k1:=Zd be 1 _ rfl;have kl:=aA be;clear ag al be y0 y1 y2 yl bq g1 g2;go_wp2_with fail;refine (CS _).mono ?_;rintro e w3 ⟨rfl,bs⟩;have bk:=Zb (Ze bj bs);clear bs;cases o with
       | false=>
        have R:Hid (Xa h 0 T=4):=(by show _=_;rw[Za A3];rfl);have aj:=Zb (Ze ad bk);go_wp2;go_ret;exact⟨by rw[Za R];rfl,Za aj⟩
       | true=>
        have R:Hid (Xa h 0 T=Xa h (j+1) (T.drop (j+1))):=(by show _=_;rw[Za A3];rfl);go_wp2;go_roundw
        case rel=>exact⟨j+1,by omega,by go_num,R,bk⟩
        case measure=>simp[intOf];omega
      ·have R:Hid (Xa h 0 T=x):=(by show _=_;rw[Za A2,if_pos av]);have gx:(x != 0)=true:=(by simp[av]);clear av;go_wp2_with fail;rw[<-hY];clear hY;go_wp2_with fail;refine CT.mono ?_;rintro e w2 ⟨rfl,ag⟩;have aj:=Zb (Ze ad (Ze ay ag));clear ag;go_wp2;go_ret;exact⟨by rw[Za R];rfl,Za aj⟩
     ·have R:Hid (Xa h 0 T=0):=(by show _=_;rw[Za A,Ay h T j (by rw[Za HZ];omega)]);have aj:=Zb (Ze ad az);clear A;go_wp2;go_ret;exact⟨by rw[Za R];rfl,Za aj⟩
def blockB:ByteArray:=⟨#[98,108,111,99,107]⟩
def Yw:List TxD->ByteArray
 | []=>⟨#[]⟩
 | t :: r=>Ye t++Yw r
def Qe(b:Zj):ByteArray:=(Vl blockB [b.1,b.2.1,b.2.2.1,b.2.2.2.1]++⟨#[10]⟩)++Yw b.2.2.2.2
theorem J8(h:Int):∀ (i:Nat) (T:List TxD),Xa h i T=0->∀ t∈T,Zr t=0
 | _,[],_,t,z=>by cases z
 | i,x :: r,e,t,z=>by
  unfold Xa at e;split at e
  ·rename_i q;exact absurd e q
  ·rename_i q;split at e
   ·cases e
   ·rcases List.mem_cons.1 z with rfl|z
    ·exact Classical.not_not.1 q
    ·exact J8 h (i+1) r e t z
theorem Ao{p h k n:Int}(e:Wj p h k n=true):0<=p/\p<=120/\1<=h/\h<=1000/\1<=k/\k<=1000/\0<=n/\n<=1000000000:=by
 unfold Wj at e;rw[bL,bL,bL,bL,bL,bL,bL] at e;obtain⟨⟨a,b⟩,⟨c,d⟩,⟨e,f⟩,g,h⟩:=e;exact⟨of_decide_eq_true a,of_decide_eq_true b,of_decide_eq_true c,of_decide_eq_true d,of_decide_eq_true e,of_decide_eq_true f,of_decide_eq_true g,of_decide_eq_true h⟩
theorem Uo{p h k n:Int}{T:List TxD}(e:Xo (p,h,k,n,T)=0):Wj p h k n=true/\0<T.length/\T.length<=4/\Xa h 0 T=0/\(∀ t∈T,Zr t=0):=by
 unfold Xo at e;simp only at e;split at e
 ·cases e
 rename_i z;split at e
 ·cases e
 rename_i O;split at e
 ·cases e
 rename_i q3;exact⟨by cases q:Wj p h k n with|true=>rfl|false=>exact absurd q z,by omega,by omega,e,J8 h 0 T e⟩
theorem R8{α : Type}:∀ (L:List (List α)),([]:List α).intercalate L=L.flatten
 | []=>rfl
 | [x]=>by simp[List.intercalate]
 | x :: y :: r=>by
  have:=R8 (y :: r);simp[List.intercalate] at this ⊢;exact this
theorem Ek(t)(h:Zr t=0):(Ye t).size<=6000:=by
 have ok:=TxOk.of h;have h1:=Jl (Xj t.1 t.2.1) t.2.2 ok.outs;have h2:=Ub t.1 t.2.1 ok.hgt ok.ins;have h3:=ok.ins6;have h4:=ok.outs6;unfold Ye;omega
theorem Qb:∀ (T:List TxD),(∀ t∈T,Zr t=0)->(Yw T).size<=6000*T.length
 | [],_=>by simp[Yw];rfl
 | t :: r,h=>by
  have h1:=Ek t (h t (List.mem_cons_self ..));have h2:=Qb r (λx z=>h x (List.mem_cons_of_mem _ z));rw[Yw,ByteArray.size_append,List.length_cons];omega
theorem P6:∀ (T:List TxD),(Yw T).data.toList=((T.map Ye).map (·.data.toList)).flatten
 | []=>rfl
 | t :: r=>by
  rw[Yw,ByteArray.data_append,Array.toList_append,P6 r];rfl
theorem Al(T:List TxD):(⟨(Lib.join ((T.map Ye).map (·.data.toList)) []).toArray⟩:ByteArray)=Yw T:=by
 refine Jp ?_;rw[P6];show Lib.join _ _=_;unfold Lib.join;exact R8 _
def txV(T:List TxD)(i:Nat):Value:=.string (Ye (T.getD i (0,[],[])))
set_option maxRecDepth 10000 in
theorem Kj(b off m c:Nat)(T:List TxD)(w:World)(hE:Env w)(hz:T.length=m)(hm:m<=4)(ay:∀ t∈T,Zr t=0)(hc:∀ i (h:i<T.length),TxAt w b (off+i*3) T[i]) :
  Calls aB 81 #[F (some ⟨b,off,none⟩) m c] w λe w'=>e = dX (F (some ⟨w.heap.size,0,none⟩) m m)/\FillV w.heap.size 9 m (txV T) w w' m:=by
 obtain⟨i0,hi,bu,bv,bw⟩:=info_parts Tryz.info9;have HE:=Zb hE;have HC:=Zb hc;have HZ:=Zb hz;have HK:=Zb ay;clear hE hc hz ay;go_enter func81,ntmps81
 go_wp2_with (at_make;refine wpList_make_full _ rfl _ _ 22 rfl w.heap.size 9 i0 (.string ⟨#[]⟩) 1 underlying22 hi bu bv .i64 .i64 _ _ m rfl rfl rfl rfl (by rw[bw];omega) (by unfold maxLen;omega) (aE _) ?_;intro w2 bc az)
 have bd:FillV w.heap.size 9 m (txV T) w w2 0:=⟨⟨_,bc,λj hj=>absurd hj (by omega)⟩,(Below.refl _ _).grown az (aE _) (λk h=>by cases h)⟩;have bo:=Zb bd;clear bd bc az
 go_loopw [11] (λi wr=>∃ k:Nat,k<=m/\i = E J k/\FillV w.heap.size 9 m (txV T) w wr k) (λi _=>m - (intOf i).toNat)
 case atStart=>exact⟨0,aP _,rfl,Za bo⟩
 case round=>
  obtain⟨k,hk,rfl,ad⟩:=hrel;have HF:=Zb ad;have aa:ZD w wr:=ad.bel;have cd:=Zb aa;by_cases ae:k<m
  ·have bb:k<T.length:=(by rw[Za HZ];exact ae);have ba:=TxAt.kept _ _ _ _ _ aa (HC k bb);have hx:=HK T[k] (List.getElem_mem _);have HQ:Hid (T.getD k (0,[],[])=T[k]):=(by show _=_;simp[bb]);obtain⟨t,ht⟩:=ZF (T[k]);rw[ht] at ba hx HQ;obtain⟨t1,I,cl⟩:=t;obtain⟨g0,⟨ai,ni,cj,g1,hI,sI⟩,ao,no,co,g2,hO,_⟩:=ba;simp only at g0 g1 g2 hI hO;obtain⟨Y,hY⟩:=ZG (wr.alloc (dW #[E J t1,F ai ni cj,F ao no co] 52));have O:ZD wr Y:=(by rw[hY];exact Zg _ _);have z:Y.heap[wr.heap.size]? = some (dW [E J t1,F ai ni cj,F ao no co].toArray 52 (0,0)):=(by rw[hY];exact Zs _ _ _ _ _);have y0:=Zd z 0 _ rfl;have y1:=Zd z 1 _ rfl;have y2:=Zd z 2 _ rfl;have yl:=aA z;have PO:=Zb (Bj t1 ai ao ni cj no co I cl Y (HE.later (Ze aa O)) (hI.later O) (hO.later O) sI hx);obtain⟨x,an⟩:=ZG (Ye (t1,I,cl));rw[<-an] at PO;have HX:=Zb an;have bh:=Zb O;clear ad aa ht hx z O hI hO sI an;go_wp2_with fail;rw[<-hY];clear hY;go_wp2_with fail;refine PO.mono ?_;rintro e w3 ⟨rfl,aw⟩;have ab:=(HF.keep bh).keep aw;obtain⟨v,ci⟩:=ab.old ae;have ce:=ab.free k;have cf:=ab.lt;have bk:=Zb ab;clear aw ab y0 y1 y2 yl g0 g1 g2;go_wp2;go_roundw
   case rel=>
    refine⟨k+1,by omega,by go_num,bk.step ae ?_⟩;show Value.string x=txV T k;unfold txV;rw[Za HX,Za HQ]
   case measure=>simp[intOf];omega
  ·clear ad aa;have e:k=m:=(by omega);subst e;clear hk ae;go_wp2;go_ret;exact⟨rfl,Za HF⟩
