import Derived.Test.YtpikejjiignchaaGreatDoorG23
namespace Go.Proofs.YtpikejjiignchaaGreatDoor
open Go.RowKit Go.Maps
theorem Zv{k c:Int}(h1:1≤k)(h2:k≤13)(hat:TakesD.atKey (.int .i64 k) (.lit (.int .i64 0)) = .lit (.int .i64 c)):c=Cb k:=by
 rw[Zbg k h1 h2] at hat
 cases hat
 rfl
theorem Ez{k n:Int}(h:Y4 (k,n)=0):(k=1∨k=2∨k=3∨k=4∨k=5∨k=6∨k=7∨k=8∨k=9∨k=10∨k=11∨k=12∨k=13)∧-1000000≤n∧n≤1000000:=by
 simp only[Y4] at h
 split at h
 ·cases h
 ·split at h
  ·cases h
  ·rename_i h1 h2
   simp only[not_or,Bool.not_eq_false] at h2
   have:=(Z0 n).1 h2.2
   omega
theorem Yr{h:Int}{l:List (Int×Int)}{Z L:List Int}{k:Nat}{q:Int×Int}(hk:k<l.length)(hq:q=l[k])(hr:Yv h (l.take k) Z=some L):Yv h (l.take (k+1)) Z=Z7 h q.1 q.2 L:=by
 rw[List.take_succ_eq_append_getElem hk,Vn,hr,←hq]
 simp only[Option.bind,Yv]
 cases Z7 h q.1 q.2 L <;> rfl
theorem Zn{h:Int}{l:List (Int×Int)}{Z L:List Int}{k:Nat}{q:Int×Int}(hk:k<l.length)(hq:q=l[k])(hr:Yv h (l.take k) Z=some L)(hs:Z7 h q.1 q.2 L=none):Yv h l Z=none:=by
 rw[←List.take_append_drop (k+1) l,Vn,Yr hk hq hr,hs];rfl
theorem Zhk(a d:Int):(a*d != 0)=(a != 0 && d != 0):=by
 by_cases h1:a=0
 ·simp[h1]
 ·by_cases h2:d=0
  ·simp[h2]
  ·have h3:a*d≠0:=Int.mul_ne_zero h1 h2
   rw[bne_iff_ne.2 h3,bne_iff_ne.2 h1,bne_iff_ne.2 h2];rfl
theorem Zhl{a d:Int}(ha : -1000000≤a∧a≤1000000)(hd : -1000000≤d∧d≤1000000) : -1000000000000≤a*d∧a*d≤1000000000000:=by
 have h1:=Int.mul_nonneg (show 0≤1000000 - a by omega) (show 0≤1000000+d by omega)
 have h2:=Int.mul_nonneg (show 0≤1000000+a by omega) (show 0≤1000000 - d by omega)
 have h3:=Int.mul_nonneg (show 0≤1000000 - a by omega) (show 0≤1000000 - d by omega)
 have h4:=Int.mul_nonneg (show 0≤1000000+a by omega) (show 0≤1000000+d by omega)
 simp only[Int.sub_mul,Int.add_mul,Int.mul_sub,Int.mul_add] at h1 h2 h3 h4
 omega
theorem Xu(w:World)(o:Obj):Below w.heap.size w (w.alloc o):=(Below.refl _ _).alloc (Nat.le_refl _) _
theorem Lh(w0:World)(x y:Value)(o:Obj)(ad:Nat)(had:ad=w0.heap.size):((w0.alloc (.cells #[x,y] 3)).alloc o).cell? ⟨ad,1,none⟩=some y:=by
 subst had
 rw[(Xu (w0.alloc (.cells #[x,y] 3)) o).cell (p:=⟨w0.heap.size,1,none⟩) (by simp),World.cell?_alloc_at _ _ _ _ rfl];rfl
theorem Zef(w:World)(x:Value)(t:TypeId)(j:Nat)(u:Value)(h:[x][j]? = some u):(w.alloc (.cells #[x] t)).cell? ((⟨w.heap.size,0,none⟩:Addr).add j)=some u:=by
 have hadd:(⟨w.heap.size,0,none⟩:Addr).add j=⟨w.heap.size,j,none⟩:=by unfold Addr.add;split <;> simp_all
 rw[hadd,World.cell?_alloc_at _ _ _ _ rfl]
 simpa using h
theorem St.lt{W:World}{bm g n cap:Nat}{L:List Int}{w:World}(h:St W bm (.slice (some ⟨g,0,none⟩) n cap) L w):g<w.heap.size:=by
 obtain⟨_,h0|⟨g',c,cur,hv,_,hh,_⟩⟩:=h.own
 ·exact absurd h0.1 (by simp)
 ·simp only[Value.slice.injEq,Option.some.injEq,Addr.mk.injEq] at hv
  obtain⟨⟨rfl,_⟩,_⟩:=hv
  exact lt_of_block hh
theorem St.drewN{W:World}{bm:Nat}{v:Value}{L:List Int}{w:World}(h:St W bm v L w)(n:Nat):St W bm v L (w.drewN n):=
 ⟨h.row,h.own,h.map,⟨h.bel.os,h.bel.tape,h.bel.output,h.bel.size,h.bel.block⟩⟩
theorem Zr{w0:World}{x:Int}{ops:Array Oper}{rest:List Oper}{o:Oper}{a:Act}{Q:Exit→Act→World→Prop}(hgd:o.guard=none)(s y:Operand)
  (ho:o.op = .call { callee:=.builtin .append,args:=#[s,y],argTypes:=#[25,25] }) (W:World) (bm:Nat) (v:Value) (L:List Int) (hs:a.eval s=v) (hL:L.length≤16)
  (hst:St W bm v L w0) (ad:Nat) (had:ad=w0.heap.size) (hx:a.eval y = .slice (some ⟨ad,0,none⟩) 1 1)
  (h:∀ v' w',St W bm v' (L++[x]) w'→(w0.alloc (.cells #[.int .i64 x] 3)).grownBy w' v.ownBlock→wpList Tryz.prog ops Q rest (a.put o.dst v') w') :
  wpList Tryz.prog ops Q (o :: rest) a (w0.alloc (.cells #[.int .i64 x] 3)):=by
 obtain⟨i0,hi,hz0,hz1,hz2⟩:=info_parts Tryz.info3
 subst had
 have hst1:=hst.keep (Xu w0 (.cells #[.int .i64 x] 3))
 refine wpList_append_own _ hgd s y 25 ho W.heap.size 3 i0 (.int .i64 0) 1 8 Tryz.underlying25 hi hz0 hz1 hz2 rfl (by decide) v L.length (L.map (Value.int .i64)) hs hst1.own ⟨w0.heap.size,0,none⟩ 1 1 [.int .i64 x] hx rfl (fun j u hj=>Zef w0 _ 3 j u hj) (fun u hu=>?_) (by unfold maxLen;omega) (by omega) hst1.bel.size fun v' w' h1 h2 h3=>h v' w' (hst1.app h1 h2 h3) h2
 simp only[List.mem_singleton] at hu
 subst hu
 rfl
set_option maxRecDepth 100000 in
set_option maxHeartbeats 8000000 in
theorem Nq(b off len cap:Nat)(l:List (Int×Int))(az:Option Addr)(lens caps:Nat)(Z:List Int)(h:Int)(w:World)(h16:len≤16)(hck:Vg l=0)(hz:l.length=len)
  (hc:∀ i,i<len→w.cell? ⟨b,off+i*2,none⟩=some (.int .i64 (l.getD i (0,0)).1)∧w.cell? ⟨b,off+i*2+1,none⟩=some (.int .i64 (l.getD i (0,0)).2)) (hl:b<w.heap.size)
  (hR:RowAt w az lens Z) (hcz:az=none→caps=0) (hZ:Z8 Z=true) (hh:hOk h=true) :
  Calls Tryz.prog 151 #[.slice (some ⟨b,off,none⟩) len cap,.slice az lens caps,.int .i64 h] w fun e w'=>∃ a' cap',e = .returned (.tuple #[.slice a' ((Yv h l Z).getD []).length cap',.bool (Yv h l Z).isSome])∧RowAt w' a' ((Yv h l Z).getD []).length ((Yv h l Z).getD [])∧Below w.heap.size w w'∧(a'=none→cap'=0):=by
 have hlen:lens≤16:=by rw[←hR.1];exact (Q4 hZ).1
 have HH:=Zb hh
 have HC:=Zb hc
 have HZ:=Zb hz
 have HK:=Zb (Jk hck)
 have HSZ:=Zb hZ
 have HR:=Zb hR
 have HCZ:=Zb hcz
 clear hR hc hZ hh hz hck hcz
 have HB0:=Zb ((Below.refl w.heap.size w).alloc (Nat.le_refl _) (.cells #[] 3))
 have HR0:=Zb ((Za HR).later (Za HB0))
 have HO0:Hid ((w.alloc (.cells #[] 3)).ownsRow w.heap.size 3 1 (.slice (some ⟨w.heap.size,0,none⟩) 0 0) 0 []):=⟨rfl,.inr ⟨w.heap.size,0,#[],rfl,Nat.le_refl _,heap_alloc_new _ _,Nat.le_refl _,by decide,rfl,rfl⟩⟩
 have hmm:=@run_makeMap Tryz.prog
 go_enter Tryz.func151,Tryz.ntmps151
 go_wp2_with (first
  | (at_builtin;refine Ul rfl _ _ rfl w.heap.size _ _ _ rfl (Za HO0) az lens caps Z rfl (Za HCZ) (Za HR0) (by omega) (Za HB0).size ?_;intro v1 w1 ho1 hg1 hn1;have hst:=Ld (Za HB0) (Za HR).1 ho1 hg1 hn1;clear ho1 hg1 hn1)
  | (refine Uk _ rfl _ _ _ rfl _ _ _ _ _ _ hst rfl (by omega) _ _ rfl rfl (by decide) (by decide) ?_;intro w2 hst2;clear hst;have hst:=hst2;clear hst2))
 have HST0:=Zb (Pro.st hst)
 obtain⟨bm,hbm⟩:∃ bm,bm=w1.heap.size:=⟨_,rfl⟩
 rw[←hbm] at HST0 ⊢
 clear hst hmm hbm HR0 HO0 HB0 HR HCZ
 go_loopw [1,26] (fun v i wr=>∃ (k:Nat) (L:List Int),k≤len∧i = .int .i64 k∧Yv h (l.take k) Z=some L∧St w bm v L wr) (fun _ i _=>len - (intOf i).toNat)
 case atStart=>exact⟨0,Z,Nat.zero_le _,rfl,rfl,Za HST0⟩
 case round=>
  obtain⟨k,L,hk,rfl,hrl,hst⟩:=hrel
  clear HST0
  obtain⟨hL1,hL2⟩:=Q4 (P9 (Za HSZ) hrl)
  have HL2:=Zb hL2
  have HRL:=Zb hrl
  have HST:=Zb hst
  obtain⟨g,cp,rfl,hc1,hc2⟩:=hst.row
  unfold maxLen at hc2
  clear hL2 hrl
  by_cases hlt:k<len
  ·obtain⟨c1,c2⟩:=(Za HC) k hlt
   rw[←hst.bel.cell (p:=⟨b,off+k*2,none⟩) hl] at c1
   rw[←hst.bel.cell (p:=⟨b,off+k*2+1,none⟩) hl] at c2
   obtain⟨q,hq⟩:∃ q,q=l.getD k (0,0):=⟨_,rfl⟩
   rw[←hq] at c1 c2
   have hlk:k<l.length:=by rw[Za HZ];exact hlt
   have hq':q=l[k]:=by rw[hq];simp[hlk]
   obtain⟨hkind,hn1,hn2⟩:=Ez (k:=q.1) (n:=q.2) (by rw[hq'];exact (Za HK) k hlk)
   have HQ:=Zb hq'
   clear hq hq' hst
   obtain⟨q1,q2⟩:=q
   simp only at c1 c2 hkind hn1 hn2
   have STA:=Zb ((Za HST).keep (Xu wr (.cells #[.int .i64 q1,.int .i64 q2] 122)))
   have HF:=Zb ((Z0 q2).2 ⟨hn1,hn2⟩)
   rcases hkind with rfl|rfl|rfl|rfl|rfl|rfl|rfl|rfl|rfl|rfl|rfl|rfl|rfl
   ·have STP:=Zb ((Za STA).keep (Xu _ (.cells #[.int .i64 q2] 3)))
    go_wp2_with (first|(at_lookup;refine wpList_lookup_own_int _ rfl _ _ 86 rfl 3 3 .i64 Vq Tryz.underlying86 Tryz.underlying3 (Xd _) bm 11 _ rfl (Za STA).map _ _ rfl (keyOf_int_mk Tryz.underlying3 (by decide)) ?_;intro c hat _;obtain rfl:c=0:=(Zv (by decide) (by decide) hat).trans (by decide);clear hat)|go_in)
    have SS:=Zb (C9 h q2 L)
    by_cases hm:(L).length=16
    ·have gm:(16:Int)≤((L).length:Int):=by omega
     refine wp_loop_rounds 1 ?_
     rw[rounds_succ]
     go_wp2
     go_ret2
     rw[Zn hlk (Za HQ) (Za HRL) ((Za SS).trans (Y2 hm))]
     exact⟨none,0,rfl,RowAt.nil _ _,(Za STP).bel,fun _=>rfl⟩
    ·have gm:¬(16:Int)≤((L).length:Int):=by omega
     have gm2:(L).length<16:=by omega
     clear hm
     cases hx:fit q2 with
     | false=>
      have HX:=Zb hx
      clear hx
      refine wp_loop_rounds 1 ?_
      rw[rounds_succ]
      go_wp2_with (go_at_call 178;refine (Ye q2 false _ (Za HX).symm).mono ?_;rintro e w' ⟨rfl,rfl⟩)
      go_ret2
      rw[Zn hlk (Za HQ) (Za HRL) ((Za SS).trans (Y7 (Za HX)))]
      exact⟨none,0,rfl,RowAt.nil _ _,(Za STP).bel,fun _=>rfl⟩
     | true=>
      have HX:=Zb hx
      clear hx
      refine wp_loop_rounds 2 ?_
      rw[rounds_succ]
      go_wp2_with (first|(go_at_call 178;refine (Ye q2 true _ (Za HX).symm).mono ?_;rintro e w' ⟨rfl,rfl⟩)|(at_builtin;refine Zr (x:=q2) rfl _ _ rfl w bm _ (L) rfl (by omega) (Za STP) _ (by simp) rfl ?_;intro v3 w3 st3 _;have ST3:=Zb st3;clear st3))
      rw[rounds_succ]
      go_wp2
      go_roundw
      case rel=>exact⟨k+1,(L)++[q2],by omega,by go_num,(Yr hlk (Za HQ) (Za HRL)).trans ((Za SS).trans (Xg gm2 (Za HX))),Za ST3⟩
      case measure=>simp[intOf];omega
   ·by_cases hs:L.length=0
    ·have e:L=[]:=List.length_eq_zero_iff.1 hs
     rw[hs]
     go_wp2_with (first|(at_lookup;refine wpList_lookup_own_int _ rfl _ _ 86 rfl 3 3 .i64 Vq Tryz.underlying86 Tryz.underlying3 (Xd _) bm 11 _ rfl (Za STA).map _ _ rfl (keyOf_int_mk Tryz.underlying3 (by decide)) ?_;intro c hat _;obtain rfl:c=1:=(Zv (by decide) (by decide) hat).trans (by decide);clear hat)|go_in)
     go_ret2
     rw[Zn hlk (Za HQ) (Za HRL) (by rw[e];exact Xw h 2 q2 (by decide) (by decide))]
     exact⟨none,0,rfl,RowAt.nil _ _,(Za STA).bel,fun _=>rfl⟩
    ·obtain⟨M,a,rfl⟩:=Xh (L:=L) (by omega)
     have ca:(wr.alloc (.cells #[.int .i64 2,.int .i64 q2] 122)).cell? ⟨g,M.length,none⟩=some (.int .i64 a):=by have:=(Za STA).cell M.length (by simp);simpa using this
     have STM:=Zb (Za STA).cut
     have fa:=(Z0 a).1 ((Za HL2) a (by simp))
     have hlen1:(M++[a]).length=M.length+1:=by simp
     rw[hlen1] at hL1 hc1 ⊢
     clear hs hlen1
     have STP:=Zb ((Za STM).keep (Xu _ (.cells #[.int .i64 a,.int .i64 a] 3)))
     have HX:=Zb ((Za HL2) a (by simp))
     have HY:=Zb ((Za HL2) a (by simp))
     have hgl:g<wr.heap.size:=(Za HST).lt
     have CY:Hid (∀ (z:Int) (w3:World),(((wr.alloc (.cells #[.int .i64 2,.int .i64 q2] 122)).alloc (.cells #[.int .i64 a,.int .i64 a] 3)).alloc (.cells #[.int .i64 z] 3)).grownBy w3 (some g)→w3.cell? ⟨wr.heap.size+1,1,none⟩=some (.int .i64 a)):=fun z w3 hg=>hg.cell (a:=⟨wr.heap.size+1,1,none⟩) (Lh _ _ _ _ _ (by simp)) (by simp;omega)
     have gm:¬(16:Int)≤(M.length:Int):=by omega
     have gm2:M.length<16:=by omega
     go_wp2_with (first|(at_lookup;refine wpList_lookup_own_int _ rfl _ _ 86 rfl 3 3 .i64 Vq Tryz.underlying86 Tryz.underlying3 (Xd _) bm 11 _ rfl (Za STA).map _ _ rfl (keyOf_int_mk Tryz.underlying3 (by decide)) ?_;intro c hat _;obtain rfl:c=1:=(Zv (by decide) (by decide) hat).trans (by decide);clear hat)|go_in)
     refine wp_loop_rounds 3 ?_
     rw[rounds_succ]
     go_wp2_with (first|(go_at_call 178;refine (Ye a true _ (Za HX).symm).mono ?_;rintro e w' ⟨rfl,rfl⟩)|(at_builtin;refine Zr (x:=a) rfl _ _ rfl w bm _ M rfl (by omega) (Za STP) _ (by simp) rfl ?_;intro v3 w3 st3 hg3;have cy:=(Za CY) _ _ hg3;have ST3:=Zb st3;clear st3 hg3;obtain⟨g3,cp3,rfl,_,_⟩:=(Za ST3).row))
     have SS:=Zb (Zbo h q2 M a)
     have hl2:(M++[a]).length=M.length+1:=by simp
     have ST4:St w bm (.slice (some ⟨g3,0,none⟩) (M.length+1) cp3) (M++[a]) w3:=by rw[←hl2];exact Za ST3
     have HST4:=Zb ST4
     clear hl2 ST4 ST3
     by_cases hm:M.length=15
     ·have gm3:(16:Int)≤(M.length:Int)+1:=by omega
      rw[rounds_succ]
      go_wp2
      go_ret2
      rw[Zn hlk (Za HQ) (Za HRL) ((Za SS).trans ((R9 gm2 (Za HX)).trans (Y2 (by simp;omega))))]
      exact⟨none,0,rfl,RowAt.nil _ _,(Za HST4).bel,fun _=>rfl⟩
     ·have gm3:¬(16:Int)≤(M.length:Int)+1:=by omega
      rw[rounds_succ]
      go_wp2_with (first|(go_at_call 178;refine (Ye a true _ (Za HY).symm).mono ?_;rintro e w' ⟨rfl,rfl⟩)|(at_builtin;refine Zr (x:=a) rfl _ _ rfl w bm _ (M++[a]) rfl (by simp;omega) (Za HST4) _ (by first|rfl|simp) rfl ?_;intro v5 w5 st5 _;have ST5:=Zb st5;clear st5))
      rw[rounds_succ]
      go_wp2
      go_roundw
      case rel=>exact⟨k+1,(M++[a])++[a],by omega,by go_num,(Yr hlk (Za HQ) (Za HRL)).trans ((Za SS).trans ((R9 gm2 (Za HX)).trans (Xg (by simp;omega) (Za HY)))),Za ST5⟩
      case measure=>simp[intOf];omega
   ·by_cases hs:L.length<2
    ·have gs:(L.length:Int)<2:=by omega
     have hno:Z7 h 3 q2 L=none:=by
      by_cases h0:L.length=0
      ·rw[List.length_eq_zero_iff.1 h0];exact Xw h 3 q2 (by decide) (by decide)
      ·obtain⟨M,a,rfl⟩:=Xh (L:=L) (by omega)
       have e:M=[]:=List.length_eq_zero_iff.1 (by simp at hs;omega)
       subst e
       exact U0 h 3 q2 a (by decide)
     have HNO:=Zb hno
     clear hno
     go_wp2_with (first|(at_lookup;refine wpList_lookup_own_int _ rfl _ _ 86 rfl 3 3 .i64 Vq Tryz.underlying86 Tryz.underlying3 (Xd _) bm 11 _ rfl (Za STA).map _ _ rfl (keyOf_int_mk Tryz.underlying3 (by decide)) ?_;intro c hat _;obtain rfl:c=2:=(Zv (by decide) (by decide) hat).trans (by decide);clear hat)|go_in)
     go_ret2
     rw[Zn hlk (Za HQ) (Za HRL) (Za HNO)]
     exact⟨none,0,rfl,RowAt.nil _ _,(Za STA).bel,fun _=>rfl⟩
    ·obtain⟨M,a,d,rfl⟩:=U2 (L:=L) (by omega)
     have ca:(wr.alloc (.cells #[.int .i64 3,.int .i64 q2] 122)).cell? ⟨g,M.length,none⟩=some (.int .i64 a):=by have:=(Za STA).cell M.length (by simp);simpa using this
     have cd:(wr.alloc (.cells #[.int .i64 3,.int .i64 q2] 122)).cell? ⟨g,M.length+1,none⟩=some (.int .i64 d):=by have:=(Za STA).cell (M.length+1) (by simp);simpa using this
     have STM:=Zb (Za STA).cut
     have fa:=(Z0 a).1 ((Za HL2) a (by simp))
     have fd:=(Z0 d).1 ((Za HL2) d (by simp))
     have hlen1:(M++[a,d]).length=M.length+2:=by simp
     rw[hlen1] at hL1 hc1 ⊢
     clear hs hlen1
     have STP:=Zb (fun n:Nat=>((Za STM).drewN n).keep (Xu _ (.cells #[.int .i64 d,.int .i64 a] 3)))
     have HX:=Zb ((Za HL2) d (by simp))
     have HY:=Zb ((Za HL2) a (by simp))
     have hgl:g<wr.heap.size:=(Za HST).lt
     have CY:Hid (∀ (n:Nat) (z:Int) (w3:World),((((wr.alloc (.cells #[.int .i64 3,.int .i64 q2] 122)).drewN n).alloc (.cells #[.int .i64 d,.int .i64 a] 3)).alloc (.cells #[.int .i64 z] 3)).grownBy w3 (some g)→w3.cell? ⟨wr.heap.size+1,1,none⟩=some (.int .i64 a)):=fun n z w3 hg=>hg.cell (a:=⟨wr.heap.size+1,1,none⟩) (Lh _ _ _ _ _ (by simp)) (by simp;omega)
     have gm:¬(16:Int)≤(M.length:Int):=by omega
     have gm2:M.length<16:=by omega
     go_wp2_with (first|(at_lookup;refine wpList_lookup_own_int _ rfl _ _ 86 rfl 3 3 .i64 Vq Tryz.underlying86 Tryz.underlying3 (Xd _) bm 11 _ rfl (Za STA).map _ _ rfl (keyOf_int_mk Tryz.underlying3 (by decide)) ?_;intro c hat _;obtain rfl:c=2:=(Zv (by decide) (by decide) hat).trans (by decide);clear hat)|go_in)
     go_quiet (fail)
     go_wp2
     refine wp_loop_rounds 3 ?_
     rw[rounds_succ]
     go_wp2_with (first|(go_at_call 178;refine (Ye d true _ (Za HX).symm).mono ?_;rintro e w' ⟨rfl,rfl⟩)|(at_builtin;refine Zr (x:=d) rfl _ _ rfl w bm _ M rfl (by omega) ((Za STP) _) _ (by simp) rfl ?_;intro v3 w3 st3 hg3;have cy:=(Za CY) _ _ _ hg3;have ST3:=Zb st3;clear st3 hg3;obtain⟨g3,cp3,rfl,_,_⟩:=(Za ST3).row))
     have SS:=Zb (C7 h q2 M a d)
     have hl2:(M++[d]).length=M.length+1:=by simp
     have ST4:St w bm (.slice (some ⟨g3,0,none⟩) (M.length+1) cp3) (M++[d]) w3:=by rw[←hl2];exact Za ST3
     have HST4:=Zb ST4
     clear hl2 ST4 ST3
     by_cases hm:M.length=15
     ·have gm3:(16:Int)≤(M.length:Int)+1:=by omega
      rw[rounds_succ]
      go_wp2
      go_ret2
      rw[Zn hlk (Za HQ) (Za HRL) ((Za SS).trans ((R9 gm2 (Za HX)).trans (Y2 (by simp;omega))))]
      exact⟨none,0,rfl,RowAt.nil _ _,(Za HST4).bel,fun _=>rfl⟩
     ·have gm3:¬(16:Int)≤(M.length:Int)+1:=by omega
      rw[rounds_succ]
      go_wp2_with (first|(go_at_call 178;refine (Ye a true _ (Za HY).symm).mono ?_;rintro e w' ⟨rfl,rfl⟩)|(at_builtin;refine Zr (x:=a) rfl _ _ rfl w bm _ (M++[d]) rfl (by simp;omega) (Za HST4) _ (by first|rfl|simp) rfl ?_;intro v5 w5 st5 _;have ST5:=Zb st5;clear st5))
      rw[rounds_succ]
      go_wp2
      go_roundw
      case rel=>exact⟨k+1,(M++[d])++[a],by omega,by go_num,(Yr hlk (Za HQ) (Za HRL)).trans ((Za SS).trans ((R9 gm2 (Za HX)).trans (Xg (by simp;omega) (Za HY)))),Za ST5⟩
      case measure=>simp[intOf];omega
   ·by_cases hs:L.length=0
    ·have e:L=[]:=List.length_eq_zero_iff.1 hs
     rw[hs]
     go_wp2_with (first|(at_lookup;refine wpList_lookup_own_int _ rfl _ _ 86 rfl 3 3 .i64 Vq Tryz.underlying86 Tryz.underlying3 (Xd _) bm 11 _ rfl (Za STA).map _ _ rfl (keyOf_int_mk Tryz.underlying3 (by decide)) ?_;intro c hat _;obtain rfl:c=1:=(Zv (by decide) (by decide) hat).trans (by decide);clear hat)|go_in)
     go_ret2
     rw[Zn hlk (Za HQ) (Za HRL) (by rw[e];exact Xw h 4 q2 (by decide) (by decide))]
     exact⟨none,0,rfl,RowAt.nil _ _,(Za STA).bel,fun _=>rfl⟩
    ·obtain⟨M,a,rfl⟩:=Xh (L:=L) (by omega)
     have ca:(wr.alloc (.cells #[.int .i64 4,.int .i64 q2] 122)).cell? ⟨g,M.length,none⟩=some (.int .i64 a):=by have:=(Za STA).cell M.length (by simp);simpa using this
     have STM:=Zb (Za STA).cut
     have fa:=(Z0 a).1 ((Za HL2) a (by simp))
     have hlen1:(M++[a]).length=M.length+1:=by simp
     rw[hlen1] at hL1 hc1 ⊢
     clear hs hlen1
     go_wp2_with (first|(at_lookup;refine wpList_lookup_own_int _ rfl _ _ 86 rfl 3 3 .i64 Vq Tryz.underlying86 Tryz.underlying3 (Xd _) bm 11 _ rfl (Za STA).map _ _ rfl (keyOf_int_mk Tryz.underlying3 (by decide)) ?_;intro c hat _;obtain rfl:c=1:=(Zv (by decide) (by decide) hat).trans (by decide);clear hat)|go_in)
     refine wp_loop_rounds 1 ?_
     rw[rounds_succ]
     go_wp2
     go_roundw
     case rel=>exact⟨k+1,M,by omega,by go_num,(Yr hlk (Za HQ) (Za HRL)).trans (Eb h q2 M a),Za STM⟩
     case measure=>simp[intOf];omega
   ·by_cases hs:L.length<2
    ·have gs:(L.length:Int)<2:=by omega
     have hno:Z7 h 5 q2 L=none:=by
      by_cases h0:L.length=0
      ·rw[List.length_eq_zero_iff.1 h0];exact Xw h 5 q2 (by decide) (by decide)
      ·obtain⟨M,a,rfl⟩:=Xh (L:=L) (by omega)
       have e:M=[]:=List.length_eq_zero_iff.1 (by simp at hs;omega)
       subst e
       exact U0 h 5 q2 a (by decide)
     have HNO:=Zb hno
     clear hno
     go_wp2_with (first|(at_lookup;refine wpList_lookup_own_int _ rfl _ _ 86 rfl 3 3 .i64 Vq Tryz.underlying86 Tryz.underlying3 (Xd _) bm 11 _ rfl (Za STA).map _ _ rfl (keyOf_int_mk Tryz.underlying3 (by decide)) ?_;intro c hat _;obtain rfl:c=2:=(Zv (by decide) (by decide) hat).trans (by decide);clear hat)|go_in)
     go_ret2
     rw[Zn hlk (Za HQ) (Za HRL) (Za HNO)]
     exact⟨none,0,rfl,RowAt.nil _ _,(Za STA).bel,fun _=>rfl⟩
    ·obtain⟨M,a,d,rfl⟩:=U2 (L:=L) (by omega)
     have ca:(wr.alloc (.cells #[.int .i64 5,.int .i64 q2] 122)).cell? ⟨g,M.length,none⟩=some (.int .i64 a):=by have:=(Za STA).cell M.length (by simp);simpa using this
     have cd:(wr.alloc (.cells #[.int .i64 5,.int .i64 q2] 122)).cell? ⟨g,M.length+1,none⟩=some (.int .i64 d):=by have:=(Za STA).cell (M.length+1) (by simp);simpa using this
     have STM:=Zb (Za STA).cut
     have fa:=(Z0 a).1 ((Za HL2) a (by simp))
     have fd:=(Z0 d).1 ((Za HL2) d (by simp))
     have hlen1:(M++[a,d]).length=M.length+2:=by simp
     rw[hlen1] at hL1 hc1 ⊢
     clear hs hlen1
     have STP:=Zb (fun n:Nat=>((Za STM).drewN n).keep (Xu _ (.cells #[.int .i64 (a+d)] 3)))
     go_wp2_with (first|(at_lookup;refine wpList_lookup_own_int _ rfl _ _ 86 rfl 3 3 .i64 Vq Tryz.underlying86 Tryz.underlying3 (Xd _) bm 11 _ rfl (Za STA).map _ _ rfl (keyOf_int_mk Tryz.underlying3 (by decide)) ?_;intro c hat _;obtain rfl:c=2:=(Zv (by decide) (by decide) hat).trans (by decide);clear hat)|go_in)
     go_quiet (fail)
     go_wp2_with (first|(go_at_call 177;refine (Sd _ _).mono ?_;rintro e w' ⟨rfl,rfl⟩)|go_in)
     have SS:=Zb (Zbq h q2 M a d)
     by_cases hm:(M).length=16
     ·have gm:(16:Int)≤((M).length:Int):=by omega
      refine wp_loop_rounds 1 ?_
      rw[rounds_succ]
      go_wp2
      go_ret2
      rw[Zn hlk (Za HQ) (Za HRL) ((Za SS).trans (Y2 hm))]
      exact⟨none,0,rfl,RowAt.nil _ _,((Za STP) _).bel,fun _=>rfl⟩
     ·have gm:¬(16:Int)≤((M).length:Int):=by omega
      have gm2:(M).length<16:=by omega
      clear hm
      cases hx:fit (a+d) with
      | false=>
       have HX:=Zb hx
       clear hx
       refine wp_loop_rounds 1 ?_
       rw[rounds_succ]
       go_wp2_with (go_at_call 178;refine (Ye (a+d) false _ (Za HX).symm).mono ?_;rintro e w' ⟨rfl,rfl⟩)
       go_ret2
       rw[Zn hlk (Za HQ) (Za HRL) ((Za SS).trans (Y7 (Za HX)))]
       exact⟨none,0,rfl,RowAt.nil _ _,((Za STP) _).bel,fun _=>rfl⟩
      | true=>
       have HX:=Zb hx
       clear hx
       refine wp_loop_rounds 2 ?_
       rw[rounds_succ]
       go_wp2_with (first|(go_at_call 178;refine (Ye (a+d) true _ (Za HX).symm).mono ?_;rintro e w' ⟨rfl,rfl⟩)|(at_builtin;refine Zr (x:=(a+d)) rfl _ _ rfl w bm _ (M) rfl (by omega) ((Za STP) _) _ (by simp) rfl ?_;intro v3 w3 st3 _;have ST3:=Zb st3;clear st3))
       rw[rounds_succ]
       go_wp2
       go_roundw
       case rel=>exact⟨k+1,(M)++[(a+d)],by omega,by go_num,(Yr hlk (Za HQ) (Za HRL)).trans ((Za SS).trans (Xg gm2 (Za HX))),Za ST3⟩
       case measure=>simp[intOf];omega
   ·by_cases hs:L.length<2
    ·have gs:(L.length:Int)<2:=by omega
     have hno:Z7 h 6 q2 L=none:=by
      by_cases h0:L.length=0
      ·rw[List.length_eq_zero_iff.1 h0];exact Xw h 6 q2 (by decide) (by decide)
      ·obtain⟨M,a,rfl⟩:=Xh (L:=L) (by omega)
       have e:M=[]:=List.length_eq_zero_iff.1 (by simp at hs;omega)
       subst e
       exact U0 h 6 q2 a (by decide)
     have HNO:=Zb hno
     clear hno
     go_wp2_with (first|(at_lookup;refine wpList_lookup_own_int _ rfl _ _ 86 rfl 3 3 .i64 Vq Tryz.underlying86 Tryz.underlying3 (Xd _) bm 11 _ rfl (Za STA).map _ _ rfl (keyOf_int_mk Tryz.underlying3 (by decide)) ?_;intro c hat _;obtain rfl:c=2:=(Zv (by decide) (by decide) hat).trans (by decide);clear hat)|go_in)
     go_ret2
     rw[Zn hlk (Za HQ) (Za HRL) (Za HNO)]
     exact⟨none,0,rfl,RowAt.nil _ _,(Za STA).bel,fun _=>rfl⟩
    ·obtain⟨M,a,d,rfl⟩:=U2 (L:=L) (by omega)
     have ca:(wr.alloc (.cells #[.int .i64 6,.int .i64 q2] 122)).cell? ⟨g,M.length,none⟩=some (.int .i64 a):=by have:=(Za STA).cell M.length (by simp);simpa using this
     have cd:(wr.alloc (.cells #[.int .i64 6,.int .i64 q2] 122)).cell? ⟨g,M.length+1,none⟩=some (.int .i64 d):=by have:=(Za STA).cell (M.length+1) (by simp);simpa using this
     have STM:=Zb (Za STA).cut
     have fa:=(Z0 a).1 ((Za HL2) a (by simp))
     have fd:=(Z0 d).1 ((Za HL2) d (by simp))
     have hlen1:(M++[a,d]).length=M.length+2:=by simp
     rw[hlen1] at hL1 hc1 ⊢
     clear hs hlen1
     have STP:=Zb (fun n:Nat=>((Za STM).drewN n).keep (Xu _ (.cells #[.int .i64 (a - d)] 3)))
     go_wp2_with (first|(at_lookup;refine wpList_lookup_own_int _ rfl _ _ 86 rfl 3 3 .i64 Vq Tryz.underlying86 Tryz.underlying3 (Xd _) bm 11 _ rfl (Za STA).map _ _ rfl (keyOf_int_mk Tryz.underlying3 (by decide)) ?_;intro c hat _;obtain rfl:c=2:=(Zv (by decide) (by decide) hat).trans (by decide);clear hat)|go_in)
     go_quiet (fail)
     go_wp2_with (first|(go_at_call 177;refine (Sd _ _).mono ?_;rintro e w' ⟨rfl,rfl⟩)|go_in)
     have SS:=Zb (Zbl h q2 M a d)
     by_cases hm:(M).length=16
     ·have gm:(16:Int)≤((M).length:Int):=by omega
      refine wp_loop_rounds 1 ?_
      rw[rounds_succ]
      go_wp2
      go_ret2
      rw[Zn hlk (Za HQ) (Za HRL) ((Za SS).trans (Y2 hm))]
      exact⟨none,0,rfl,RowAt.nil _ _,((Za STP) _).bel,fun _=>rfl⟩
     ·have gm:¬(16:Int)≤((M).length:Int):=by omega
      have gm2:(M).length<16:=by omega
      clear hm
      cases hx:fit (a - d) with
      | false=>
       have HX:=Zb hx
       clear hx
       refine wp_loop_rounds 1 ?_
       rw[rounds_succ]
       go_wp2_with (go_at_call 178;refine (Ye (a - d) false _ (Za HX).symm).mono ?_;rintro e w' ⟨rfl,rfl⟩)
       go_ret2
       rw[Zn hlk (Za HQ) (Za HRL) ((Za SS).trans (Y7 (Za HX)))]
       exact⟨none,0,rfl,RowAt.nil _ _,((Za STP) _).bel,fun _=>rfl⟩
      | true=>
       have HX:=Zb hx
       clear hx
       refine wp_loop_rounds 2 ?_
       rw[rounds_succ]
       go_wp2_with (first|(go_at_call 178;refine (Ye (a - d) true _ (Za HX).symm).mono ?_;rintro e w' ⟨rfl,rfl⟩)|(at_builtin;refine Zr (x:=(a - d)) rfl _ _ rfl w bm _ (M) rfl (by omega) ((Za STP) _) _ (by simp) rfl ?_;intro v3 w3 st3 _;have ST3:=Zb st3;clear st3))
       rw[rounds_succ]
       go_wp2
       go_roundw
       case rel=>exact⟨k+1,(M)++[(a - d)],by omega,by go_num,(Yr hlk (Za HQ) (Za HRL)).trans ((Za SS).trans (Xg gm2 (Za HX))),Za ST3⟩
       case measure=>simp[intOf];omega
   ·by_cases hs:L.length<2
    ·have gs:(L.length:Int)<2:=by omega
     have hno:Z7 h 7 q2 L=none:=by
      by_cases h0:L.length=0
      ·rw[List.length_eq_zero_iff.1 h0];exact Xw h 7 q2 (by decide) (by decide)
      ·obtain⟨M,a,rfl⟩:=Xh (L:=L) (by omega)
       have e:M=[]:=List.length_eq_zero_iff.1 (by simp at hs;omega)
       subst e
       exact U0 h 7 q2 a (by decide)
     have HNO:=Zb hno
     clear hno
     go_wp2_with (first|(at_lookup;refine wpList_lookup_own_int _ rfl _ _ 86 rfl 3 3 .i64 Vq Tryz.underlying86 Tryz.underlying3 (Xd _) bm 11 _ rfl (Za STA).map _ _ rfl (keyOf_int_mk Tryz.underlying3 (by decide)) ?_;intro c hat _;obtain rfl:c=2:=(Zv (by decide) (by decide) hat).trans (by decide);clear hat)|go_in)
     go_ret2
     rw[Zn hlk (Za HQ) (Za HRL) (Za HNO)]
     exact⟨none,0,rfl,RowAt.nil _ _,(Za STA).bel,fun _=>rfl⟩
    ·obtain⟨M,a,d,rfl⟩:=U2 (L:=L) (by omega)
     have ca:(wr.alloc (.cells #[.int .i64 7,.int .i64 q2] 122)).cell? ⟨g,M.length,none⟩=some (.int .i64 a):=by have:=(Za STA).cell M.length (by simp);simpa using this
     have cd:(wr.alloc (.cells #[.int .i64 7,.int .i64 q2] 122)).cell? ⟨g,M.length+1,none⟩=some (.int .i64 d):=by have:=(Za STA).cell (M.length+1) (by simp);simpa using this
     have STM:=Zb (Za STA).cut
     have fa:=(Z0 a).1 ((Za HL2) a (by simp))
     have fd:=(Z0 d).1 ((Za HL2) d (by simp))
     have hlen1:(M++[a,d]).length=M.length+2:=by simp
     rw[hlen1] at hL1 hc1 ⊢
     clear hs hlen1
     have STP:=Zb (fun n:Nat=>((Za STM).drewN n).keep (Xu _ (.cells #[.int .i64 (b01 (a == d))] 3)))
     go_wp2_with (first|(at_lookup;refine wpList_lookup_own_int _ rfl _ _ 86 rfl 3 3 .i64 Vq Tryz.underlying86 Tryz.underlying3 (Xd _) bm 11 _ rfl (Za STA).map _ _ rfl (keyOf_int_mk Tryz.underlying3 (by decide)) ?_;intro c hat _;obtain rfl:c=2:=(Zv (by decide) (by decide) hat).trans (by decide);clear hat)|go_in)
     go_quiet (fail)
     go_wp2_with (first|(go_at_call 177;refine (Sd _ _).mono ?_;rintro e w' ⟨rfl,rfl⟩)|go_in)
     have SS:=Zb (C8 h q2 M a d)
     by_cases hm:(M).length=16
     ·have gm:(16:Int)≤((M).length:Int):=by omega
      refine wp_loop_rounds 1 ?_
      rw[rounds_succ]
      go_wp2
      go_ret2
      rw[Zn hlk (Za HQ) (Za HRL) ((Za SS).trans (Y2 hm))]
      exact⟨none,0,rfl,RowAt.nil _ _,((Za STP) _).bel,fun _=>rfl⟩
     ·have gm:¬(16:Int)≤((M).length:Int):=by omega
      have gm2:(M).length<16:=by omega
      clear hm
      cases hx:fit (b01 (a == d)) with
      | false=>
       have HX:=Zb hx
       clear hx
       refine wp_loop_rounds 1 ?_
       rw[rounds_succ]
       go_wp2_with (go_at_call 178;refine (Ye (b01 (a == d)) false _ (Za HX).symm).mono ?_;rintro e w' ⟨rfl,rfl⟩)
       go_ret2
       rw[Zn hlk (Za HQ) (Za HRL) ((Za SS).trans (Y7 (Za HX)))]
       exact⟨none,0,rfl,RowAt.nil _ _,((Za STP) _).bel,fun _=>rfl⟩
      | true=>
       have HX:=Zb hx
       clear hx
       refine wp_loop_rounds 2 ?_
       rw[rounds_succ]
       go_wp2_with (first|(go_at_call 178;refine (Ye (b01 (a == d)) true _ (Za HX).symm).mono ?_;rintro e w' ⟨rfl,rfl⟩)|(at_builtin;refine Zr (x:=(b01 (a == d))) rfl _ _ rfl w bm _ (M) rfl (by omega) ((Za STP) _) _ (by simp) rfl ?_;intro v3 w3 st3 _;have ST3:=Zb st3;clear st3))
       rw[rounds_succ]
       go_wp2
       go_roundw
       case rel=>exact⟨k+1,(M)++[(b01 (a == d))],by omega,by go_num,(Yr hlk (Za HQ) (Za HRL)).trans ((Za SS).trans (Xg gm2 (Za HX))),Za ST3⟩
       case measure=>simp[intOf];omega
   ·by_cases hs:L.length<2
    ·have gs:(L.length:Int)<2:=by omega
     have hno:Z7 h 8 q2 L=none:=by
      by_cases h0:L.length=0
      ·rw[List.length_eq_zero_iff.1 h0];exact Xw h 8 q2 (by decide) (by decide)
      ·obtain⟨M,a,rfl⟩:=Xh (L:=L) (by omega)
       have e:M=[]:=List.length_eq_zero_iff.1 (by simp at hs;omega)
       subst e
       exact U0 h 8 q2 a (by decide)
     have HNO:=Zb hno
     clear hno
     go_wp2_with (first|(at_lookup;refine wpList_lookup_own_int _ rfl _ _ 86 rfl 3 3 .i64 Vq Tryz.underlying86 Tryz.underlying3 (Xd _) bm 11 _ rfl (Za STA).map _ _ rfl (keyOf_int_mk Tryz.underlying3 (by decide)) ?_;intro c hat _;obtain rfl:c=2:=(Zv (by decide) (by decide) hat).trans (by decide);clear hat)|go_in)
     go_ret2
     rw[Zn hlk (Za HQ) (Za HRL) (Za HNO)]
     exact⟨none,0,rfl,RowAt.nil _ _,(Za STA).bel,fun _=>rfl⟩
    ·obtain⟨M,a,d,rfl⟩:=U2 (L:=L) (by omega)
     have ca:(wr.alloc (.cells #[.int .i64 8,.int .i64 q2] 122)).cell? ⟨g,M.length,none⟩=some (.int .i64 a):=by have:=(Za STA).cell M.length (by simp);simpa using this
     have cd:(wr.alloc (.cells #[.int .i64 8,.int .i64 q2] 122)).cell? ⟨g,M.length+1,none⟩=some (.int .i64 d):=by have:=(Za STA).cell (M.length+1) (by simp);simpa using this
     have STM:=Zb (Za STA).cut
     have fa:=(Z0 a).1 ((Za HL2) a (by simp))
     have fd:=(Z0 d).1 ((Za HL2) d (by simp))
     have hlen1:(M++[a,d]).length=M.length+2:=by simp
     rw[hlen1] at hL1 hc1 ⊢
     clear hs hlen1
     have STP:=Zb (fun n:Nat=>((Za STM).drewN n).keep (Xu _ (.cells #[.int .i64 (b01 (decide (a<d)))] 3)))
     go_wp2_with (first|(at_lookup;refine wpList_lookup_own_int _ rfl _ _ 86 rfl 3 3 .i64 Vq Tryz.underlying86 Tryz.underlying3 (Xd _) bm 11 _ rfl (Za STA).map _ _ rfl (keyOf_int_mk Tryz.underlying3 (by decide)) ?_;intro c hat _;obtain rfl:c=2:=(Zv (by decide) (by decide) hat).trans (by decide);clear hat)|go_in)
     go_quiet (fail)
     go_wp2_with (first|(go_at_call 177;refine (Sd _ _).mono ?_;rintro e w' ⟨rfl,rfl⟩)|go_in)
     have SS:=Zb (Ea h q2 M a d)
     by_cases hm:(M).length=16
     ·have gm:(16:Int)≤((M).length:Int):=by omega
      refine wp_loop_rounds 1 ?_
      rw[rounds_succ]
      go_wp2
      go_ret2
      rw[Zn hlk (Za HQ) (Za HRL) ((Za SS).trans (Y2 hm))]
      exact⟨none,0,rfl,RowAt.nil _ _,((Za STP) _).bel,fun _=>rfl⟩
     ·have gm:¬(16:Int)≤((M).length:Int):=by omega
      have gm2:(M).length<16:=by omega
      clear hm
      cases hx:fit (b01 (decide (a<d))) with
      | false=>
       have HX:=Zb hx
       clear hx
       refine wp_loop_rounds 1 ?_
       rw[rounds_succ]
       go_wp2_with (go_at_call 178;refine (Ye (b01 (decide (a<d))) false _ (Za HX).symm).mono ?_;rintro e w' ⟨rfl,rfl⟩)
       go_ret2
       rw[Zn hlk (Za HQ) (Za HRL) ((Za SS).trans (Y7 (Za HX)))]
       exact⟨none,0,rfl,RowAt.nil _ _,((Za STP) _).bel,fun _=>rfl⟩
      | true=>
       have HX:=Zb hx
       clear hx
       refine wp_loop_rounds 2 ?_
       rw[rounds_succ]
       go_wp2_with (first|(go_at_call 178;refine (Ye (b01 (decide (a<d))) true _ (Za HX).symm).mono ?_;rintro e w' ⟨rfl,rfl⟩)|(at_builtin;refine Zr (x:=(b01 (decide (a<d)))) rfl _ _ rfl w bm _ (M) rfl (by omega) ((Za STP) _) _ (by simp) rfl ?_;intro v3 w3 st3 _;have ST3:=Zb st3;clear st3))
       rw[rounds_succ]
       go_wp2
       go_roundw
       case rel=>exact⟨k+1,(M)++[(b01 (decide (a<d)))],by omega,by go_num,(Yr hlk (Za HQ) (Za HRL)).trans ((Za SS).trans (Xg gm2 (Za HX))),Za ST3⟩
       case measure=>simp[intOf];omega
   ·by_cases hs:L.length=0
    ·have e:L=[]:=List.length_eq_zero_iff.1 hs
     rw[hs]
     go_wp2_with (first|(at_lookup;refine wpList_lookup_own_int _ rfl _ _ 86 rfl 3 3 .i64 Vq Tryz.underlying86 Tryz.underlying3 (Xd _) bm 11 _ rfl (Za STA).map _ _ rfl (keyOf_int_mk Tryz.underlying3 (by decide)) ?_;intro c hat _;obtain rfl:c=1:=(Zv (by decide) (by decide) hat).trans (by decide);clear hat)|go_in)
     go_ret2
     rw[Zn hlk (Za HQ) (Za HRL) (by rw[e];exact Xw h 9 q2 (by decide) (by decide))]
     exact⟨none,0,rfl,RowAt.nil _ _,(Za STA).bel,fun _=>rfl⟩
    ·obtain⟨M,a,rfl⟩:=Xh (L:=L) (by omega)
     have ca:(wr.alloc (.cells #[.int .i64 9,.int .i64 q2] 122)).cell? ⟨g,M.length,none⟩=some (.int .i64 a):=by have:=(Za STA).cell M.length (by simp);simpa using this
     have STM:=Zb (Za STA).cut
     have fa:=(Z0 a).1 ((Za HL2) a (by simp))
     have hlen1:(M++[a]).length=M.length+1:=by simp
     rw[hlen1] at hL1 hc1 ⊢
     clear hs hlen1
     have STP:=Zb ((Za STM).keep (Xu _ (.cells #[.int .i64 (b01 (a == 0))] 3)))
     go_wp2_with (first|(at_lookup;refine wpList_lookup_own_int _ rfl _ _ 86 rfl 3 3 .i64 Vq Tryz.underlying86 Tryz.underlying3 (Xd _) bm 11 _ rfl (Za STA).map _ _ rfl (keyOf_int_mk Tryz.underlying3 (by decide)) ?_;intro c hat _;obtain rfl:c=1:=(Zv (by decide) (by decide) hat).trans (by decide);clear hat)|(go_at_call 177;refine (Sd _ _).mono ?_;rintro e w' ⟨rfl,rfl⟩)|go_in)
     have SS:=Zb (Zbm h q2 M a)
     by_cases hm:(M).length=16
     ·have gm:(16:Int)≤((M).length:Int):=by omega
      refine wp_loop_rounds 1 ?_
      rw[rounds_succ]
      go_wp2
      go_ret2
      rw[Zn hlk (Za HQ) (Za HRL) ((Za SS).trans (Y2 hm))]
      exact⟨none,0,rfl,RowAt.nil _ _,(Za STP).bel,fun _=>rfl⟩
     ·have gm:¬(16:Int)≤((M).length:Int):=by omega
      have gm2:(M).length<16:=by omega
      clear hm
      cases hx:fit (b01 (a == 0)) with
      | false=>
       have HX:=Zb hx
       clear hx
       refine wp_loop_rounds 1 ?_
       rw[rounds_succ]
       go_wp2_with (go_at_call 178;refine (Ye (b01 (a == 0)) false _ (Za HX).symm).mono ?_;rintro e w' ⟨rfl,rfl⟩)
       go_ret2
       rw[Zn hlk (Za HQ) (Za HRL) ((Za SS).trans (Y7 (Za HX)))]
       exact⟨none,0,rfl,RowAt.nil _ _,(Za STP).bel,fun _=>rfl⟩
      | true=>
       have HX:=Zb hx
       clear hx
       refine wp_loop_rounds 2 ?_
       rw[rounds_succ]
       go_wp2_with (first|(go_at_call 178;refine (Ye (b01 (a == 0)) true _ (Za HX).symm).mono ?_;rintro e w' ⟨rfl,rfl⟩)|(at_builtin;refine Zr (x:=(b01 (a == 0))) rfl _ _ rfl w bm _ (M) rfl (by omega) (Za STP) _ (by simp) rfl ?_;intro v3 w3 st3 _;have ST3:=Zb st3;clear st3))
       rw[rounds_succ]
       go_wp2
       go_roundw
       case rel=>exact⟨k+1,(M)++[(b01 (a == 0))],by omega,by go_num,(Yr hlk (Za HQ) (Za HRL)).trans ((Za SS).trans (Xg gm2 (Za HX))),Za ST3⟩
       case measure=>simp[intOf];omega
   ·by_cases hs:L.length<2
    ·have gs:(L.length:Int)<2:=by omega
     have hno:Z7 h 10 q2 L=none:=by
      by_cases h0:L.length=0
      ·rw[List.length_eq_zero_iff.1 h0];exact Xw h 10 q2 (by decide) (by decide)
      ·obtain⟨M,a,rfl⟩:=Xh (L:=L) (by omega)
       have e:M=[]:=List.length_eq_zero_iff.1 (by simp at hs;omega)
       subst e
       exact U0 h 10 q2 a (by decide)
     have HNO:=Zb hno
     clear hno
     go_wp2_with (first|(at_lookup;refine wpList_lookup_own_int _ rfl _ _ 86 rfl 3 3 .i64 Vq Tryz.underlying86 Tryz.underlying3 (Xd _) bm 11 _ rfl (Za STA).map _ _ rfl (keyOf_int_mk Tryz.underlying3 (by decide)) ?_;intro c hat _;obtain rfl:c=2:=(Zv (by decide) (by decide) hat).trans (by decide);clear hat)|go_in)
     go_ret2
     rw[Zn hlk (Za HQ) (Za HRL) (Za HNO)]
     exact⟨none,0,rfl,RowAt.nil _ _,(Za STA).bel,fun _=>rfl⟩
    ·obtain⟨M,a,d,rfl⟩:=U2 (L:=L) (by omega)
     have ca:(wr.alloc (.cells #[.int .i64 10,.int .i64 q2] 122)).cell? ⟨g,M.length,none⟩=some (.int .i64 a):=by have:=(Za STA).cell M.length (by simp);simpa using this
     have cd:(wr.alloc (.cells #[.int .i64 10,.int .i64 q2] 122)).cell? ⟨g,M.length+1,none⟩=some (.int .i64 d):=by have:=(Za STA).cell (M.length+1) (by simp);simpa using this
     have STM:=Zb (Za STA).cut
     have fa:=(Z0 a).1 ((Za HL2) a (by simp))
     have fd:=(Z0 d).1 ((Za HL2) d (by simp))
     have hlen1:(M++[a,d]).length=M.length+2:=by simp
     rw[hlen1] at hL1 hc1 ⊢
     clear hs hlen1
     have STP:=Zb (fun n:Nat=>((Za STM).drewN n).keep (Xu _ (.cells #[.int .i64 (b01 (a*d != 0))] 3)))
     go_wp2_with (first|(at_lookup;refine wpList_lookup_own_int _ rfl _ _ 86 rfl 3 3 .i64 Vq Tryz.underlying86 Tryz.underlying3 (Xd _) bm 11 _ rfl (Za STA).map _ _ rfl (keyOf_int_mk Tryz.underlying3 (by decide)) ?_;intro c hat _;obtain rfl:c=2:=(Zv (by decide) (by decide) hat).trans (by decide);clear hat)|go_in)
     go_quiet (fail)
     have hm1:=Zhl fa fd
     go_wp2_with (first|(go_at_call 177;refine (Sd _ _).mono ?_;rintro e w' ⟨rfl,rfl⟩)|go_in)
     have SS:=Zb (show Z7 h 10 q2 (M++[a,d])=Yc M [b01 (a*d != 0)] from (Zbp h q2 M a d).trans (by rw[Zhk]))
     by_cases hm:(M).length=16
     ·have gm:(16:Int)≤((M).length:Int):=by omega
      refine wp_loop_rounds 1 ?_
      rw[rounds_succ]
      go_wp2
      go_ret2
      rw[Zn hlk (Za HQ) (Za HRL) ((Za SS).trans (Y2 hm))]
      exact⟨none,0,rfl,RowAt.nil _ _,((Za STP) _).bel,fun _=>rfl⟩
     ·have gm:¬(16:Int)≤((M).length:Int):=by omega
      have gm2:(M).length<16:=by omega
      clear hm
      cases hx:fit (b01 (a*d != 0)) with
      | false=>
       have HX:=Zb hx
       clear hx
       refine wp_loop_rounds 1 ?_
       rw[rounds_succ]
       go_wp2_with (go_at_call 178;refine (Ye (b01 (a*d != 0)) false _ (Za HX).symm).mono ?_;rintro e w' ⟨rfl,rfl⟩)
       go_ret2
       rw[Zn hlk (Za HQ) (Za HRL) ((Za SS).trans (Y7 (Za HX)))]
       exact⟨none,0,rfl,RowAt.nil _ _,((Za STP) _).bel,fun _=>rfl⟩
      | true=>
       have HX:=Zb hx
       clear hx
       refine wp_loop_rounds 2 ?_
       rw[rounds_succ]
       go_wp2_with (first|(go_at_call 178;refine (Ye (b01 (a*d != 0)) true _ (Za HX).symm).mono ?_;rintro e w' ⟨rfl,rfl⟩)|(at_builtin;refine Zr (x:=(b01 (a*d != 0))) rfl _ _ rfl w bm _ (M) rfl (by omega) ((Za STP) _) _ (by simp) rfl ?_;intro v3 w3 st3 _;have ST3:=Zb st3;clear st3))
       rw[rounds_succ]
       go_wp2
       go_roundw
       case rel=>exact⟨k+1,(M)++[(b01 (a*d != 0))],by omega,by go_num,(Yr hlk (Za HQ) (Za HRL)).trans ((Za SS).trans (Xg gm2 (Za HX))),Za ST3⟩
       case measure=>simp[intOf];omega
   ·by_cases hs:L.length=0
    ·have e:L=[]:=List.length_eq_zero_iff.1 hs
     rw[hs]
     go_wp2_with (first|(at_lookup;refine wpList_lookup_own_int _ rfl _ _ 86 rfl 3 3 .i64 Vq Tryz.underlying86 Tryz.underlying3 (Xd _) bm 11 _ rfl (Za STA).map _ _ rfl (keyOf_int_mk Tryz.underlying3 (by decide)) ?_;intro c hat _;obtain rfl:c=1:=(Zv (by decide) (by decide) hat).trans (by decide);clear hat)|go_in)
     go_ret2
     rw[Zn hlk (Za HQ) (Za HRL) (by rw[e];exact Xw h 11 q2 (by decide) (by decide))]
     exact⟨none,0,rfl,RowAt.nil _ _,(Za STA).bel,fun _=>rfl⟩
    ·obtain⟨M,a,rfl⟩:=Xh (L:=L) (by omega)
     have ca:(wr.alloc (.cells #[.int .i64 11,.int .i64 q2] 122)).cell? ⟨g,M.length,none⟩=some (.int .i64 a):=by have:=(Za STA).cell M.length (by simp);simpa using this
     have STM:=Zb (Za STA).cut
     have fa:=(Z0 a).1 ((Za HL2) a (by simp))
     have hlen1:(M++[a]).length=M.length+1:=by simp
     rw[hlen1] at hL1 hc1 ⊢
     clear hs hlen1
     by_cases h0:a=0
     ·subst h0
      go_wp2_with (first|(at_lookup;refine wpList_lookup_own_int _ rfl _ _ 86 rfl 3 3 .i64 Vq Tryz.underlying86 Tryz.underlying3 (Xd _) bm 11 _ rfl (Za STA).map _ _ rfl (keyOf_int_mk Tryz.underlying3 (by decide)) ?_;intro c hat _;obtain rfl:c=1:=(Zv (by decide) (by decide) hat).trans (by decide);clear hat)|go_in)
      go_ret2
      rw[Zn hlk (Za HQ) (Za HRL) ((So h q2 M 0).trans (if_pos rfl))]
      exact⟨none,0,rfl,RowAt.nil _ _,(Za STA).bel,fun _=>rfl⟩
     ·have h0b:(a == 0)=false:=by simp[h0]
      go_wp2_with (first|(at_lookup;refine wpList_lookup_own_int _ rfl _ _ 86 rfl 3 3 .i64 Vq Tryz.underlying86 Tryz.underlying3 (Xd _) bm 11 _ rfl (Za STA).map _ _ rfl (keyOf_int_mk Tryz.underlying3 (by decide)) ?_;intro c hat _;obtain rfl:c=1:=(Zv (by decide) (by decide) hat).trans (by decide);clear hat)|go_in)
      refine wp_loop_rounds 1 ?_
      rw[rounds_succ]
      go_wp2
      go_roundw
      case rel=>exact⟨k+1,M,by omega,by go_num,(Yr hlk (Za HQ) (Za HRL)).trans ((So h q2 M a).trans (if_neg h0)),Za STM⟩
      case measure=>simp[intOf];omega
   ·have STP:=Zb ((Za STA).keep (Xu _ (.cells #[.int .i64 h] 3)))
    go_wp2_with (first|(at_lookup;refine wpList_lookup_own_int _ rfl _ _ 86 rfl 3 3 .i64 Vq Tryz.underlying86 Tryz.underlying3 (Xd _) bm 11 _ rfl (Za STA).map _ _ rfl (keyOf_int_mk Tryz.underlying3 (by decide)) ?_;intro c hat _;obtain rfl:c=0:=(Zv (by decide) (by decide) hat).trans (by decide);clear hat)|go_in)
    have SS:=Zb (Nj h q2 L)
    by_cases hm:(L).length=16
    ·have gm:(16:Int)≤((L).length:Int):=by omega
     refine wp_loop_rounds 1 ?_
     rw[rounds_succ]
     go_wp2
     go_ret2
     rw[Zn hlk (Za HQ) (Za HRL) ((Za SS).trans (Y2 hm))]
     exact⟨none,0,rfl,RowAt.nil _ _,(Za STP).bel,fun _=>rfl⟩
    ·have gm:¬(16:Int)≤((L).length:Int):=by omega
     have gm2:(L).length<16:=by omega
     clear hm
     cases hx:fit h with
     | false=>
      have HX:=Zb hx
      clear hx
      refine wp_loop_rounds 1 ?_
      rw[rounds_succ]
      go_wp2_with (go_at_call 178;refine (Ye h false _ (Za HX).symm).mono ?_;rintro e w' ⟨rfl,rfl⟩)
      go_ret2
      rw[Zn hlk (Za HQ) (Za HRL) ((Za SS).trans (Y7 (Za HX)))]
      exact⟨none,0,rfl,RowAt.nil _ _,(Za STP).bel,fun _=>rfl⟩
     | true=>
      have HX:=Zb hx
      clear hx
      refine wp_loop_rounds 2 ?_
      rw[rounds_succ]
      go_wp2_with (first|(go_at_call 178;refine (Ye h true _ (Za HX).symm).mono ?_;rintro e w' ⟨rfl,rfl⟩)|(at_builtin;refine Zr (x:=h) rfl _ _ rfl w bm _ (L) rfl (by omega) (Za STP) _ (by simp) rfl ?_;intro v3 w3 st3 _;have ST3:=Zb st3;clear st3))
      rw[rounds_succ]
      go_wp2
      go_roundw
      case rel=>exact⟨k+1,(L)++[h],by omega,by go_num,(Yr hlk (Za HQ) (Za HRL)).trans ((Za SS).trans (Xg gm2 (Za HX))),Za ST3⟩
      case measure=>simp[intOf];omega
   ·by_cases hs:L.length=0
    ·have e:L=[]:=List.length_eq_zero_iff.1 hs
     rw[hs]
     go_wp2_with (first|(at_lookup;refine wpList_lookup_own_int _ rfl _ _ 86 rfl 3 3 .i64 Vq Tryz.underlying86 Tryz.underlying3 (Xd _) bm 11 _ rfl (Za STA).map _ _ rfl (keyOf_int_mk Tryz.underlying3 (by decide)) ?_;intro c hat _;obtain rfl:c=1:=(Zv (by decide) (by decide) hat).trans (by decide);clear hat)|go_in)
     go_ret2
     rw[Zn hlk (Za HQ) (Za HRL) (by rw[e];exact Xw h 13 q2 (by decide) (by decide))]
     exact⟨none,0,rfl,RowAt.nil _ _,(Za STA).bel,fun _=>rfl⟩
    ·obtain⟨M,a,rfl⟩:=Xh (L:=L) (by omega)
     have ca:(wr.alloc (.cells #[.int .i64 13,.int .i64 q2] 122)).cell? ⟨g,M.length,none⟩=some (.int .i64 a):=by have:=(Za STA).cell M.length (by simp);simpa using this
     have STM:=Zb (Za STA).cut
     have fa:=(Z0 a).1 ((Za HL2) a (by simp))
     have hlen1:(M++[a]).length=M.length+1:=by simp
     rw[hlen1] at hL1 hc1 ⊢
     clear hs hlen1
     have hbd:=Zb (Ce a ((Za HL2) a (by simp)))
     go_wp2_with (first|(at_lookup;refine wpList_lookup_own_int _ rfl _ _ 86 rfl 3 3 .i64 Vq Tryz.underlying86 Tryz.underlying3 (Xd _) bm 11 _ rfl (Za STA).map _ _ rfl (keyOf_int_mk Tryz.underlying3 (by decide)) ?_;intro c hat _;obtain rfl:c=1:=(Zv (by decide) (by decide) hat).trans (by decide);clear hat)|go_in)
     go_loop [16,135] (fun r i=>∃ j:Nat,j≤3∧i = .int .i64 j∧r = .int .i64 (Pw a j)) (fun _ i=>3 - (intOf i).toNat)
     case atStart=>exact⟨0,Nat.zero_le _,rfl,rfl⟩
     case round=>
      obtain⟨j,hj,rfl,rfl⟩:=hrel
      obtain⟨b1,b2⟩:=(Za hbd) j
      obtain⟨m,hm⟩:∃ m,m=Pw a j:=⟨_,rfl⟩
      rw[←hm] at b1 b2 ⊢
      have HM:=Zb hm
      clear hm
      by_cases hj3:j<3
      ·go_wp2
       go_round
       case rel=>
        refine⟨j+1,by omega,by go_num,?_⟩
        have:=Za HM
        simp only[Pw,←this,Int.mul_comm m 7919]
       case measure=>simp[intOf];omega
      ·have hj4:j=3:=by omega
       have STP:=Zb ((Za STM).keep (Xu _ (.cells #[.int .i64 (m % 1000001)] 3)))
       have hmo:Do a=m % 1000001:=by unfold Do;rw[Za HM,hj4]
       have HMM:=Zb hmo
       clear hj4 hmo
       go_wp2
       have SS:=Zb (show Z7 h 13 q2 (M++[a])=Yc M [m % 1000001] from (Zbn h q2 M a).trans (by rw[Za HMM]))
       by_cases hm:(M).length=16
       ·have gm:(16:Int)≤((M).length:Int):=by omega
        refine wp_loop_rounds 1 ?_
        rw[rounds_succ]
        go_wp2
        go_ret2
        rw[Zn hlk (Za HQ) (Za HRL) ((Za SS).trans (Y2 hm))]
        exact⟨none,0,rfl,RowAt.nil _ _,(Za STP).bel,fun _=>rfl⟩
       ·have gm:¬(16:Int)≤((M).length:Int):=by omega
        have gm2:(M).length<16:=by omega
        clear hm
        cases hx:fit (m % 1000001) with
        | false=>
         have HX:=Zb hx
         clear hx
         refine wp_loop_rounds 1 ?_
         rw[rounds_succ]
         go_wp2_with (go_at_call 178;refine (Ye (m % 1000001) false _ (Za HX).symm).mono ?_;rintro e w' ⟨rfl,rfl⟩)
         go_ret2
         rw[Zn hlk (Za HQ) (Za HRL) ((Za SS).trans (Y7 (Za HX)))]
         exact⟨none,0,rfl,RowAt.nil _ _,(Za STP).bel,fun _=>rfl⟩
        | true=>
         have HX:=Zb hx
         clear hx
         refine wp_loop_rounds 2 ?_
         rw[rounds_succ]
         go_wp2_with (first|(go_at_call 178;refine (Ye (m % 1000001) true _ (Za HX).symm).mono ?_;rintro e w' ⟨rfl,rfl⟩)|(at_builtin;refine Zr (x:=(m % 1000001)) rfl _ _ rfl w bm _ (M) rfl (by omega) (Za STP) _ (by simp) rfl ?_;intro v3 w3 st3 _;have ST3:=Zb st3;clear st3))
         rw[rounds_succ]
         go_wp2
         go_roundw
         case rel=>exact⟨k+1,(M)++[(m % 1000001)],by omega,by go_num,(Yr hlk (Za HQ) (Za HRL)).trans ((Za SS).trans (Xg gm2 (Za HX))),Za ST3⟩
         case measure=>simp[intOf];omega
  ·have e:k=len:=by omega
   subst e
   clear hlt
   go_wp2
   go_ret2
   have h1:=Za HRL
   rw[←Za HZ,List.take_length] at h1
   rw[h1]
   obtain⟨a',cap',hv,hra,hca⟩:=(Za HST).rowAt
   simp only[Option.getD_some,Option.isSome_some]
   exact⟨_,_,rfl,(by cases hv;exact hra),(Za HST).bel,(by cases hv;exact hca)⟩
end Go.Proofs.YtpikejjiignchaaGreatDoor
