/- RunOps: orders on a stack. -/
import Derived.Test.YtepmnpapdknocaaGreatDoorRefFeeToRefRunA
namespace Go.Proofs.YtepmnpapdknocaaGreatDoor
open Go.RowKit Go.Maps
theorem Zo{k c:Int}(h1:1≤k)(h2:k≤13)(hat:TakesD.atKey (.int .i64 k) (.lit (.int .i64 0)) = .lit (.int .i64 c)):c=Cp k:=by
 rw[Zbr k h1 h2] at hat
 cases hat
 rfl
theorem Zaf{k n:Int}(h:Yw (k,n)=0):(k=1∨k=2∨k=3∨k=4∨k=5∨k=6∨k=7∨k=8∨k=9∨k=10∨k=11∨k=12∨k=13)∧-1000000≤n∧n≤1000000:=by
 simp only[Yw] at h
 split at h
 ·cases h
 ·split at h
  ·cases h
  ·rename_i h1 h2
   simp only[not_or,Bool.not_eq_false] at h2
   have:=(Zu n).1 h2.2
   omega
theorem Yk{h:Int}{l:List (Int×Int)}{Z L:List Int}{k:Nat}{q:Int×Int}(hk:k<l.length)(hq:q=l[k])(hr:Yo h (l.take k) Z=some L):Yo h (l.take (k+1)) Z=Zz h q.1 q.2 L:=by
 rw[List.take_succ_eq_append_getElem hk,Vn,hr,←hq]
 simp only[Option.bind,Yo]
 cases Zz h q.1 q.2 L <;> rfl
theorem Zg{h:Int}{l:List (Int×Int)}{Z L:List Int}{k:Nat}{q:Int×Int}(hk:k<l.length)(hq:q=l[k])(hr:Yo h (l.take k) Z=some L)(hs:Zz h q.1 q.2 L=none):Yo h l Z=none:=by
 rw[←List.take_append_drop (k+1) l,Vn,Yk hk hq hr,hs];rfl
theorem Zhl(a d:Int):(a*d != 0)=(a != 0 && d != 0):=by
 by_cases h1:a=0
 ·simp[h1]
 ·by_cases h2:d=0
  ·simp[h2]
  ·have h3:a*d≠0:=Int.mul_ne_zero h1 h2
   rw[bne_iff_ne.2 h3,bne_iff_ne.2 h1,bne_iff_ne.2 h2];rfl
theorem Zhm{a d:Int}(ha : -1000000≤a∧a≤1000000)(hd : -1000000≤d∧d≤1000000) : -1000000000000≤a*d∧a*d≤1000000000000:=by
 have h1:=Int.mul_nonneg (show 0≤1000000 - a by omega) (show 0≤1000000+d by omega)
 have h2:=Int.mul_nonneg (show 0≤1000000+a by omega) (show 0≤1000000 - d by omega)
 have h3:=Int.mul_nonneg (show 0≤1000000 - a by omega) (show 0≤1000000 - d by omega)
 have h4:=Int.mul_nonneg (show 0≤1000000+a by omega) (show 0≤1000000+d by omega)
 simp only[Int.sub_mul,Int.add_mul,Int.mul_sub,Int.mul_add] at h1 h2 h3 h4
 omega
theorem Xp(w:World)(o:Obj):Below w.heap.size w (w.alloc o):=(Below.refl _ _).alloc (Nat.le_refl _) _
theorem Lg(w0:World)(x y:Value)(o:Obj)(ad:Nat)(had:ad=w0.heap.size):((w0.alloc (.cells #[x,y] 3)).alloc o).cell? ⟨ad,1,none⟩=some y:=by
 subst had
 rw[(Xp (w0.alloc (.cells #[x,y] 3)) o).cell (p:=⟨w0.heap.size,1,none⟩) (by simp),World.cell?_alloc_at _ _ _ _ rfl];rfl
theorem Zej(w:World)(x:Value)(t:TypeId)(j:Nat)(u:Value)(h:[x][j]? = some u):(w.alloc (.cells #[x] t)).cell? ((⟨w.heap.size,0,none⟩:Addr).add j)=some u:=by
 have hadd:(⟨w.heap.size,0,none⟩:Addr).add j=⟨w.heap.size,j,none⟩:=by unfold Addr.add;split <;> simp_all
 rw[hadd,World.cell?_alloc_at _ _ _ _ rfl]
 simpa using h
theorem St.lt{W:World}{bm g n cap:Nat}{L:List Int}{w:World}(h:St W bm (.slice (some ⟨g,0,none⟩) n cap) L w):g<w.heap.size:=by
 obtain⟨_,h0|⟨g',c,cur,hv,_,hh,_⟩⟩:=h.own
 ·exact absurd h0.1 (by simp)
 ·simp only[Value.slice.injEq,Option.some.injEq,Addr.mk.injEq] at hv
  obtain⟨⟨rfl,_⟩,_⟩:=hv
  exact lt_of_block hh
theorem St.drewN{W:World}{bm:Nat}{v:Value}{L:List Int}{w:World}(h:St W bm v L w)(n:Nat):St W bm v L (w.drewN n):=
 ⟨h.row,h.own,h.map,⟨h.bel.os,h.bel.tape,h.bel.output,h.bel.size,h.bel.block⟩⟩
theorem Zl{w0:World}{x:Int}{ops:Array Oper}{rest:List Oper}{o:Oper}{a:Act}{Q:Exit→Act→World→Prop}(hgd:o.guard=none)(s y:Operand)
  (ho:o.op = .call { callee:=.builtin .append,args:=#[s,y],argTypes:=#[30,30] }) (W:World) (bm:Nat) (v:Value) (L:List Int) (hs:a.eval s=v) (hL:L.length≤16)
  (hst:St W bm v L w0) (ad:Nat) (had:ad=w0.heap.size) (hx:a.eval y = .slice (some ⟨ad,0,none⟩) 1 1)
  (h:∀ v' w',St W bm v' (L++[x]) w'→(w0.alloc (.cells #[.int .i64 x] 3)).grownBy w' v.ownBlock→wpList Tryz.prog ops Q rest (a.put o.dst v') w') :
  wpList Tryz.prog ops Q (o :: rest) a (w0.alloc (.cells #[.int .i64 x] 3)):=by
 obtain⟨i0,hi,hz0,hz1,hz2⟩:=info_parts Tryz.info3
 subst had
 have hst1:=hst.keep (Xp w0 (.cells #[.int .i64 x] 3))
 refine wpList_append_own _ hgd s y 30 ho W.heap.size 3 i0 (.int .i64 0) 1 8 Tryz.underlying30 hi hz0 hz1 hz2 rfl (by decide) v L.length (L.map (Value.int .i64)) hs hst1.own ⟨w0.heap.size,0,none⟩ 1 1 [.int .i64 x] hx rfl (fun j u hj=>Zej w0 _ 3 j u hj) (fun u hu=>?_) (by unfold maxLen;omega) (by omega) hst1.bel.size fun v' w' h1 h2 h3=>h v' w' (hst1.app h1 h2 h3) h2
 simp only[List.mem_singleton] at hu
 subst hu
 rfl
set_option maxRecDepth 100000 in
set_option maxHeartbeats 8000000 in
theorem Db(b off len cap:Nat)(l:List (Int×Int))(az:Option Addr)(lens caps:Nat)(Z:List Int)(h:Int)(w:World)(h16:len≤16)(hck:Vd l=0)(hz:l.length=len)
  (hc:∀ i,i<len→w.cell? ⟨b,off+i*2,none⟩=some (.int .i64 (l.getD i (0,0)).1)∧w.cell? ⟨b,off+i*2+1,none⟩=some (.int .i64 (l.getD i (0,0)).2)) (hl:b<w.heap.size)
  (hR:RowAt w az lens Z) (hcz:az=none→caps=0) (hZ:Z0 Z=true) (hh:hOk h=true) :
  Calls Tryz.prog 122 #[.slice (some ⟨b,off,none⟩) len cap,.slice az lens caps,.int .i64 h] w fun e w'=>∃ a' cap',e = .returned (.tuple #[.slice a' ((Yo h l Z).getD []).length cap',.bool (Yo h l Z).isSome])∧RowAt w' a' ((Yo h l Z).getD []).length ((Yo h l Z).getD [])∧Below w.heap.size w w'∧(a'=none→cap'=0):=by
 have hlen:lens≤16:=by rw[←hR.1];exact (Q4 hZ).1
 have HH:=hide hh
 have HC:=hide hc
 have HZ:=hide hz
 have HK:=hide (Je hck)
 have HSZ:=hide hZ
 have HR:=hide hR
 have HCZ:=hide hcz
 clear hR hc hZ hh hz hck hcz
 have HB0:=hide ((Below.refl w.heap.size w).alloc (Nat.le_refl _) (.cells #[] 3))
 have HR0:=hide ((unhide HR).later (unhide HB0))
 have HO0:Hid ((w.alloc (.cells #[] 3)).ownsRow w.heap.size 3 1 (.slice (some ⟨w.heap.size,0,none⟩) 0 0) 0 []):=⟨rfl,.inr ⟨w.heap.size,0,#[],rfl,Nat.le_refl _,heap_alloc_new _ _,Nat.le_refl _,by decide,rfl,rfl⟩⟩
 have hmm:=@run_makeMap Tryz.prog
 go_enter Tryz.func122,Tryz.ntmps122
 go_wp2_with (first
  | (at_builtin;refine Uq rfl _ _ rfl w.heap.size _ _ _ rfl (unhide HO0) az lens caps Z rfl (unhide HCZ) (unhide HR0) (by omega) (unhide HB0).size ?_;intro v1 w1 ho1 hg1 hn1;have hst:=Lc (unhide HB0) (unhide HR).1 ho1 hg1 hn1;clear ho1 hg1 hn1)
  | (refine Up _ rfl _ _ _ rfl _ _ _ _ _ _ hst rfl (by omega) _ _ rfl rfl (by decide) (by decide) ?_;intro w2 hst2;clear hst;have hst:=hst2;clear hst2))
 have HST0:=hide (Pro.st hst)
 obtain⟨bm,hbm⟩:∃ bm,bm=w1.heap.size:=⟨_,rfl⟩
 rw[←hbm] at HST0 ⊢
 clear hst hmm hbm HR0 HO0 HB0 HR HCZ
 go_loopw [1,26] (fun v i wr=>∃ (k:Nat) (L:List Int),k≤len∧i = .int .i64 k∧Yo h (l.take k) Z=some L∧St w bm v L wr) (fun _ i _=>len - (intOf i).toNat)
 case atStart=>exact⟨0,Z,Nat.zero_le _,rfl,rfl,unhide HST0⟩
 case round=>
  obtain⟨k,L,hk,rfl,hrl,hst⟩:=hrel
  clear HST0
  obtain⟨hL1,hL2⟩:=Q4 (Pq (unhide HSZ) hrl)
  have HL2:=hide hL2
  have HRL:=hide hrl
  have HST:=hide hst
  obtain⟨g,cp,rfl,hc1,hc2⟩:=hst.row
  unfold maxLen at hc2
  clear hL2 hrl
  by_cases hlt:k<len
  ·obtain⟨c1,c2⟩:=(unhide HC) k hlt
   rw[←hst.bel.cell (p:=⟨b,off+k*2,none⟩) hl] at c1
   rw[←hst.bel.cell (p:=⟨b,off+k*2+1,none⟩) hl] at c2
   obtain⟨q,hq⟩:∃ q,q=l.getD k (0,0):=⟨_,rfl⟩
   rw[←hq] at c1 c2
   have hlk:k<l.length:=by rw[unhide HZ];exact hlt
   have hq':q=l[k]:=by rw[hq];simp[hlk]
   obtain⟨hkind,hn1,hn2⟩:=Zaf (k:=q.1) (n:=q.2) (by rw[hq'];exact (unhide HK) k hlk)
   have HQ:=hide hq'
   clear hq hq' hst
   obtain⟨q1,q2⟩:=q
   simp only at c1 c2 hkind hn1 hn2
   have STA:=hide ((unhide HST).keep (Xp wr (.cells #[.int .i64 q1,.int .i64 q2] 148)))
   have HF:=hide ((Zu q2).2 ⟨hn1,hn2⟩)
   rcases hkind with rfl|rfl|rfl|rfl|rfl|rfl|rfl|rfl|rfl|rfl|rfl|rfl|rfl
   ·have STP:=hide ((unhide STA).keep (Xp _ (.cells #[.int .i64 q2] 3)))
    go_wp2_with (first|(at_lookup;refine wpList_lookup_own_int _ rfl _ _ 216 rfl 3 3 .i64 Vo Tryz.underlying216 Tryz.underlying3 (zero3 _) bm 11 _ rfl (unhide STA).map _ _ rfl (keyOf_int_mk Tryz.underlying3 (by decide)) ?_;intro c hat _;obtain rfl:c=0:=(Zo (by decide) (by decide) hat).trans (by decide);clear hat)|go_in)
    have SS:=hide (Ei h q2 L)
    by_cases hm:(L).length=16
    ·have gm:(16:Int)≤((L).length:Int):=by omega
     refine wp_loop_rounds 1 ?_
     rw[rounds_succ]
     go_wp2
     go_ret2
     rw[Zg hlk (unhide HQ) (unhide HRL) ((unhide SS).trans (Yu hm))]
     exact⟨none,0,rfl,RowAt.nil _ _,(unhide STP).bel,fun _=>rfl⟩
    ·have gm:¬(16:Int)≤((L).length:Int):=by omega
     have gm2:(L).length<16:=by omega
     clear hm
     cases hx:fit q2 with
     | false=>
      have HX:=hide hx
      clear hx
      refine wp_loop_rounds 1 ?_
      rw[rounds_succ]
      go_wp2_with (go_at_call 151;refine (Z9 q2 false _ (unhide HX).symm).mono ?_;rintro e w' ⟨rfl,rfl⟩)
      go_ret2
      rw[Zg hlk (unhide HQ) (unhide HRL) ((unhide SS).trans (Y0 (unhide HX)))]
      exact⟨none,0,rfl,RowAt.nil _ _,(unhide STP).bel,fun _=>rfl⟩
     | true=>
      have HX:=hide hx
      clear hx
      refine wp_loop_rounds 2 ?_
      rw[rounds_succ]
      go_wp2_with (first|(go_at_call 151;refine (Z9 q2 true _ (unhide HX).symm).mono ?_;rintro e w' ⟨rfl,rfl⟩)|(at_builtin;refine Zl (x:=q2) rfl _ _ rfl w bm _ (L) rfl (by omega) (unhide STP) _ (by simp) rfl ?_;intro v3 w3 st3 _;have ST3:=hide st3;clear st3))
      rw[rounds_succ]
      go_wp2
      go_roundw
      case rel=>exact⟨k+1,(L)++[q2],by omega,by go_num,(Yk hlk (unhide HQ) (unhide HRL)).trans ((unhide SS).trans (Xa gm2 (unhide HX))),unhide ST3⟩
      case measure=>simp[intOf];omega
   ·by_cases hs:L.length=0
    ·have e:L=[]:=List.length_eq_zero_iff.1 hs
     rw[hs]
     go_wp2_with (first|(at_lookup;refine wpList_lookup_own_int _ rfl _ _ 216 rfl 3 3 .i64 Vo Tryz.underlying216 Tryz.underlying3 (zero3 _) bm 11 _ rfl (unhide STA).map _ _ rfl (keyOf_int_mk Tryz.underlying3 (by decide)) ?_;intro c hat _;obtain rfl:c=1:=(Zo (by decide) (by decide) hat).trans (by decide);clear hat)|go_in)
     go_ret2
     rw[Zg hlk (unhide HQ) (unhide HRL) (by rw[e];exact Xs h 2 q2 (by decide) (by decide))]
     exact⟨none,0,rfl,RowAt.nil _ _,(unhide STA).bel,fun _=>rfl⟩
    ·obtain⟨M,a,rfl⟩:=Xb (L:=L) (by omega)
     have ca:(wr.alloc (.cells #[.int .i64 2,.int .i64 q2] 148)).cell? ⟨g,M.length,none⟩=some (.int .i64 a):=by have:=(unhide STA).cell M.length (by simp);simpa using this
     have STM:=hide (unhide STA).cut
     have fa:=(Zu a).1 ((unhide HL2) a (by simp))
     have hlen1:(M++[a]).length=M.length+1:=by simp
     rw[hlen1] at hL1 hc1 ⊢
     clear hs hlen1
     have STP:=hide ((unhide STM).keep (Xp _ (.cells #[.int .i64 a,.int .i64 a] 3)))
     have HX:=hide ((unhide HL2) a (by simp))
     have HY:=hide ((unhide HL2) a (by simp))
     have hgl:g<wr.heap.size:=(unhide HST).lt
     have CY:Hid (∀ (z:Int) (w3:World),(((wr.alloc (.cells #[.int .i64 2,.int .i64 q2] 148)).alloc (.cells #[.int .i64 a,.int .i64 a] 3)).alloc (.cells #[.int .i64 z] 3)).grownBy w3 (some g)→w3.cell? ⟨wr.heap.size+1,1,none⟩=some (.int .i64 a)):=fun z w3 hg=>hg.cell (a:=⟨wr.heap.size+1,1,none⟩) (Lg _ _ _ _ _ (by simp)) (by simp;omega)
     have gm:¬(16:Int)≤(M.length:Int):=by omega
     have gm2:M.length<16:=by omega
     go_wp2_with (first|(at_lookup;refine wpList_lookup_own_int _ rfl _ _ 216 rfl 3 3 .i64 Vo Tryz.underlying216 Tryz.underlying3 (zero3 _) bm 11 _ rfl (unhide STA).map _ _ rfl (keyOf_int_mk Tryz.underlying3 (by decide)) ?_;intro c hat _;obtain rfl:c=1:=(Zo (by decide) (by decide) hat).trans (by decide);clear hat)|go_in)
     refine wp_loop_rounds 3 ?_
     rw[rounds_succ]
     go_wp2_with (first|(go_at_call 151;refine (Z9 a true _ (unhide HX).symm).mono ?_;rintro e w' ⟨rfl,rfl⟩)|(at_builtin;refine Zl (x:=a) rfl _ _ rfl w bm _ M rfl (by omega) (unhide STP) _ (by simp) rfl ?_;intro v3 w3 st3 hg3;have cy:=(unhide CY) _ _ hg3;have ST3:=hide st3;clear st3 hg3;obtain⟨g3,cp3,rfl,_,_⟩:=(unhide ST3).row))
     have SS:=hide (Zbx h q2 M a)
     have hl2:(M++[a]).length=M.length+1:=by simp
     have ST4:St w bm (.slice (some ⟨g3,0,none⟩) (M.length+1) cp3) (M++[a]) w3:=by rw[←hl2];exact unhide ST3
     have HST4:=hide ST4
     clear hl2 ST4 ST3
     by_cases hm:M.length=15
     ·have gm3:(16:Int)≤(M.length:Int)+1:=by omega
      rw[rounds_succ]
      go_wp2
      go_ret2
      rw[Zg hlk (unhide HQ) (unhide HRL) ((unhide SS).trans ((Rs gm2 (unhide HX)).trans (Yu (by simp;omega))))]
      exact⟨none,0,rfl,RowAt.nil _ _,(unhide HST4).bel,fun _=>rfl⟩
     ·have gm3:¬(16:Int)≤(M.length:Int)+1:=by omega
      rw[rounds_succ]
      go_wp2_with (first|(go_at_call 151;refine (Z9 a true _ (unhide HY).symm).mono ?_;rintro e w' ⟨rfl,rfl⟩)|(at_builtin;refine Zl (x:=a) rfl _ _ rfl w bm _ (M++[a]) rfl (by simp;omega) (unhide HST4) _ (by first|rfl|simp) rfl ?_;intro v5 w5 st5 _;have ST5:=hide st5;clear st5))
      rw[rounds_succ]
      go_wp2
      go_roundw
      case rel=>exact⟨k+1,(M++[a])++[a],by omega,by go_num,(Yk hlk (unhide HQ) (unhide HRL)).trans ((unhide SS).trans ((Rs gm2 (unhide HX)).trans (Xa (by simp;omega) (unhide HY)))),unhide ST5⟩
      case measure=>simp[intOf];omega
   ·by_cases hs:L.length<2
    ·have gs:(L.length:Int)<2:=by omega
     have hno:Zz h 3 q2 L=none:=by
      by_cases h0:L.length=0
      ·rw[List.length_eq_zero_iff.1 h0];exact Xs h 3 q2 (by decide) (by decide)
      ·obtain⟨M,a,rfl⟩:=Xb (L:=L) (by omega)
       have e:M=[]:=List.length_eq_zero_iff.1 (by simp at hs;omega)
       subst e
       exact U6 h 3 q2 a (by decide)
     have HNO:=hide hno
     clear hno
     go_wp2_with (first|(at_lookup;refine wpList_lookup_own_int _ rfl _ _ 216 rfl 3 3 .i64 Vo Tryz.underlying216 Tryz.underlying3 (zero3 _) bm 11 _ rfl (unhide STA).map _ _ rfl (keyOf_int_mk Tryz.underlying3 (by decide)) ?_;intro c hat _;obtain rfl:c=2:=(Zo (by decide) (by decide) hat).trans (by decide);clear hat)|go_in)
     go_ret2
     rw[Zg hlk (unhide HQ) (unhide HRL) (unhide HNO)]
     exact⟨none,0,rfl,RowAt.nil _ _,(unhide STA).bel,fun _=>rfl⟩
    ·obtain⟨M,a,d,rfl⟩:=Qa (L:=L) (by omega)
     have ca:(wr.alloc (.cells #[.int .i64 3,.int .i64 q2] 148)).cell? ⟨g,M.length,none⟩=some (.int .i64 a):=by have:=(unhide STA).cell M.length (by simp);simpa using this
     have cd:(wr.alloc (.cells #[.int .i64 3,.int .i64 q2] 148)).cell? ⟨g,M.length+1,none⟩=some (.int .i64 d):=by have:=(unhide STA).cell (M.length+1) (by simp);simpa using this
     have STM:=hide (unhide STA).cut
     have fa:=(Zu a).1 ((unhide HL2) a (by simp))
     have fd:=(Zu d).1 ((unhide HL2) d (by simp))
     have hlen1:(M++[a,d]).length=M.length+2:=by simp
     rw[hlen1] at hL1 hc1 ⊢
     clear hs hlen1
     have STP:=hide (fun n:Nat=>((unhide STM).drewN n).keep (Xp _ (.cells #[.int .i64 d,.int .i64 a] 3)))
     have HX:=hide ((unhide HL2) d (by simp))
     have HY:=hide ((unhide HL2) a (by simp))
     have hgl:g<wr.heap.size:=(unhide HST).lt
     have CY:Hid (∀ (n:Nat) (z:Int) (w3:World),((((wr.alloc (.cells #[.int .i64 3,.int .i64 q2] 148)).drewN n).alloc (.cells #[.int .i64 d,.int .i64 a] 3)).alloc (.cells #[.int .i64 z] 3)).grownBy w3 (some g)→w3.cell? ⟨wr.heap.size+1,1,none⟩=some (.int .i64 a)):=fun n z w3 hg=>hg.cell (a:=⟨wr.heap.size+1,1,none⟩) (Lg _ _ _ _ _ (by simp)) (by simp;omega)
     have gm:¬(16:Int)≤(M.length:Int):=by omega
     have gm2:M.length<16:=by omega
     go_wp2_with (first|(at_lookup;refine wpList_lookup_own_int _ rfl _ _ 216 rfl 3 3 .i64 Vo Tryz.underlying216 Tryz.underlying3 (zero3 _) bm 11 _ rfl (unhide STA).map _ _ rfl (keyOf_int_mk Tryz.underlying3 (by decide)) ?_;intro c hat _;obtain rfl:c=2:=(Zo (by decide) (by decide) hat).trans (by decide);clear hat)|go_in)
     go_quiet (fail)
     go_wp2
     refine wp_loop_rounds 3 ?_
     rw[rounds_succ]
     go_wp2_with (first|(go_at_call 151;refine (Z9 d true _ (unhide HX).symm).mono ?_;rintro e w' ⟨rfl,rfl⟩)|(at_builtin;refine Zl (x:=d) rfl _ _ rfl w bm _ M rfl (by omega) ((unhide STP) _) _ (by simp) rfl ?_;intro v3 w3 st3 hg3;have cy:=(unhide CY) _ _ _ hg3;have ST3:=hide st3;clear st3 hg3;obtain⟨g3,cp3,rfl,_,_⟩:=(unhide ST3).row))
     have SS:=hide (Eg h q2 M a d)
     have hl2:(M++[d]).length=M.length+1:=by simp
     have ST4:St w bm (.slice (some ⟨g3,0,none⟩) (M.length+1) cp3) (M++[d]) w3:=by rw[←hl2];exact unhide ST3
     have HST4:=hide ST4
     clear hl2 ST4 ST3
     by_cases hm:M.length=15
     ·have gm3:(16:Int)≤(M.length:Int)+1:=by omega
      rw[rounds_succ]
      go_wp2
      go_ret2
      rw[Zg hlk (unhide HQ) (unhide HRL) ((unhide SS).trans ((Rs gm2 (unhide HX)).trans (Yu (by simp;omega))))]
      exact⟨none,0,rfl,RowAt.nil _ _,(unhide HST4).bel,fun _=>rfl⟩
     ·have gm3:¬(16:Int)≤(M.length:Int)+1:=by omega
      rw[rounds_succ]
      go_wp2_with (first|(go_at_call 151;refine (Z9 a true _ (unhide HY).symm).mono ?_;rintro e w' ⟨rfl,rfl⟩)|(at_builtin;refine Zl (x:=a) rfl _ _ rfl w bm _ (M++[d]) rfl (by simp;omega) (unhide HST4) _ (by first|rfl|simp) rfl ?_;intro v5 w5 st5 _;have ST5:=hide st5;clear st5))
      rw[rounds_succ]
      go_wp2
      go_roundw
      case rel=>exact⟨k+1,(M++[d])++[a],by omega,by go_num,(Yk hlk (unhide HQ) (unhide HRL)).trans ((unhide SS).trans ((Rs gm2 (unhide HX)).trans (Xa (by simp;omega) (unhide HY)))),unhide ST5⟩
      case measure=>simp[intOf];omega
   ·by_cases hs:L.length=0
    ·have e:L=[]:=List.length_eq_zero_iff.1 hs
     rw[hs]
     go_wp2_with (first|(at_lookup;refine wpList_lookup_own_int _ rfl _ _ 216 rfl 3 3 .i64 Vo Tryz.underlying216 Tryz.underlying3 (zero3 _) bm 11 _ rfl (unhide STA).map _ _ rfl (keyOf_int_mk Tryz.underlying3 (by decide)) ?_;intro c hat _;obtain rfl:c=1:=(Zo (by decide) (by decide) hat).trans (by decide);clear hat)|go_in)
     go_ret2
     rw[Zg hlk (unhide HQ) (unhide HRL) (by rw[e];exact Xs h 4 q2 (by decide) (by decide))]
     exact⟨none,0,rfl,RowAt.nil _ _,(unhide STA).bel,fun _=>rfl⟩
    ·obtain⟨M,a,rfl⟩:=Xb (L:=L) (by omega)
     have ca:(wr.alloc (.cells #[.int .i64 4,.int .i64 q2] 148)).cell? ⟨g,M.length,none⟩=some (.int .i64 a):=by have:=(unhide STA).cell M.length (by simp);simpa using this
     have STM:=hide (unhide STA).cut
     have fa:=(Zu a).1 ((unhide HL2) a (by simp))
     have hlen1:(M++[a]).length=M.length+1:=by simp
     rw[hlen1] at hL1 hc1 ⊢
     clear hs hlen1
     go_wp2_with (first|(at_lookup;refine wpList_lookup_own_int _ rfl _ _ 216 rfl 3 3 .i64 Vo Tryz.underlying216 Tryz.underlying3 (zero3 _) bm 11 _ rfl (unhide STA).map _ _ rfl (keyOf_int_mk Tryz.underlying3 (by decide)) ?_;intro c hat _;obtain rfl:c=1:=(Zo (by decide) (by decide) hat).trans (by decide);clear hat)|go_in)
     refine wp_loop_rounds 1 ?_
     rw[rounds_succ]
     go_wp2
     go_roundw
     case rel=>exact⟨k+1,M,by omega,by go_num,(Yk hlk (unhide HQ) (unhide HRL)).trans (El h q2 M a),unhide STM⟩
     case measure=>simp[intOf];omega
   ·by_cases hs:L.length<2
    ·have gs:(L.length:Int)<2:=by omega
     have hno:Zz h 5 q2 L=none:=by
      by_cases h0:L.length=0
      ·rw[List.length_eq_zero_iff.1 h0];exact Xs h 5 q2 (by decide) (by decide)
      ·obtain⟨M,a,rfl⟩:=Xb (L:=L) (by omega)
       have e:M=[]:=List.length_eq_zero_iff.1 (by simp at hs;omega)
       subst e
       exact U6 h 5 q2 a (by decide)
     have HNO:=hide hno
     clear hno
     go_wp2_with (first|(at_lookup;refine wpList_lookup_own_int _ rfl _ _ 216 rfl 3 3 .i64 Vo Tryz.underlying216 Tryz.underlying3 (zero3 _) bm 11 _ rfl (unhide STA).map _ _ rfl (keyOf_int_mk Tryz.underlying3 (by decide)) ?_;intro c hat _;obtain rfl:c=2:=(Zo (by decide) (by decide) hat).trans (by decide);clear hat)|go_in)
     go_ret2
     rw[Zg hlk (unhide HQ) (unhide HRL) (unhide HNO)]
     exact⟨none,0,rfl,RowAt.nil _ _,(unhide STA).bel,fun _=>rfl⟩
    ·obtain⟨M,a,d,rfl⟩:=Qa (L:=L) (by omega)
     have ca:(wr.alloc (.cells #[.int .i64 5,.int .i64 q2] 148)).cell? ⟨g,M.length,none⟩=some (.int .i64 a):=by have:=(unhide STA).cell M.length (by simp);simpa using this
     have cd:(wr.alloc (.cells #[.int .i64 5,.int .i64 q2] 148)).cell? ⟨g,M.length+1,none⟩=some (.int .i64 d):=by have:=(unhide STA).cell (M.length+1) (by simp);simpa using this
     have STM:=hide (unhide STA).cut
     have fa:=(Zu a).1 ((unhide HL2) a (by simp))
     have fd:=(Zu d).1 ((unhide HL2) d (by simp))
     have hlen1:(M++[a,d]).length=M.length+2:=by simp
     rw[hlen1] at hL1 hc1 ⊢
     clear hs hlen1
     have STP:=hide (fun n:Nat=>((unhide STM).drewN n).keep (Xp _ (.cells #[.int .i64 (a+d)] 3)))
     go_wp2_with (first|(at_lookup;refine wpList_lookup_own_int _ rfl _ _ 216 rfl 3 3 .i64 Vo Tryz.underlying216 Tryz.underlying3 (zero3 _) bm 11 _ rfl (unhide STA).map _ _ rfl (keyOf_int_mk Tryz.underlying3 (by decide)) ?_;intro c hat _;obtain rfl:c=2:=(Zo (by decide) (by decide) hat).trans (by decide);clear hat)|go_in)
     go_quiet (fail)
     go_wp2_with (first|(go_at_call 150;refine (Tr _ _).mono ?_;rintro e w' ⟨rfl,rfl⟩)|go_in)
     have SS:=hide (Zbz h q2 M a d)
     by_cases hm:(M).length=16
     ·have gm:(16:Int)≤((M).length:Int):=by omega
      refine wp_loop_rounds 1 ?_
      rw[rounds_succ]
      go_wp2
      go_ret2
      rw[Zg hlk (unhide HQ) (unhide HRL) ((unhide SS).trans (Yu hm))]
      exact⟨none,0,rfl,RowAt.nil _ _,((unhide STP) _).bel,fun _=>rfl⟩
     ·have gm:¬(16:Int)≤((M).length:Int):=by omega
      have gm2:(M).length<16:=by omega
      clear hm
      cases hx:fit (a+d) with
      | false=>
       have HX:=hide hx
       clear hx
       refine wp_loop_rounds 1 ?_
       rw[rounds_succ]
       go_wp2_with (go_at_call 151;refine (Z9 (a+d) false _ (unhide HX).symm).mono ?_;rintro e w' ⟨rfl,rfl⟩)
       go_ret2
       rw[Zg hlk (unhide HQ) (unhide HRL) ((unhide SS).trans (Y0 (unhide HX)))]
       exact⟨none,0,rfl,RowAt.nil _ _,((unhide STP) _).bel,fun _=>rfl⟩
      | true=>
       have HX:=hide hx
       clear hx
       refine wp_loop_rounds 2 ?_
       rw[rounds_succ]
       go_wp2_with (first|(go_at_call 151;refine (Z9 (a+d) true _ (unhide HX).symm).mono ?_;rintro e w' ⟨rfl,rfl⟩)|(at_builtin;refine Zl (x:=(a+d)) rfl _ _ rfl w bm _ (M) rfl (by omega) ((unhide STP) _) _ (by simp) rfl ?_;intro v3 w3 st3 _;have ST3:=hide st3;clear st3))
       rw[rounds_succ]
       go_wp2
       go_roundw
       case rel=>exact⟨k+1,(M)++[(a+d)],by omega,by go_num,(Yk hlk (unhide HQ) (unhide HRL)).trans ((unhide SS).trans (Xa gm2 (unhide HX))),unhide ST3⟩
       case measure=>simp[intOf];omega
   ·by_cases hs:L.length<2
    ·have gs:(L.length:Int)<2:=by omega
     have hno:Zz h 6 q2 L=none:=by
      by_cases h0:L.length=0
      ·rw[List.length_eq_zero_iff.1 h0];exact Xs h 6 q2 (by decide) (by decide)
      ·obtain⟨M,a,rfl⟩:=Xb (L:=L) (by omega)
       have e:M=[]:=List.length_eq_zero_iff.1 (by simp at hs;omega)
       subst e
       exact U6 h 6 q2 a (by decide)
     have HNO:=hide hno
     clear hno
     go_wp2_with (first|(at_lookup;refine wpList_lookup_own_int _ rfl _ _ 216 rfl 3 3 .i64 Vo Tryz.underlying216 Tryz.underlying3 (zero3 _) bm 11 _ rfl (unhide STA).map _ _ rfl (keyOf_int_mk Tryz.underlying3 (by decide)) ?_;intro c hat _;obtain rfl:c=2:=(Zo (by decide) (by decide) hat).trans (by decide);clear hat)|go_in)
     go_ret2
     rw[Zg hlk (unhide HQ) (unhide HRL) (unhide HNO)]
     exact⟨none,0,rfl,RowAt.nil _ _,(unhide STA).bel,fun _=>rfl⟩
    ·obtain⟨M,a,d,rfl⟩:=Qa (L:=L) (by omega)
     have ca:(wr.alloc (.cells #[.int .i64 6,.int .i64 q2] 148)).cell? ⟨g,M.length,none⟩=some (.int .i64 a):=by have:=(unhide STA).cell M.length (by simp);simpa using this
     have cd:(wr.alloc (.cells #[.int .i64 6,.int .i64 q2] 148)).cell? ⟨g,M.length+1,none⟩=some (.int .i64 d):=by have:=(unhide STA).cell (M.length+1) (by simp);simpa using this
     have STM:=hide (unhide STA).cut
     have fa:=(Zu a).1 ((unhide HL2) a (by simp))
     have fd:=(Zu d).1 ((unhide HL2) d (by simp))
     have hlen1:(M++[a,d]).length=M.length+2:=by simp
     rw[hlen1] at hL1 hc1 ⊢
     clear hs hlen1
     have STP:=hide (fun n:Nat=>((unhide STM).drewN n).keep (Xp _ (.cells #[.int .i64 (a - d)] 3)))
     go_wp2_with (first|(at_lookup;refine wpList_lookup_own_int _ rfl _ _ 216 rfl 3 3 .i64 Vo Tryz.underlying216 Tryz.underlying3 (zero3 _) bm 11 _ rfl (unhide STA).map _ _ rfl (keyOf_int_mk Tryz.underlying3 (by decide)) ?_;intro c hat _;obtain rfl:c=2:=(Zo (by decide) (by decide) hat).trans (by decide);clear hat)|go_in)
     go_quiet (fail)
     go_wp2_with (first|(go_at_call 150;refine (Tr _ _).mono ?_;rintro e w' ⟨rfl,rfl⟩)|go_in)
     have SS:=hide (Zbu h q2 M a d)
     by_cases hm:(M).length=16
     ·have gm:(16:Int)≤((M).length:Int):=by omega
      refine wp_loop_rounds 1 ?_
      rw[rounds_succ]
      go_wp2
      go_ret2
      rw[Zg hlk (unhide HQ) (unhide HRL) ((unhide SS).trans (Yu hm))]
      exact⟨none,0,rfl,RowAt.nil _ _,((unhide STP) _).bel,fun _=>rfl⟩
     ·have gm:¬(16:Int)≤((M).length:Int):=by omega
      have gm2:(M).length<16:=by omega
      clear hm
      cases hx:fit (a - d) with
      | false=>
       have HX:=hide hx
       clear hx
       refine wp_loop_rounds 1 ?_
       rw[rounds_succ]
       go_wp2_with (go_at_call 151;refine (Z9 (a - d) false _ (unhide HX).symm).mono ?_;rintro e w' ⟨rfl,rfl⟩)
       go_ret2
       rw[Zg hlk (unhide HQ) (unhide HRL) ((unhide SS).trans (Y0 (unhide HX)))]
       exact⟨none,0,rfl,RowAt.nil _ _,((unhide STP) _).bel,fun _=>rfl⟩
      | true=>
       have HX:=hide hx
       clear hx
       refine wp_loop_rounds 2 ?_
       rw[rounds_succ]
       go_wp2_with (first|(go_at_call 151;refine (Z9 (a - d) true _ (unhide HX).symm).mono ?_;rintro e w' ⟨rfl,rfl⟩)|(at_builtin;refine Zl (x:=(a - d)) rfl _ _ rfl w bm _ (M) rfl (by omega) ((unhide STP) _) _ (by simp) rfl ?_;intro v3 w3 st3 _;have ST3:=hide st3;clear st3))
       rw[rounds_succ]
       go_wp2
       go_roundw
       case rel=>exact⟨k+1,(M)++[(a - d)],by omega,by go_num,(Yk hlk (unhide HQ) (unhide HRL)).trans ((unhide SS).trans (Xa gm2 (unhide HX))),unhide ST3⟩
       case measure=>simp[intOf];omega
   ·by_cases hs:L.length<2
    ·have gs:(L.length:Int)<2:=by omega
     have hno:Zz h 7 q2 L=none:=by
      by_cases h0:L.length=0
      ·rw[List.length_eq_zero_iff.1 h0];exact Xs h 7 q2 (by decide) (by decide)
      ·obtain⟨M,a,rfl⟩:=Xb (L:=L) (by omega)
       have e:M=[]:=List.length_eq_zero_iff.1 (by simp at hs;omega)
       subst e
       exact U6 h 7 q2 a (by decide)
     have HNO:=hide hno
     clear hno
     go_wp2_with (first|(at_lookup;refine wpList_lookup_own_int _ rfl _ _ 216 rfl 3 3 .i64 Vo Tryz.underlying216 Tryz.underlying3 (zero3 _) bm 11 _ rfl (unhide STA).map _ _ rfl (keyOf_int_mk Tryz.underlying3 (by decide)) ?_;intro c hat _;obtain rfl:c=2:=(Zo (by decide) (by decide) hat).trans (by decide);clear hat)|go_in)
     go_ret2
     rw[Zg hlk (unhide HQ) (unhide HRL) (unhide HNO)]
     exact⟨none,0,rfl,RowAt.nil _ _,(unhide STA).bel,fun _=>rfl⟩
    ·obtain⟨M,a,d,rfl⟩:=Qa (L:=L) (by omega)
     have ca:(wr.alloc (.cells #[.int .i64 7,.int .i64 q2] 148)).cell? ⟨g,M.length,none⟩=some (.int .i64 a):=by have:=(unhide STA).cell M.length (by simp);simpa using this
     have cd:(wr.alloc (.cells #[.int .i64 7,.int .i64 q2] 148)).cell? ⟨g,M.length+1,none⟩=some (.int .i64 d):=by have:=(unhide STA).cell (M.length+1) (by simp);simpa using this
     have STM:=hide (unhide STA).cut
     have fa:=(Zu a).1 ((unhide HL2) a (by simp))
     have fd:=(Zu d).1 ((unhide HL2) d (by simp))
     have hlen1:(M++[a,d]).length=M.length+2:=by simp
     rw[hlen1] at hL1 hc1 ⊢
     clear hs hlen1
     have STP:=hide (fun n:Nat=>((unhide STM).drewN n).keep (Xp _ (.cells #[.int .i64 (b01 (a == d))] 3)))
     go_wp2_with (first|(at_lookup;refine wpList_lookup_own_int _ rfl _ _ 216 rfl 3 3 .i64 Vo Tryz.underlying216 Tryz.underlying3 (zero3 _) bm 11 _ rfl (unhide STA).map _ _ rfl (keyOf_int_mk Tryz.underlying3 (by decide)) ?_;intro c hat _;obtain rfl:c=2:=(Zo (by decide) (by decide) hat).trans (by decide);clear hat)|go_in)
     go_quiet (fail)
     go_wp2_with (first|(go_at_call 150;refine (Tr _ _).mono ?_;rintro e w' ⟨rfl,rfl⟩)|go_in)
     have SS:=hide (Eh h q2 M a d)
     by_cases hm:(M).length=16
     ·have gm:(16:Int)≤((M).length:Int):=by omega
      refine wp_loop_rounds 1 ?_
      rw[rounds_succ]
      go_wp2
      go_ret2
      rw[Zg hlk (unhide HQ) (unhide HRL) ((unhide SS).trans (Yu hm))]
      exact⟨none,0,rfl,RowAt.nil _ _,((unhide STP) _).bel,fun _=>rfl⟩
     ·have gm:¬(16:Int)≤((M).length:Int):=by omega
      have gm2:(M).length<16:=by omega
      clear hm
      cases hx:fit (b01 (a == d)) with
      | false=>
       have HX:=hide hx
       clear hx
       refine wp_loop_rounds 1 ?_
       rw[rounds_succ]
       go_wp2_with (go_at_call 151;refine (Z9 (b01 (a == d)) false _ (unhide HX).symm).mono ?_;rintro e w' ⟨rfl,rfl⟩)
       go_ret2
       rw[Zg hlk (unhide HQ) (unhide HRL) ((unhide SS).trans (Y0 (unhide HX)))]
       exact⟨none,0,rfl,RowAt.nil _ _,((unhide STP) _).bel,fun _=>rfl⟩
      | true=>
       have HX:=hide hx
       clear hx
       refine wp_loop_rounds 2 ?_
       rw[rounds_succ]
       go_wp2_with (first|(go_at_call 151;refine (Z9 (b01 (a == d)) true _ (unhide HX).symm).mono ?_;rintro e w' ⟨rfl,rfl⟩)|(at_builtin;refine Zl (x:=(b01 (a == d))) rfl _ _ rfl w bm _ (M) rfl (by omega) ((unhide STP) _) _ (by simp) rfl ?_;intro v3 w3 st3 _;have ST3:=hide st3;clear st3))
       rw[rounds_succ]
       go_wp2
       go_roundw
       case rel=>exact⟨k+1,(M)++[(b01 (a == d))],by omega,by go_num,(Yk hlk (unhide HQ) (unhide HRL)).trans ((unhide SS).trans (Xa gm2 (unhide HX))),unhide ST3⟩
       case measure=>simp[intOf];omega
   ·by_cases hs:L.length<2
    ·have gs:(L.length:Int)<2:=by omega
     have hno:Zz h 8 q2 L=none:=by
      by_cases h0:L.length=0
      ·rw[List.length_eq_zero_iff.1 h0];exact Xs h 8 q2 (by decide) (by decide)
      ·obtain⟨M,a,rfl⟩:=Xb (L:=L) (by omega)
       have e:M=[]:=List.length_eq_zero_iff.1 (by simp at hs;omega)
       subst e
       exact U6 h 8 q2 a (by decide)
     have HNO:=hide hno
     clear hno
     go_wp2_with (first|(at_lookup;refine wpList_lookup_own_int _ rfl _ _ 216 rfl 3 3 .i64 Vo Tryz.underlying216 Tryz.underlying3 (zero3 _) bm 11 _ rfl (unhide STA).map _ _ rfl (keyOf_int_mk Tryz.underlying3 (by decide)) ?_;intro c hat _;obtain rfl:c=2:=(Zo (by decide) (by decide) hat).trans (by decide);clear hat)|go_in)
     go_ret2
     rw[Zg hlk (unhide HQ) (unhide HRL) (unhide HNO)]
     exact⟨none,0,rfl,RowAt.nil _ _,(unhide STA).bel,fun _=>rfl⟩
    ·obtain⟨M,a,d,rfl⟩:=Qa (L:=L) (by omega)
     have ca:(wr.alloc (.cells #[.int .i64 8,.int .i64 q2] 148)).cell? ⟨g,M.length,none⟩=some (.int .i64 a):=by have:=(unhide STA).cell M.length (by simp);simpa using this
     have cd:(wr.alloc (.cells #[.int .i64 8,.int .i64 q2] 148)).cell? ⟨g,M.length+1,none⟩=some (.int .i64 d):=by have:=(unhide STA).cell (M.length+1) (by simp);simpa using this
     have STM:=hide (unhide STA).cut
     have fa:=(Zu a).1 ((unhide HL2) a (by simp))
     have fd:=(Zu d).1 ((unhide HL2) d (by simp))
     have hlen1:(M++[a,d]).length=M.length+2:=by simp
     rw[hlen1] at hL1 hc1 ⊢
     clear hs hlen1
     have STP:=hide (fun n:Nat=>((unhide STM).drewN n).keep (Xp _ (.cells #[.int .i64 (b01 (decide (a<d)))] 3)))
     go_wp2_with (first|(at_lookup;refine wpList_lookup_own_int _ rfl _ _ 216 rfl 3 3 .i64 Vo Tryz.underlying216 Tryz.underlying3 (zero3 _) bm 11 _ rfl (unhide STA).map _ _ rfl (keyOf_int_mk Tryz.underlying3 (by decide)) ?_;intro c hat _;obtain rfl:c=2:=(Zo (by decide) (by decide) hat).trans (by decide);clear hat)|go_in)
     go_quiet (fail)
     go_wp2_with (first|(go_at_call 150;refine (Tr _ _).mono ?_;rintro e w' ⟨rfl,rfl⟩)|go_in)
     have SS:=hide (Ek h q2 M a d)
     by_cases hm:(M).length=16
     ·have gm:(16:Int)≤((M).length:Int):=by omega
      refine wp_loop_rounds 1 ?_
      rw[rounds_succ]
      go_wp2
      go_ret2
      rw[Zg hlk (unhide HQ) (unhide HRL) ((unhide SS).trans (Yu hm))]
      exact⟨none,0,rfl,RowAt.nil _ _,((unhide STP) _).bel,fun _=>rfl⟩
     ·have gm:¬(16:Int)≤((M).length:Int):=by omega
      have gm2:(M).length<16:=by omega
      clear hm
      cases hx:fit (b01 (decide (a<d))) with
      | false=>
       have HX:=hide hx
       clear hx
       refine wp_loop_rounds 1 ?_
       rw[rounds_succ]
       go_wp2_with (go_at_call 151;refine (Z9 (b01 (decide (a<d))) false _ (unhide HX).symm).mono ?_;rintro e w' ⟨rfl,rfl⟩)
       go_ret2
       rw[Zg hlk (unhide HQ) (unhide HRL) ((unhide SS).trans (Y0 (unhide HX)))]
       exact⟨none,0,rfl,RowAt.nil _ _,((unhide STP) _).bel,fun _=>rfl⟩
      | true=>
       have HX:=hide hx
       clear hx
       refine wp_loop_rounds 2 ?_
       rw[rounds_succ]
       go_wp2_with (first|(go_at_call 151;refine (Z9 (b01 (decide (a<d))) true _ (unhide HX).symm).mono ?_;rintro e w' ⟨rfl,rfl⟩)|(at_builtin;refine Zl (x:=(b01 (decide (a<d)))) rfl _ _ rfl w bm _ (M) rfl (by omega) ((unhide STP) _) _ (by simp) rfl ?_;intro v3 w3 st3 _;have ST3:=hide st3;clear st3))
       rw[rounds_succ]
       go_wp2
       go_roundw
       case rel=>exact⟨k+1,(M)++[(b01 (decide (a<d)))],by omega,by go_num,(Yk hlk (unhide HQ) (unhide HRL)).trans ((unhide SS).trans (Xa gm2 (unhide HX))),unhide ST3⟩
       case measure=>simp[intOf];omega
   ·by_cases hs:L.length=0
    ·have e:L=[]:=List.length_eq_zero_iff.1 hs
     rw[hs]
     go_wp2_with (first|(at_lookup;refine wpList_lookup_own_int _ rfl _ _ 216 rfl 3 3 .i64 Vo Tryz.underlying216 Tryz.underlying3 (zero3 _) bm 11 _ rfl (unhide STA).map _ _ rfl (keyOf_int_mk Tryz.underlying3 (by decide)) ?_;intro c hat _;obtain rfl:c=1:=(Zo (by decide) (by decide) hat).trans (by decide);clear hat)|go_in)
     go_ret2
     rw[Zg hlk (unhide HQ) (unhide HRL) (by rw[e];exact Xs h 9 q2 (by decide) (by decide))]
     exact⟨none,0,rfl,RowAt.nil _ _,(unhide STA).bel,fun _=>rfl⟩
    ·obtain⟨M,a,rfl⟩:=Xb (L:=L) (by omega)
     have ca:(wr.alloc (.cells #[.int .i64 9,.int .i64 q2] 148)).cell? ⟨g,M.length,none⟩=some (.int .i64 a):=by have:=(unhide STA).cell M.length (by simp);simpa using this
     have STM:=hide (unhide STA).cut
     have fa:=(Zu a).1 ((unhide HL2) a (by simp))
     have hlen1:(M++[a]).length=M.length+1:=by simp
     rw[hlen1] at hL1 hc1 ⊢
     clear hs hlen1
     have STP:=hide ((unhide STM).keep (Xp _ (.cells #[.int .i64 (b01 (a == 0))] 3)))
     go_wp2_with (first|(at_lookup;refine wpList_lookup_own_int _ rfl _ _ 216 rfl 3 3 .i64 Vo Tryz.underlying216 Tryz.underlying3 (zero3 _) bm 11 _ rfl (unhide STA).map _ _ rfl (keyOf_int_mk Tryz.underlying3 (by decide)) ?_;intro c hat _;obtain rfl:c=1:=(Zo (by decide) (by decide) hat).trans (by decide);clear hat)|(go_at_call 150;refine (Tr _ _).mono ?_;rintro e w' ⟨rfl,rfl⟩)|go_in)
     have SS:=hide (Zbv h q2 M a)
     by_cases hm:(M).length=16
     ·have gm:(16:Int)≤((M).length:Int):=by omega
      refine wp_loop_rounds 1 ?_
      rw[rounds_succ]
      go_wp2
      go_ret2
      rw[Zg hlk (unhide HQ) (unhide HRL) ((unhide SS).trans (Yu hm))]
      exact⟨none,0,rfl,RowAt.nil _ _,(unhide STP).bel,fun _=>rfl⟩
     ·have gm:¬(16:Int)≤((M).length:Int):=by omega
      have gm2:(M).length<16:=by omega
      clear hm
      cases hx:fit (b01 (a == 0)) with
      | false=>
       have HX:=hide hx
       clear hx
       refine wp_loop_rounds 1 ?_
       rw[rounds_succ]
       go_wp2_with (go_at_call 151;refine (Z9 (b01 (a == 0)) false _ (unhide HX).symm).mono ?_;rintro e w' ⟨rfl,rfl⟩)
       go_ret2
       rw[Zg hlk (unhide HQ) (unhide HRL) ((unhide SS).trans (Y0 (unhide HX)))]
       exact⟨none,0,rfl,RowAt.nil _ _,(unhide STP).bel,fun _=>rfl⟩
      | true=>
       have HX:=hide hx
       clear hx
       refine wp_loop_rounds 2 ?_
       rw[rounds_succ]
       go_wp2_with (first|(go_at_call 151;refine (Z9 (b01 (a == 0)) true _ (unhide HX).symm).mono ?_;rintro e w' ⟨rfl,rfl⟩)|(at_builtin;refine Zl (x:=(b01 (a == 0))) rfl _ _ rfl w bm _ (M) rfl (by omega) (unhide STP) _ (by simp) rfl ?_;intro v3 w3 st3 _;have ST3:=hide st3;clear st3))
       rw[rounds_succ]
       go_wp2
       go_roundw
       case rel=>exact⟨k+1,(M)++[(b01 (a == 0))],by omega,by go_num,(Yk hlk (unhide HQ) (unhide HRL)).trans ((unhide SS).trans (Xa gm2 (unhide HX))),unhide ST3⟩
       case measure=>simp[intOf];omega
   ·by_cases hs:L.length<2
    ·have gs:(L.length:Int)<2:=by omega
     have hno:Zz h 10 q2 L=none:=by
      by_cases h0:L.length=0
      ·rw[List.length_eq_zero_iff.1 h0];exact Xs h 10 q2 (by decide) (by decide)
      ·obtain⟨M,a,rfl⟩:=Xb (L:=L) (by omega)
       have e:M=[]:=List.length_eq_zero_iff.1 (by simp at hs;omega)
       subst e
       exact U6 h 10 q2 a (by decide)
     have HNO:=hide hno
     clear hno
     go_wp2_with (first|(at_lookup;refine wpList_lookup_own_int _ rfl _ _ 216 rfl 3 3 .i64 Vo Tryz.underlying216 Tryz.underlying3 (zero3 _) bm 11 _ rfl (unhide STA).map _ _ rfl (keyOf_int_mk Tryz.underlying3 (by decide)) ?_;intro c hat _;obtain rfl:c=2:=(Zo (by decide) (by decide) hat).trans (by decide);clear hat)|go_in)
     go_ret2
     rw[Zg hlk (unhide HQ) (unhide HRL) (unhide HNO)]
     exact⟨none,0,rfl,RowAt.nil _ _,(unhide STA).bel,fun _=>rfl⟩
    ·obtain⟨M,a,d,rfl⟩:=Qa (L:=L) (by omega)
     have ca:(wr.alloc (.cells #[.int .i64 10,.int .i64 q2] 148)).cell? ⟨g,M.length,none⟩=some (.int .i64 a):=by have:=(unhide STA).cell M.length (by simp);simpa using this
     have cd:(wr.alloc (.cells #[.int .i64 10,.int .i64 q2] 148)).cell? ⟨g,M.length+1,none⟩=some (.int .i64 d):=by have:=(unhide STA).cell (M.length+1) (by simp);simpa using this
     have STM:=hide (unhide STA).cut
     have fa:=(Zu a).1 ((unhide HL2) a (by simp))
     have fd:=(Zu d).1 ((unhide HL2) d (by simp))
     have hlen1:(M++[a,d]).length=M.length+2:=by simp
     rw[hlen1] at hL1 hc1 ⊢
     clear hs hlen1
     have STP:=hide (fun n:Nat=>((unhide STM).drewN n).keep (Xp _ (.cells #[.int .i64 (b01 (a*d != 0))] 3)))
     go_wp2_with (first|(at_lookup;refine wpList_lookup_own_int _ rfl _ _ 216 rfl 3 3 .i64 Vo Tryz.underlying216 Tryz.underlying3 (zero3 _) bm 11 _ rfl (unhide STA).map _ _ rfl (keyOf_int_mk Tryz.underlying3 (by decide)) ?_;intro c hat _;obtain rfl:c=2:=(Zo (by decide) (by decide) hat).trans (by decide);clear hat)|go_in)
     go_quiet (fail)
     have hm1:=Zhm fa fd
     go_wp2_with (first|(go_at_call 150;refine (Tr _ _).mono ?_;rintro e w' ⟨rfl,rfl⟩)|go_in)
     have SS:=hide (show Zz h 10 q2 (M++[a,d])=Z8 M [b01 (a*d != 0)] from (Zby h q2 M a d).trans (by rw[Zhl]))
     by_cases hm:(M).length=16
     ·have gm:(16:Int)≤((M).length:Int):=by omega
      refine wp_loop_rounds 1 ?_
      rw[rounds_succ]
      go_wp2
      go_ret2
      rw[Zg hlk (unhide HQ) (unhide HRL) ((unhide SS).trans (Yu hm))]
      exact⟨none,0,rfl,RowAt.nil _ _,((unhide STP) _).bel,fun _=>rfl⟩
     ·have gm:¬(16:Int)≤((M).length:Int):=by omega
      have gm2:(M).length<16:=by omega
      clear hm
      cases hx:fit (b01 (a*d != 0)) with
      | false=>
       have HX:=hide hx
       clear hx
       refine wp_loop_rounds 1 ?_
       rw[rounds_succ]
       go_wp2_with (go_at_call 151;refine (Z9 (b01 (a*d != 0)) false _ (unhide HX).symm).mono ?_;rintro e w' ⟨rfl,rfl⟩)
       go_ret2
       rw[Zg hlk (unhide HQ) (unhide HRL) ((unhide SS).trans (Y0 (unhide HX)))]
       exact⟨none,0,rfl,RowAt.nil _ _,((unhide STP) _).bel,fun _=>rfl⟩
      | true=>
       have HX:=hide hx
       clear hx
       refine wp_loop_rounds 2 ?_
       rw[rounds_succ]
       go_wp2_with (first|(go_at_call 151;refine (Z9 (b01 (a*d != 0)) true _ (unhide HX).symm).mono ?_;rintro e w' ⟨rfl,rfl⟩)|(at_builtin;refine Zl (x:=(b01 (a*d != 0))) rfl _ _ rfl w bm _ (M) rfl (by omega) ((unhide STP) _) _ (by simp) rfl ?_;intro v3 w3 st3 _;have ST3:=hide st3;clear st3))
       rw[rounds_succ]
       go_wp2
       go_roundw
       case rel=>exact⟨k+1,(M)++[(b01 (a*d != 0))],by omega,by go_num,(Yk hlk (unhide HQ) (unhide HRL)).trans ((unhide SS).trans (Xa gm2 (unhide HX))),unhide ST3⟩
       case measure=>simp[intOf];omega
   ·by_cases hs:L.length=0
    ·have e:L=[]:=List.length_eq_zero_iff.1 hs
     rw[hs]
     go_wp2_with (first|(at_lookup;refine wpList_lookup_own_int _ rfl _ _ 216 rfl 3 3 .i64 Vo Tryz.underlying216 Tryz.underlying3 (zero3 _) bm 11 _ rfl (unhide STA).map _ _ rfl (keyOf_int_mk Tryz.underlying3 (by decide)) ?_;intro c hat _;obtain rfl:c=1:=(Zo (by decide) (by decide) hat).trans (by decide);clear hat)|go_in)
     go_ret2
     rw[Zg hlk (unhide HQ) (unhide HRL) (by rw[e];exact Xs h 11 q2 (by decide) (by decide))]
     exact⟨none,0,rfl,RowAt.nil _ _,(unhide STA).bel,fun _=>rfl⟩
    ·obtain⟨M,a,rfl⟩:=Xb (L:=L) (by omega)
     have ca:(wr.alloc (.cells #[.int .i64 11,.int .i64 q2] 148)).cell? ⟨g,M.length,none⟩=some (.int .i64 a):=by have:=(unhide STA).cell M.length (by simp);simpa using this
     have STM:=hide (unhide STA).cut
     have fa:=(Zu a).1 ((unhide HL2) a (by simp))
     have hlen1:(M++[a]).length=M.length+1:=by simp
     rw[hlen1] at hL1 hc1 ⊢
     clear hs hlen1
     by_cases h0:a=0
     ·subst h0
      go_wp2_with (first|(at_lookup;refine wpList_lookup_own_int _ rfl _ _ 216 rfl 3 3 .i64 Vo Tryz.underlying216 Tryz.underlying3 (zero3 _) bm 11 _ rfl (unhide STA).map _ _ rfl (keyOf_int_mk Tryz.underlying3 (by decide)) ?_;intro c hat _;obtain rfl:c=1:=(Zo (by decide) (by decide) hat).trans (by decide);clear hat)|go_in)
      go_ret2
      rw[Zg hlk (unhide HQ) (unhide HRL) ((Sc h q2 M 0).trans (if_pos rfl))]
      exact⟨none,0,rfl,RowAt.nil _ _,(unhide STA).bel,fun _=>rfl⟩
     ·have h0b:(a == 0)=false:=by simp[h0]
      go_wp2_with (first|(at_lookup;refine wpList_lookup_own_int _ rfl _ _ 216 rfl 3 3 .i64 Vo Tryz.underlying216 Tryz.underlying3 (zero3 _) bm 11 _ rfl (unhide STA).map _ _ rfl (keyOf_int_mk Tryz.underlying3 (by decide)) ?_;intro c hat _;obtain rfl:c=1:=(Zo (by decide) (by decide) hat).trans (by decide);clear hat)|go_in)
      refine wp_loop_rounds 1 ?_
      rw[rounds_succ]
      go_wp2
      go_roundw
      case rel=>exact⟨k+1,M,by omega,by go_num,(Yk hlk (unhide HQ) (unhide HRL)).trans ((Sc h q2 M a).trans (if_neg h0)),unhide STM⟩
      case measure=>simp[intOf];omega
   ·have STP:=hide ((unhide STA).keep (Xp _ (.cells #[.int .i64 h] 3)))
    go_wp2_with (first|(at_lookup;refine wpList_lookup_own_int _ rfl _ _ 216 rfl 3 3 .i64 Vo Tryz.underlying216 Tryz.underlying3 (zero3 _) bm 11 _ rfl (unhide STA).map _ _ rfl (keyOf_int_mk Tryz.underlying3 (by decide)) ?_;intro c hat _;obtain rfl:c=0:=(Zo (by decide) (by decide) hat).trans (by decide);clear hat)|go_in)
    have SS:=hide (Nz h q2 L)
    by_cases hm:(L).length=16
    ·have gm:(16:Int)≤((L).length:Int):=by omega
     refine wp_loop_rounds 1 ?_
     rw[rounds_succ]
     go_wp2
     go_ret2
     rw[Zg hlk (unhide HQ) (unhide HRL) ((unhide SS).trans (Yu hm))]
     exact⟨none,0,rfl,RowAt.nil _ _,(unhide STP).bel,fun _=>rfl⟩
    ·have gm:¬(16:Int)≤((L).length:Int):=by omega
     have gm2:(L).length<16:=by omega
     clear hm
     cases hx:fit h with
     | false=>
      have HX:=hide hx
      clear hx
      refine wp_loop_rounds 1 ?_
      rw[rounds_succ]
      go_wp2_with (go_at_call 151;refine (Z9 h false _ (unhide HX).symm).mono ?_;rintro e w' ⟨rfl,rfl⟩)
      go_ret2
      rw[Zg hlk (unhide HQ) (unhide HRL) ((unhide SS).trans (Y0 (unhide HX)))]
      exact⟨none,0,rfl,RowAt.nil _ _,(unhide STP).bel,fun _=>rfl⟩
     | true=>
      have HX:=hide hx
      clear hx
      refine wp_loop_rounds 2 ?_
      rw[rounds_succ]
      go_wp2_with (first|(go_at_call 151;refine (Z9 h true _ (unhide HX).symm).mono ?_;rintro e w' ⟨rfl,rfl⟩)|(at_builtin;refine Zl (x:=h) rfl _ _ rfl w bm _ (L) rfl (by omega) (unhide STP) _ (by simp) rfl ?_;intro v3 w3 st3 _;have ST3:=hide st3;clear st3))
      rw[rounds_succ]
      go_wp2
      go_roundw
      case rel=>exact⟨k+1,(L)++[h],by omega,by go_num,(Yk hlk (unhide HQ) (unhide HRL)).trans ((unhide SS).trans (Xa gm2 (unhide HX))),unhide ST3⟩
      case measure=>simp[intOf];omega
   ·by_cases hs:L.length=0
    ·have e:L=[]:=List.length_eq_zero_iff.1 hs
     rw[hs]
     go_wp2_with (first|(at_lookup;refine wpList_lookup_own_int _ rfl _ _ 216 rfl 3 3 .i64 Vo Tryz.underlying216 Tryz.underlying3 (zero3 _) bm 11 _ rfl (unhide STA).map _ _ rfl (keyOf_int_mk Tryz.underlying3 (by decide)) ?_;intro c hat _;obtain rfl:c=1:=(Zo (by decide) (by decide) hat).trans (by decide);clear hat)|go_in)
     go_ret2
     rw[Zg hlk (unhide HQ) (unhide HRL) (by rw[e];exact Xs h 13 q2 (by decide) (by decide))]
     exact⟨none,0,rfl,RowAt.nil _ _,(unhide STA).bel,fun _=>rfl⟩
    ·obtain⟨M,a,rfl⟩:=Xb (L:=L) (by omega)
     have ca:(wr.alloc (.cells #[.int .i64 13,.int .i64 q2] 148)).cell? ⟨g,M.length,none⟩=some (.int .i64 a):=by have:=(unhide STA).cell M.length (by simp);simpa using this
     have STM:=hide (unhide STA).cut
     have fa:=(Zu a).1 ((unhide HL2) a (by simp))
     have hlen1:(M++[a]).length=M.length+1:=by simp
     rw[hlen1] at hL1 hc1 ⊢
     clear hs hlen1
     have hbd:=hide (Cs a ((unhide HL2) a (by simp)))
     go_wp2_with (first|(at_lookup;refine wpList_lookup_own_int _ rfl _ _ 216 rfl 3 3 .i64 Vo Tryz.underlying216 Tryz.underlying3 (zero3 _) bm 11 _ rfl (unhide STA).map _ _ rfl (keyOf_int_mk Tryz.underlying3 (by decide)) ?_;intro c hat _;obtain rfl:c=1:=(Zo (by decide) (by decide) hat).trans (by decide);clear hat)|go_in)
     go_loop [16,135] (fun r i=>∃ j:Nat,j≤3∧i = .int .i64 j∧r = .int .i64 (Pi a j)) (fun _ i=>3 - (intOf i).toNat)
     case atStart=>exact⟨0,Nat.zero_le _,rfl,rfl⟩
     case round=>
      obtain⟨j,hj,rfl,rfl⟩:=hrel
      obtain⟨b1,b2⟩:=(unhide hbd) j
      obtain⟨m,hm⟩:∃ m,m=Pi a j:=⟨_,rfl⟩
      rw[←hm] at b1 b2 ⊢
      have HM:=hide hm
      clear hm
      by_cases hj3:j<3
      ·go_wp2
       go_round
       case rel=>
        refine⟨j+1,by omega,by go_num,?_⟩
        have:=unhide HM
        simp only[Pi,←this,Int.mul_comm m 7919]
       case measure=>simp[intOf];omega
      ·have hj4:j=3:=by omega
       have STP:=hide ((unhide STM).keep (Xp _ (.cells #[.int .i64 (m % 1000001)] 3)))
       have hmo:Fa a=m % 1000001:=by unfold Fa;rw[unhide HM,hj4]
       have HMM:=hide hmo
       clear hj4 hmo
       go_wp2
       have SS:=hide (show Zz h 13 q2 (M++[a])=Z8 M [m % 1000001] from (Zbw h q2 M a).trans (by rw[unhide HMM]))
       by_cases hm:(M).length=16
       ·have gm:(16:Int)≤((M).length:Int):=by omega
        refine wp_loop_rounds 1 ?_
        rw[rounds_succ]
        go_wp2
        go_ret2
        rw[Zg hlk (unhide HQ) (unhide HRL) ((unhide SS).trans (Yu hm))]
        exact⟨none,0,rfl,RowAt.nil _ _,(unhide STP).bel,fun _=>rfl⟩
       ·have gm:¬(16:Int)≤((M).length:Int):=by omega
        have gm2:(M).length<16:=by omega
        clear hm
        cases hx:fit (m % 1000001) with
        | false=>
         have HX:=hide hx
         clear hx
         refine wp_loop_rounds 1 ?_
         rw[rounds_succ]
         go_wp2_with (go_at_call 151;refine (Z9 (m % 1000001) false _ (unhide HX).symm).mono ?_;rintro e w' ⟨rfl,rfl⟩)
         go_ret2
         rw[Zg hlk (unhide HQ) (unhide HRL) ((unhide SS).trans (Y0 (unhide HX)))]
         exact⟨none,0,rfl,RowAt.nil _ _,(unhide STP).bel,fun _=>rfl⟩
        | true=>
         have HX:=hide hx
         clear hx
         refine wp_loop_rounds 2 ?_
         rw[rounds_succ]
         go_wp2_with (first|(go_at_call 151;refine (Z9 (m % 1000001) true _ (unhide HX).symm).mono ?_;rintro e w' ⟨rfl,rfl⟩)|(at_builtin;refine Zl (x:=(m % 1000001)) rfl _ _ rfl w bm _ (M) rfl (by omega) (unhide STP) _ (by simp) rfl ?_;intro v3 w3 st3 _;have ST3:=hide st3;clear st3))
         rw[rounds_succ]
         go_wp2
         go_roundw
         case rel=>exact⟨k+1,(M)++[(m % 1000001)],by omega,by go_num,(Yk hlk (unhide HQ) (unhide HRL)).trans ((unhide SS).trans (Xa gm2 (unhide HX))),unhide ST3⟩
         case measure=>simp[intOf];omega
  ·have e:k=len:=by omega
   subst e
   clear hlt
   go_wp2
   go_ret2
   have h1:=unhide HRL
   rw[←unhide HZ,List.take_length] at h1
   rw[h1]
   obtain⟨a',cap',hv,hra,hca⟩:=(unhide HST).rowAt
   simp only[Option.getD_some,Option.isSome_some]
   exact⟨_,_,rfl,(by cases hv;exact hra),(unhide HST).bel,(by cases hv;exact hca)⟩
end Go.Proofs.YtepmnpapdknocaaGreatDoor
