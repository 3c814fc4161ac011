import Derived.Test.YtpikejjiignchaaGreatDoorG32
import Derived.Test.YtpikejjiignchaaGreatDoorG43
set_option maxHeartbeats 12800000
set_option maxRecDepth 10000
namespace Go.Proofs.YtpikejjiignchaaGreatDoor
open Go.RowKit
theorem He(p h k n:Int):Uw p h k n=true↔(0≤p∧p≤120)∧(1≤h∧h≤1000)∧(1≤k∧k≤1000)∧(0≤n∧n≤1000000000):=by
 unfold Uw
 simp[Bool.and_eq_true,decide_eq_true_eq]
theorem Ep(p h k n:Int)(a:Option Addr)(m c:Nat)(w:World)(hh:Uw p h k n=false) :
  Calls Tryz.prog 36 #[.agg #[.int .i64 p,.int .i64 h,.int .i64 k,.int .i64 n,.slice a m c]] w fun e w'=>e = .returned (.int .i64 3)∧Below w.heap.size w w':=by
 have HB:=Zb (Zf w (.cells #[.int .i64 p,.int .i64 h,.int .i64 k,.int .i64 n,.slice a m c] 68))
 have hh2:¬((0≤p∧p≤120)∧(1≤h∧h≤1000)∧(1≤k∧k≤1000)∧(0≤n∧n≤1000000000)):=fun q=>by rw[(He p h k n).2 q] at hh;cases hh
 clear hh
 by_cases c0:p<0
 ·clear hh2
  go_enter Tryz.func36,Tryz.ntmps36
  go_wp2
  go_ret
  exact⟨rfl,Za HB⟩
 by_cases c1:120<p
 ·clear hh2
  go_enter Tryz.func36,Tryz.ntmps36
  go_wp2
  go_ret
  exact⟨rfl,Za HB⟩
 by_cases c2:h<1
 ·clear hh2
  go_enter Tryz.func36,Tryz.ntmps36
  go_wp2
  go_ret
  exact⟨rfl,Za HB⟩
 by_cases c3:1000<h
 ·clear hh2
  go_enter Tryz.func36,Tryz.ntmps36
  go_wp2
  go_ret
  exact⟨rfl,Za HB⟩
 by_cases c4:k<1
 ·clear hh2
  go_enter Tryz.func36,Tryz.ntmps36
  go_wp2
  go_ret
  exact⟨rfl,Za HB⟩
 by_cases c5:1000<k
 ·clear hh2
  go_enter Tryz.func36,Tryz.ntmps36
  go_wp2
  go_ret
  exact⟨rfl,Za HB⟩
 have c6:n<0∨1000000000<n:=by omega
 have C:=Zb (fun W=>S8 n W c6)
 clear hh2 c6
 go_enter Tryz.func36,Tryz.ntmps36
 go_wp2_with fail
 refine ((Za C) _).mono ?_
 rintro e w' ⟨rfl,rfl⟩
 go_wp2
 go_ret
 exact⟨rfl,Za HB⟩
theorem Eo(p h k n:Int)(a:Option Addr)(m c:Nat)(T:List TxD)(w:World)(hT:TxsAt w a m T)(hh:Uw p h k n=true) :
  Calls Tryz.prog 36 #[.agg #[.int .i64 p,.int .i64 h,.int .i64 k,.int .i64 n,.slice a m c]] w fun e w'=>e = .returned (.int .i64 (V5 (p,h,k,n,T)))∧Below w.heap.size w w':=by
 obtain⟨X,hX⟩:∃ X,X=w.alloc (.cells #[.int .i64 p,.int .i64 h,.int .i64 k,.int .i64 n,.slice a m c] 68):=⟨_,rfl⟩
 have hbX:Below w.heap.size w X:=by rw[hX];exact Zf _ _
 have hX1:X.heap[w.heap.size]? = some (.cells [.int .i64 p,.int .i64 h,.int .i64 k,.int .i64 n,.slice a m c].toArray 68 (0,0)):=by rw[hX];exact Xq _ _ _ _ _ _ _
 have HX1:=Zb hX1
 have HBX:=Zb hbX
 have HT:=Zb (hT.later hbX)
 have hz:T.length=m:=hT.1
 obtain⟨⟨q1,q2⟩,⟨q3,q4⟩,⟨q5,q6⟩,q7,q8⟩:=(He p h k n).1 hh
 have C:=Zb (Ql n X q7 q8)
 have p1:¬p<0:=by omega
 have p2:¬120<p:=by omega
 have p3:¬h<1:=by omega
 have p4:¬1000<h:=by omega
 have p5:¬k<1:=by omega
 have p6:¬1000<k:=by omega
 unfold V5
 simp only
 rw[hz,if_neg (by simp[hh])]
 have x0:=Zd hX1 0 _ rfl
 have x1:=Zd hX1 1 _ rfl
 have x2:=Zd hX1 2 _ rfl
 have x3:=Zd hX1 3 _ rfl
 have x4:=Zd hX1 4 _ rfl
 have xl:=lt_of_block hX1
 clear hbX hX1 hT hh q1 q2 q3 q4 q5 q6 q7 q8
 by_cases h4:4<m
 ·rw[if_pos h4]
  have g4:(4:Int)<(m:Int):=by omega
  clear hz
  go_enter Tryz.func36,Tryz.ntmps36
  go_wp2_with fail
  rw[←hX]
  clear hX
  refine (Za C).mono ?_
  rintro e w' ⟨rfl,rfl⟩
  go_wp2
  go_ret
  exact⟨rfl,Za HBX⟩
 ·rw[if_neg h4]
  by_cases h0:m=0
  ·subst h0
   rw[if_pos rfl]
   clear hz h4
   go_enter Tryz.func36,Tryz.ntmps36
   go_wp2_with fail
   rw[←hX]
   clear hX
   refine (Za C).mono ?_
   rintro e w' ⟨rfl,rfl⟩
   go_wp2
   go_ret
   exact⟨rfl,Za HBX⟩
  ·rw[if_neg h0]
   have g0:((m:Int) == 0)=false:=by simp[h0]
   have g4:¬(4:Int)<(m:Int):=by omega
   have HZ:=Zb hz
   obtain⟨b,off,rfl,hbl,hcell⟩:=(Za HT).2 (by omega)
   have HC:=Zb hcell
   clear hz hcell
   go_enter Tryz.func36,Tryz.ntmps36
   go_wp2_with fail
   rw[←hX]
   clear hX
   refine (Za C).mono ?_
   rintro e w' ⟨rfl,rfl⟩
   go_wp2
   go_loopw [52] (fun i wr=>∃ j:Nat,j≤m∧i = .int .i64 j∧Hid (Yu h 0 T=Yu h j (T.drop j))∧Hid (Below X.heap.size X wr)) (fun i _=>m - (intOf i).toNat)
   case atStart=>exact⟨0,Nat.zero_le _,rfl,rfl,(Below.refl _ _:Below X.heap.size X X)⟩
   case round=>
    obtain⟨j,hj,rfl,A,HBr⟩:=hrel
    clear x0 x1 x2 x3 x4 xl
    by_cases hlt:j<m
    ·have hlk:j<T.length:=by rw[Za HZ];exact hlt
     have hin:=TxAt.kept _ _ _ _ _ (Za HBr) ((Za HC) j hlk)
     have ST:=Zb (Fl h T j hlk)
     obtain⟨t,ht⟩:∃ t,T[j]=t:=⟨_,rfl⟩
     rw[ht] at hin ST
     obtain⟨t1,I,O⟩:=t
     obtain⟨g0',⟨ai,ni,ci,g1,hI,sI⟩,ao,no,co,g2,hO,_⟩:=hin
     have A2:Hid (Yu h 0 T=if Zo (t1,I,O)≠0 then Zo (t1,I,O) else if Vy (t1,I,O) j h=false then 4 else Yu h (j+1) (T.drop (j+1))):=by show _=_;rw[Za A,Za ST]
     simp only at g0' g1 g2 hI hO
     obtain⟨Y,hY⟩:∃ Y,Y=wr.alloc (.cells #[.int .i64 t1,.slice ai ni ci,.slice ao no co] 52):=⟨_,rfl⟩
     have hbY:Below wr.heap.size wr Y:=by rw[hY];exact Zf _ _
     have hY1:Y.heap[wr.heap.size]? = some (.cells [.int .i64 t1,.slice ai ni ci,.slice ao no co].toArray 52 (0,0)):=by rw[hY];exact Zl _ _ _ _ _
     have HY1:=Zb hY1
     have HBY:=Zb (Ze (Za HBr) hbY)
     have y0:=Zd hY1 0 _ rfl
     have y1:=Zd hY1 1 _ rfl
     have y2:=Zd hY1 2 _ rfl
     have yl:=lt_of_block hY1
     obtain⟨x,hx⟩:∃ x,Zo (t1,I,O)=x:=⟨_,rfl⟩
     have CT:=Zb (R8 t1 ai ao ni ci no co I O Y (hI.later hbY) (hO.later hbY))
     rw[hx] at A2 CT
     have SD:Hid (Vy (t1,I,O) j h=if 0<(j:Int) then !decide (ni=0) else decide (ni=0) && decide (t1=h)):=by
      show _=_
      unfold Vy
      simp only
      rw[hI.1]
     clear hbY hY1 A ST ht hI hO sI hx
     by_cases hx0:x=0
     ·subst hx0
      have A3:Hid (Yu h 0 T=if (if 0<(j:Int) then !decide (ni=0) else decide (ni=0) && decide (t1=h))=false then 4 else Yu h (j+1) (T.drop (j+1))):=by
       have q:=Za A2
       rw[if_neg (by decide),Za SD] at q
       exact q
      clear A2 SD
      go_wp2_with fail
      rw[←hY]
      clear hY
      go_wp2_with fail
      refine (Za CT).mono ?_
      rintro e w2 ⟨rfl,hb2⟩
      have hy2:=(hb2.block _ (lt_of_block (Za HY1))).trans (Za HY1)
      have HB2:=Zb (Ze (Za HBY) hb2)
      have hh2:=((Za HB2).block _ (lt_of_block (Za HX1))).trans (Za HX1)
      have z0:=Zd hy2 0 _ rfl
      have z1:=Zd hy2 1 _ rfl
      have z2:=Zd hy2 2 _ rfl
      have zl:=lt_of_block hy2
      have k1:=Zd hh2 1 _ rfl
      have kl:=lt_of_block hh2
      have HBF:=Zb (Ze (Za HBX) (Za HB2))
      clear hb2 hy2 hh2 y0 y1 y2 yl g0' g1 g2
      by_cases j0:j=0
      ·have gj:((j:Int) == 0)=true:=by simp[j0]
       have gj2:¬(0:Int)<(j:Int):=by omega
       by_cases n0:ni=0
       ·subst n0
        by_cases e1:t1=h
        ·subst e1
         have gt:(t1 != t1)=false:=by simp
         have R:Hid (Yu t1 0 T=Yu t1 (j+1) (T.drop (j+1))):=by show _=_;rw[Za A3,if_neg gj2];simp
         clear A3 j0
         go_wp2
         go_roundw
         case rel=>exact⟨j+1,by omega,by go_num,R,HB2⟩
         case measure=>simp[intOf];omega
        ·have gt:(t1 != h)=true:=by simp[e1]
         have R:Hid (Yu h 0 T=4):=by show _=_;rw[Za A3,if_neg gj2];simp[e1]
         clear A3 j0 e1
         go_wp2
         go_ret
         exact⟨by rw[Za R];rfl,Za HBF⟩
       ·have gn:((ni:Int) == 0)=false:=by simp[n0]
        have R:Hid (Yu h 0 T=4):=by show _=_;rw[Za A3,if_neg gj2];simp[n0]
        clear A3 j0 n0
        go_wp2
        go_ret
        exact⟨by rw[Za R];rfl,Za HBF⟩
      ·have gj:((j:Int) == 0)=false:=by simp[j0]
       have gj2:(0:Int)<(j:Int):=by omega
       by_cases n0:ni=0
       ·subst n0
        have R:Hid (Yu h 0 T=4):=by show _=_;rw[Za A3,if_pos gj2];simp
        clear A3 j0
        go_wp2
        go_ret
        exact⟨by rw[Za R];rfl,Za HBF⟩
       ·have gn:((ni:Int) == 0)=false:=by simp[n0]
        have R:Hid (Yu h 0 T=Yu h (j+1) (T.drop (j+1))):=by show _=_;rw[Za A3,if_pos gj2];simp[n0]
        clear A3 j0 n0
        go_wp2
        go_roundw
        case rel=>exact⟨j+1,by omega,by go_num,R,HB2⟩
        case measure=>simp[intOf];omega
     ·have R:Hid (Yu h 0 T=x):=by show _=_;rw[Za A2,if_pos hx0]
      have gx:(x != 0)=true:=by simp[hx0]
      clear A2 hx0 SD
      go_wp2_with fail
      rw[←hY]
      clear hY
      go_wp2_with fail
      refine (Za CT).mono ?_
      rintro e w2 ⟨rfl,hb2⟩
      have HBF:=Zb (Ze (Za HBX) (Ze (Za HBY) hb2))
      clear hb2
      go_wp2
      go_ret
      exact⟨by rw[Za R];rfl,Za HBF⟩
    ·have R:Hid (Yu h 0 T=0):=by show _=_;rw[Za A,Lr h T j (by rw[Za HZ];omega)]
     have HBF:=Zb (Ze (Za HBX) (Za HBr))
     clear A
     go_wp2
     go_ret
     exact⟨by rw[Za R];rfl,Za HBF⟩
theorem Kf(p h k n:Int)(a:Option Addr)(m c:Nat)(T:List TxD)(x:Int)(w:World)(hT:TxsAt w a m T)(hx:V5 (p,h,k,n,T)=x) :
  Calls Tryz.prog 36 #[.agg #[.int .i64 p,.int .i64 h,.int .i64 k,.int .i64 n,.slice a m c]] w fun e w'=>e = .returned (.int .i64 x)∧Below w.heap.size w w':=by
 subst hx
 cases hh:Uw p h k n with
 | false=>
  have e:V5 (p,h,k,n,T)=3:=by unfold V5;simp only;rw[if_pos hh]
  rw[e]
  exact Ep p h k n a m c w hh
 | true=>exact Eo p h k n a m c T w hT hh
def FeI(w:World)(b:Nat)(F:Int):Prop:=w.heap[b]? = some (.cells #[.int .i64 F] 3 (0,0))
theorem Bp(b p:Nat)(va:Option Addr)(vc:Nat)(K:List (List Value))(L:List TxD)(fee:Int)(u0 u1 u2:Value)(t:TxD)(wA w:World)(h:PSt b p wA (.slice va L.length vc) K L)(hb:Below wA.heap.size wA w)(hF:Fresh wA.heap.size w (fun w2=>Tr.txR.C w2 [u0,u1,u2] t))(hl:L.length<8) :
  Calls Tryz.prog 51 (#[.agg #[u0,u1,u2],.int .i64 fee]++#[.pointer (some ⟨b,0,none⟩)]) w fun e w'=>e = .returned (.tuple #[])∧(∃ v',∃ K',PSt b p w' v' K' (L++[t]))∧Gr w w' (fun q=>q=b∨(Value.slice va L.length vc).ownBlock=some q):=by
 obtain⟨i0,hi,hz0,hz1,hz2⟩:=info_parts Tryz.infoTx9
 obtain⟨ai,ni,ci,ao,no,co,e,_⟩:=hF w (Gr.refl _ _)
 simp only[List.cons.injEq,and_true] at e
 obtain⟨rfl,rfl,rfl⟩:=e
 obtain⟨U,hU⟩:∃ U,U=(w.alloc (.cells #[.int .i64 t.1,.slice ai ni ci,.slice ao no co] 52)).alloc (.cells #[.int .i64 t.1,.slice ai ni ci,.slice ao no co] 52):=⟨_,rfl⟩
 have hbU:Below w.heap.size w U:=by rw[hU];exact Ze (Zf _ _) (Zf _ _)
 have hU1:U.heap[w.heap.size+1]? = some (.cells #[.int .i64 t.1,.slice ai ni ci,.slice ao no co] 52 (0,0)):=by
  rw[hU]
  have:=Zl (w.alloc (.cells #[.int .i64 t.1,.slice ai ni ci,.slice ao no co] 52)) (.int .i64 t.1) (.slice ai ni ci) (.slice ao no co) 52
  rw[show (w.alloc (.cells #[.int .i64 t.1,.slice ai ni ci,.slice ao no co] 52)).heap.size=w.heap.size+1 by simp] at this
  exact this
 have hUs:U.heap.size=w.heap.size+2:=by rw[hU];simp
 have hbp:=h.bp
 have hpl:=h.pl
 have hsz:=hb.size
 have hAU:=Ze hb hbU
 have OWNU:U.ownsRow (p+1) 52 3 (.slice va L.length vc) L.length K.flatten:=(Gr.of (S:=fun _=>False) hAU).own h.own (fun _ _ q=>q)
 have bxw:=(hb.block b (by omega)).trans h.box
 have bxU:=(hAU.block b (by omega)).trans h.box
 have b0:=Zd bxw 0 _ rfl
 have bl:b<w.heap.size:=lt_of_block bxw
 have NEWR:Hid (∀ j u,[Value.int .i64 t.1,.slice ai ni ci,.slice ao no co][j]? = some u→World.cell? ((w.alloc (.cells #[.int .i64 t.1,.slice ai ni ci,.slice ao no co] 52)).alloc (.cells #[.int .i64 t.1,.slice ai ni ci,.slice ao no co] 52)) ((⟨w.heap.size+1,0,none⟩:Addr).add j)=some u):=by rw[←hU];exact World.news_of_block hU1
 have OWNR:Hid (World.ownsRow ((w.alloc (.cells #[.int .i64 t.1,.slice ai ni ci,.slice ao no co] 52)).alloc (.cells #[.int .i64 t.1,.slice ai ni ci,.slice ao no co] 52)) (p+1) 52 3 (.slice va L.length vc) L.length K.flatten):=by rw[←hU];exact OWNU
 have SZR:p+1≤((w.alloc (.cells #[.int .i64 t.1,.slice ai ni ci,.slice ao no co] 52)).alloc (.cells #[.int .i64 t.1,.slice ai ni ci,.slice ao no co] 52)).heap.size:=by rw[←hU];omega
 have HNB:Hid (∀ q,q≤p→(Value.slice va L.length vc).ownBlock≠some q):=fun q hq e=>by have:=(h.own.lt q e).1;omega
 have HH:=Zb h
 have HBW:=Zb hb
 have HFF:=Zb hF
 have HBU:=Zb hbU
 have BXU:=Zb bxU
 have HLL:=Zb hl
 obtain⟨n,hn⟩:∃ n,L.length=n:=⟨_,rfl⟩
 have HN:=Zb hn
 rw[hn] at OWNR HLL b0 HNB BXU HH bxU
 simp only[hn]
 clear h hb hF hbU hU1 OWNU bxw hAU hpl hsz hn hl
 go_enter Tryz.func51,Tryz.ntmps51
 go_wp2_with (at_builtin;refine wpList_append_lies _ rfl _ _ 48 rfl (p+1) 52 i0 (.agg #[.int .i64 0,.slice none 0 0,.slice none 0 0]) 3 56 Tryz.underlying48 hi hz0 hz1 hz2 rfl (by decide) _ _ _ rfl (Za OWNR) ⟨w.heap.size+1,0,none⟩ 1 1 [.int .i64 t.1,.slice ai ni ci,.slice ao no co] rfl rfl (Za NEWR) (fun u hu=>by simp at hu;rcases hu with rfl|rfl|rfl <;> rfl) (by decide) (by have:=Za HLL;unfold maxLen;omega) (by have:=Za HLL;omega) SZR _ rfl ?_;intro g7 cap7 w7 hown7 hgrow7 hor7 _;rw[←hU] at hgrow7 hor7;have hx7:=(hgrow7.block b (lt_of_block (Za BXU)) (fun e=>(Za HNB) b (by omega) e.symm)).trans (Za BXU);have HX7:=Zb hx7;have HO7:=Zb hown7;have HG7:=Zb hgrow7;have HOR7:=Zb hor7;have yy0:=Zd hx7 0 _ rfl;have yyl:=lt_of_block hx7;have yyf:=Zh hx7 0;clear hx7 hown7 hgrow7 hor7)
 have PU:=PSt.push (v':=.slice (some ⟨g7,0,none⟩) (n+1) cap7) (Za HH) (Za HBW) (Za HFF) (Za HBU) (Za HG7) (by rw[Za HN];exact Za HO7) (by
  rcases Za HOR7 with q|q
  ·exact .inl q
  ·exact .inr ⟨g7,rfl,by omega⟩)
 have HPU:=Zb PU
 clear PU
 (try go_wp2)
 ((try simp only[Exit.inBlock,Exit.then]);first|refine bodyPost_end (results_none rfl _ _ _) rfl ?_|refine bodyPost_ret (results_none rfl _ _ _) rfl ?_)
 exact⟨rfl,⟨_,_,(Za HPU).1⟩,(Za HPU).2⟩
theorem Zda(b b2 p:Nat)(va:Option Addr)(vc:Nat)(K:List (List Value))(L:List TxD)(fee:Int)(u0 u1 u2:Value)(t:TxD)(wA w:World)(h:PSt b p wA (.slice va L.length vc) K L)(F:Int)(h2:FeI wA b2 F)(hne:b≠b2)(hb2:b2<p)(f1:0≤F)(f2:F≤1000000000)(f3:0≤fee)(f4:fee≤1000000000)(hb:Below wA.heap.size wA w)(hF:Fresh wA.heap.size w (fun w2=>Tr.txR.C w2 [u0,u1,u2] t))(hl:L.length<3) :
  Calls Tryz.prog 65 (#[.agg #[u0,u1,u2],.int .i64 fee]++#[.pointer (some ⟨b,0,none⟩),.pointer (some ⟨b2,0,none⟩)]) w fun e w'=>e = .returned (.tuple #[])∧(∃ v',∃ K',PSt b p w' v' K' (L++[t])∧FeI w' b2 (F+fee))∧Gr w w' (fun q=>(q=b∨q=b2)∨(Value.slice va L.length vc).ownBlock=some q):=by
 obtain⟨i0,hi,hz0,hz1,hz2⟩:=info_parts Tryz.infoTx9
 obtain⟨ai,ni,ci,ao,no,co,e,_⟩:=hF w (Gr.refl _ _)
 simp only[List.cons.injEq,and_true] at e
 obtain⟨rfl,rfl,rfl⟩:=e
 obtain⟨U,hU⟩:∃ U,U=(w.alloc (.cells #[.int .i64 t.1,.slice ai ni ci,.slice ao no co] 52)).alloc (.cells #[.int .i64 t.1,.slice ai ni ci,.slice ao no co] 52):=⟨_,rfl⟩
 have hbU:Below w.heap.size w U:=by rw[hU];exact Ze (Zf _ _) (Zf _ _)
 have hU1:U.heap[w.heap.size+1]? = some (.cells #[.int .i64 t.1,.slice ai ni ci,.slice ao no co] 52 (0,0)):=by
  rw[hU]
  have:=Zl (w.alloc (.cells #[.int .i64 t.1,.slice ai ni ci,.slice ao no co] 52)) (.int .i64 t.1) (.slice ai ni ci) (.slice ao no co) 52
  rw[show (w.alloc (.cells #[.int .i64 t.1,.slice ai ni ci,.slice ao no co] 52)).heap.size=w.heap.size+1 by simp] at this
  exact this
 have hUs:U.heap.size=w.heap.size+2:=by rw[hU];simp
 have hbp:=h.bp
 have hpl:=h.pl
 have hsz:=hb.size
 have hAU:=Ze hb hbU
 have OWNU:U.ownsRow (p+1) 52 3 (.slice va L.length vc) L.length K.flatten:=(Gr.of (S:=fun _=>False) hAU).own h.own (fun _ _ q=>q)
 have bxw:=(hb.block b (by omega)).trans h.box
 have bxU:=(hAU.block b (by omega)).trans h.box
 have b0:=Zd bxw 0 _ rfl
 have bl:b<w.heap.size:=lt_of_block bxw
 have fxU:=(hAU.block b2 (by omega)).trans h2
 have NEWR:Hid (∀ j u,[Value.int .i64 t.1,.slice ai ni ci,.slice ao no co][j]? = some u→World.cell? ((w.alloc (.cells #[.int .i64 t.1,.slice ai ni ci,.slice ao no co] 52)).alloc (.cells #[.int .i64 t.1,.slice ai ni ci,.slice ao no co] 52)) ((⟨w.heap.size+1,0,none⟩:Addr).add j)=some u):=by rw[←hU];exact World.news_of_block hU1
 have OWNR:Hid (World.ownsRow ((w.alloc (.cells #[.int .i64 t.1,.slice ai ni ci,.slice ao no co] 52)).alloc (.cells #[.int .i64 t.1,.slice ai ni ci,.slice ao no co] 52)) (p+1) 52 3 (.slice va L.length vc) L.length K.flatten):=by rw[←hU];exact OWNU
 have SZR:p+1≤((w.alloc (.cells #[.int .i64 t.1,.slice ai ni ci,.slice ao no co] 52)).alloc (.cells #[.int .i64 t.1,.slice ai ni ci,.slice ao no co] 52)).heap.size:=by rw[←hU];omega
 have HNB:Hid (∀ q,q≤p→(Value.slice va L.length vc).ownBlock≠some q):=fun q hq e=>by have:=(h.own.lt q e).1;omega
 have HH:=Zb h
 have HBW:=Zb hb
 have HFF:=Zb hF
 have HBU:=Zb hbU
 have BXU:=Zb bxU
 have HLL:=Zb hl
 obtain⟨n,hn⟩:∃ n,L.length=n:=⟨_,rfl⟩
 have FXU:=Zb fxU
 have fw:w.cell? ⟨b2,0,none⟩=some (.int .i64 F):=Zd ((hb.block b2 (by omega)).trans h2) 0 _ rfl
 have HN:=Zb hn
 rw[hn] at OWNR HLL b0 HNB BXU HH bxU
 simp only[hn]
 clear h hb hF hbU hU1 OWNU bxw hAU hpl hsz hn hl h2 fxU
 go_enter Tryz.func65,Tryz.ntmps65
 have gl:(n:Int)<3:=by have:=Za HLL;omega
 go_wp2_with (at_builtin;refine wpList_append_lies _ rfl _ _ 48 rfl (p+1) 52 i0 (.agg #[.int .i64 0,.slice none 0 0,.slice none 0 0]) 3 56 Tryz.underlying48 hi hz0 hz1 hz2 rfl (by decide) _ _ _ rfl (Za OWNR) ⟨w.heap.size+1,0,none⟩ 1 1 [.int .i64 t.1,.slice ai ni ci,.slice ao no co] rfl rfl (Za NEWR) (fun u hu=>by simp at hu;rcases hu with rfl|rfl|rfl <;> rfl) (by decide) (by have:=Za HLL;unfold maxLen;omega) (by have:=Za HLL;omega) SZR _ rfl ?_;intro g7 cap7 w7 hown7 hgrow7 hor7 _;rw[←hU] at hgrow7 hor7;have hx7:=(hgrow7.block b (lt_of_block (Za BXU)) (fun e=>(Za HNB) b (by omega) e.symm)).trans (Za BXU);have HX7:=Zb hx7;have HO7:=Zb hown7;have HG7:=Zb hgrow7;have HOR7:=Zb hor7;have yy0:=Zd hx7 0 _ rfl;have yyl:=lt_of_block hx7;have yyf:=Zh hx7 0;have hf7:=(hgrow7.block b2 (lt_of_block (Za FXU)) (fun e=>(Za HNB) b2 (by omega) e.symm)).trans (Za FXU);have HF7:=Zb hf7;have ff0:=Zd hf7 0 _ rfl;have ffl:=lt_of_block hf7;have fff:=Zh hf7 0;clear hf7;clear hx7 hown7 hgrow7 hor7)
 have PU:=PSt.push (v':=.slice (some ⟨g7,0,none⟩) (n+1) cap7) (Za HH) (Za HBW) (Za HFF) (Za HBU) (Za HG7) (by rw[Za HN];exact Za HO7) (by
  rcases Za HOR7 with q|q
  ·exact .inl q
  ·exact .inr ⟨g7,rfl,by omega⟩)
 have g9:Gr (w7.setCell ⟨b,0,none⟩ (.slice (some ⟨g7,0,none⟩) (n+1) cap7)) ((w7.setCell ⟨b,0,none⟩ (.slice (some ⟨g7,0,none⟩) (n+1) cap7)).setCell ⟨b2,0,none⟩ (.int .i64 (F+fee))) (fun q=>q=b2):=(Gr.refl _ (fun q=>q=b2)).one b2 0 (.inl rfl) _
 have R1:=Zb (PU.1.on g9 (fun q e=>by subst e;exact⟨by omega,fun q=>hne q.symm⟩))
 have R2:Hid (FeI ((w7.setCell ⟨b,0,none⟩ (.slice (some ⟨g7,0,none⟩) (n+1) cap7)).setCell ⟨b2,0,none⟩ (.int .i64 (F+fee))) b2 (F+fee)):=Ur ((heap_setCell_other w7 ⟨b,0,none⟩ b2 _ (fun e=>hne e.symm)).trans (Za HF7))
 have R3:Hid (Gr w ((w7.setCell ⟨b,0,none⟩ (.slice (some ⟨g7,0,none⟩) (n+1) cap7)).setCell ⟨b2,0,none⟩ (.int .i64 (F+fee))) (fun q=>(q=b∨q=b2)∨(Value.slice va n vc).ownBlock=some q)):=(PU.2.mono (fun q _ e=>e.elim (fun e=>.inl (.inl e)) .inr)).trans (g9.mono (fun q _ e=>.inl (.inr e)))
 clear PU g9
 (try go_wp2)
 ((try simp only[Exit.inBlock,Exit.then]);first|refine bodyPost_end (results_none rfl _ _ _) rfl ?_|refine bodyPost_ret (results_none rfl _ _ _) rfl ?_)
 exact⟨rfl,⟨_,_,Za R1,Za R2⟩,Za R3⟩
theorem Am(b b2 p:Nat)(va:Option Addr)(vc:Nat)(K:List (List Value))(L:List TxD)(fee:Int)(u0 u1 u2:Value)(t:TxD)(wA w:World)(h:PSt b p wA (.slice va L.length vc) K L)(hb:Below wA.heap.size wA w)(hF:Fresh wA.heap.size w (fun w2=>Tr.txR.C w2 [u0,u1,u2] t))(hl:3≤L.length) :
  Calls Tryz.prog 65 (#[.agg #[u0,u1,u2],.int .i64 fee]++#[.pointer (some ⟨b,0,none⟩),.pointer (some ⟨b2,0,none⟩)]) w fun e w'=>e = .returned (.tuple #[])∧Below w.heap.size w w':=by
 obtain⟨ai,ni,ci,ao,no,co,e,_⟩:=hF w (Gr.refl _ _)
 simp only[List.cons.injEq,and_true] at e
 obtain⟨rfl,rfl,rfl⟩:=e
 have HB:=Zb (Zf w (.cells #[.int .i64 t.1,.slice ai ni ci,.slice ao no co] 52))
 have hbp:=h.bp
 have hpl:=h.pl
 have bxw:=(hb.block b (by omega)).trans h.box
 have b0:=Zd bxw 0 _ rfl
 have bl:b<w.heap.size:=lt_of_block bxw
 have gl:¬((L.length:Int)<3):=by omega
 obtain⟨n,hn⟩:∃ n,L.length=n:=⟨_,rfl⟩
 rw[hn] at b0 gl
 clear h hb hF hbp hpl bxw hl hn
 go_enter Tryz.func65,Tryz.ntmps65
 go_wp2
 ((try simp only[Exit.inBlock,Exit.then]);first|refine bodyPost_end (results_none rfl _ _ _) rfl ?_|refine bodyPost_ret (results_none rfl _ _ _) rfl ?_)
 exact⟨rfl,Za HB⟩
def D0(lo hi:Nat):Nat→Prop:=fun q=>(lo≤q∧q<hi)∨(Value.slice none 0 0).ownBlock=some q
theorem D0.ge{lo hi q:Nat}(h:D0 lo hi q):lo≤q∧q<hi:=by
 rcases h with h|h
 ·exact h
 ·cases h
def DV(lo hi:Nat)(v:Value):Nat→Prop:=fun q=>(lo≤q∧q<hi)∨v.ownBlock=some q
theorem DV.dirty{lo hi b p:Nat}{w:World}{v:Value}{K:List (List Value)}{L:List TxD}{N0:Nat}(h:PSt b p w v K L)(hh:hi≤N0)(hp:N0≤p)(q:Nat)(hq:DV lo hi v q):q≠p∧q<w.heap.size∧(D0 lo hi q∨N0≤q):=by
 have:=h.pl
 rcases hq with e|e
 ·exact⟨by omega,by omega,.inl (.inl e)⟩
 ·have:=h.own.lt q e
  exact⟨by omega,this.2,.inr (by omega)⟩
theorem Fv{C:List Zg}(h:Z5 C):0≤Zp C:=Wo C (fun c hc=>by have:=Yp (h.one c hc);omega)
theorem PSt.reads{b p:Nat}{w w2:World}{va:Option Addr}{vc:Nat}{K:List (List Value)}{L:List TxD}{S:Nat→Prop}(h:PSt b p w (.slice va L.length vc) K L)(g:Gr w w2 S)(hS:∀ q,S q→q≤p):TxsAt w2 va L.length L∧SlOk va L.length vc:=by
 have o:=g.own h.own (fun k hk e=>by have:=(h.own.lt k hk).1;have:=hS k e;omega)
 obtain⟨a,c,e,h1,h2⟩:=Tr.rows_of_own Tr.txR o (h.kept w2 (g.mono (fun q _ e=>.inl (hS q e)))) rfl
 injection e with e1 _ e3
 subst e1 e3
 exact⟨h1,h2⟩
def Ui(w:World):List Obj→World
 | []=>w
 | o :: r=>Ui (w.alloc o) r
theorem Jm:∀ (os:List Obj) (w:World),(Ui w os).heap.size=w.heap.size+os.length
 | [],_=>rfl
 | o :: r,w=>by rw[Ui,Jm r,List.length_cons];simp;omega
theorem Wa:∀ (os:List Obj) (w:World),Below w.heap.size w (Ui w os)
 | [],_=>Below.refl _ _
 | o :: r,w=>Ze (Zf w o) (Wa r (w.alloc o))
theorem Yg:∀ (os:List Obj) (w:World) (i:Nat) (o:Obj),os[i]? = some o→(Ui w os).heap[w.heap.size+i]? = some o
 | [],_,_,_,h=>by simp at h
 | o :: r,w,0,x,h=>by
  simp at h;subst h
  have h1:(w.alloc o).heap[w.heap.size]? = some o:=heap_alloc_new w o
  exact ((Wa r (w.alloc o)).block _ (lt_of_block h1)).trans h1
 | o :: r,w,i+1,x,h=>by
  have:=Yg r (w.alloc o) i x (by simpa using h)
  rw[show (w.alloc o).heap.size+i=w.heap.size+(i+1) by simp;omega] at this
  exact this
def Jz(g:TxD→Bool):List TxD→Nat→Int
 | [],_=>-1
 | t :: r,k=>if g t=true then k else Jz g r (k+1)
theorem Zgd(g:TxD→Bool)(L:List TxD)(k:Nat)(h:k<L.length):Jz g (L.drop k) k=if g L[k]=true then (k:Int) else Jz g (L.drop (k+1)) (k+1):=by
 rw[List.drop_eq_getElem_cons h,Jz]
theorem Dy(g:TxD→Bool):∀ (L:List TxD) (k:Nat),decide (0≤Jz g L k)=L.any g
 | [],_=>by simp[Jz]
 | t :: r,k=>by
  rw[Jz,List.any_cons]
  by_cases h:g t=true
  ·rw[if_pos h,h];simp
  ·have h':g t=false:=by simpa using h
   rw[if_neg h,Dy g r,h',Bool.false_or]
structure Bq(f:Nat)(caps:Array Value)(W0:World)(g:TxD→Bool):Prop where
 enters:∀ args w,(callFunc f args).run Tryz.prog w = .ok (.enter f args) w
 call:∀ w,Below W0.heap.size W0 w→∀ (th:Int) (ai ao:Option Addr) (ni ci no co:Nat) (I:List InD) (O:List Zw),InsAt w ai ni I→OutsAt w ao no O→SlOk ai ni ci→SlOk ao no co →
  Calls Tryz.prog f (#[.agg #[.int .i64 th,.slice ai ni ci,.slice ao no co]]++caps) w fun e w'=>e = .returned (.bool (g (th,I,O)))∧Below w.heap.size w w'
theorem Aq(f:Nat)(caps:Array Value)(g:TxD→Bool)(a:Option Addr)(n c:Nat)(L:List TxD)(w:World)(hT:Bq f caps w g)(hL:TxsAt w a n L)(hn:n≤maxLen) :
  Calls Tryz.prog 92 #[.slice a n c,.func (.func f) #[] caps] w fun e w'=>e = .returned (.int .i64 (Jz g L 0))∧Below w.heap.size w w':=by
 have HT:=Zb hT
 have HL:=Zb hL
 have HZ:=Zb hL.1
 have hn':n≤9223372036854775807:=hn
 clear hT hL hn
 go_enter Tryz.func92,Tryz.ntmps92
 go_wp2
 go_loopw [5,8] (fun _ i wr=>∃ k:Nat,k≤n∧i = .int .i64 k∧Hid (Jz g L 0=Jz g (L.drop k) k)∧Below w.heap.size w wr) (fun _ i _=>n - (intOf i).toNat)
 case atStart=>exact⟨0,Nat.zero_le _,rfl,rfl,Below.refl _ _⟩
 case round=>
  obtain⟨k,hk,rfl,A,hb⟩:=hrel
  have HB:=Zb hb
  by_cases hlt:k<n
  ·have hlk:k<L.length:=by rw[Za HZ];exact hlt
   obtain⟨b,off,rfl,hbl,hrow⟩:=(Za HL).2 (by omega)
   obtain⟨c0,⟨ai,ni,ci,c1,hI1,sI1⟩,ao,no,co,c2,hO1,sO1⟩:=hrow k hlk
   have c0:=Zc hb c0
   have c1:=Zc hb c1
   have c2:=Zc hb c2
   have hbl:b<wr.heap.size:=Nat.lt_of_lt_of_le hbl hb.size
   have S:=Zb (Zgd g L k hlk)
   obtain⟨t,ht⟩:∃ t,L[k]=t:=⟨_,rfl⟩
   rw[ht] at c0 hI1 hO1 S
   obtain⟨th,tI,tO⟩:=t
   have CC:=Zb ((Za HT).call wr hb th ai ao ni ci no co tI tO (hI1.later hb) (hO1.later hb) sI1 sO1)
   have eg:=(Za HT).enters
   simp only at c0
   clear hI1 hO1 sI1 sO1 ht hrow hb
   cases hg:g (th,tI,tO) with
   | true=>
    rw[hg] at CC S
    have S2:Hid (Jz g L 0=k):=by show _=_;rw[Za A,Za S,if_pos rfl]
    clear S A hg
    go_wp2_with fail
    refine (Za CC).mono ?_
    rintro e w2 ⟨rfl,hb2⟩
    have HB2:=Zb (Ze (Za HB) hb2)
    clear hb2 CC
    go_wp2
    go_ret
    exact⟨by rw[Za S2];rfl,Za HB2⟩
   | false=>
    rw[hg] at CC S
    have S2:Hid (Jz g L 0=Jz g (L.drop (k+1)) (k+1)):=by show _=_;rw[Za A,Za S,if_neg (by decide)]
    clear S A hg
    go_wp2_with fail
    refine (Za CC).mono ?_
    rintro e w2 ⟨rfl,hb2⟩
    have HB2:=Zb (Ze (Za HB) hb2)
    clear hb2 CC
    go_wp2
    go_roundw
    case rel=>exact⟨k+1,by omega,by go_num,S2,Za HB2⟩
    case measure=>simp[intOf];omega
  ·have S2:Hid (Jz g L 0 = -1):=by
    show _=_
    rw[Za A,List.drop_of_length_le (by rw[Za HZ];omega)];rfl
   clear A hb
   go_wp2
   go_ret
   exact⟨by rw[Za S2];rfl,Za HB⟩
theorem Kj(f:Nat)(caps:Array Value)(g:TxD→Bool)(a:Option Addr)(n c:Nat)(L:List TxD)(o:Bool)(w:World)(hT:Bq f caps w g)(hL:TxsAt w a n L)(hn:n≤maxLen)(ho:L.any g=o) :
  Calls Tryz.prog 52 #[.slice a n c,.func (.func f) #[] caps] w fun e w'=>e = .returned (.bool o)∧Below w.heap.size w w':=by
 have C1:=Zb (Aq f caps g a n c L w hT hL hn)
 have HO:Hid (decide (0≤Jz g L 0)=o):=by show _=_;rw[Dy];exact ho
 obtain⟨i,hi⟩:∃ i,Jz g L 0=i:=⟨_,rfl⟩
 rw[hi] at C1 HO
 clear hT hL hn ho hi
 go_enter Tryz.func52,Tryz.ntmps52
 go_wp2_with fail
 refine (Za C1).mono ?_
 rintro e w1 ⟨rfl,hb⟩
 have HB:=Zb hb
 clear hb C1
 go_wp2
 go_ret
 exact⟨by rw[←Za HO];rfl,Za HB⟩
theorem M8(p:Nat)(th:Int)(ai ao:Option Addr)(ni ci no co:Nat)(I:List InD)(O:List Zw)(w:World)(hp:w.heap[p]? = some (.cells [.int .i64 th,.slice ai ni ci,.slice ao no co].toArray 52 (0,0)))(hI:InsAt w ai ni I)(hO:OutsAt w ao no O) :
  Bq 53 #[.pointer (some ⟨p,0,none⟩)] w (fun x=>Vm x (th,I,O)) where
 enters:=enters_of (fn:=Tryz.f53) (by kernel_rfl) (by kernel_rfl) rfl
 call V hV xh bi bo mi di mo eo J P hJ hP sJ sP:=by
  obtain⟨X,hX⟩:∃ X,X=V.alloc (.cells #[.int .i64 xh,.slice bi mi di,.slice bo mo eo] 52):=⟨_,rfl⟩
  have hbX:Below V.heap.size V X:=by rw[hX];exact Zf _ _
  have hX0:X.heap[V.heap.size]? = some (.cells [.int .i64 xh,.slice bi mi di,.slice bo mo eo].toArray 52 (0,0)):=by rw[hX];exact Zl _ _ _ _ _
  have hwX:=Ze hV hbX
  have hpX:=(hwX.block p (lt_of_block hp)).trans hp
  have hpV:=(hV.block p (lt_of_block hp)).trans hp
  have v0:=Zd hpV 0 _ rfl
  have v1:=Zd hpV 1 _ rfl
  have v2:=Zd hpV 2 _ rfl
  have vl:=lt_of_block hpV
  obtain⟨o,ho⟩:∃ o,Vm (xh,J,P) (th,I,O)=o:=⟨_,rfl⟩
  have C1:=Zb (Cs xh th bi bo ai ao mi di mo eo ni ci no co J I P O o X sJ.len sP.len (hJ.later hbX) (hP.later hbX) (hI.later hwX) (hO.later hwX) ho)
  have q0:=Zd hpX 0 _ rfl
  have q1:=Zd hpX 1 _ rfl
  have q2:=Zd hpX 2 _ rfl
  have ql:=lt_of_block hpX
  have t0:=Zd hX0 0 _ rfl
  have t1:=Zd hX0 1 _ rfl
  have t2:=Zd hX0 2 _ rfl
  have tl:=lt_of_block hX0
  have HB:=Zb hbX
  show Calls _ _ _ _ (fun e w'=>e = .returned (.bool (Vm (xh,J,P) (th,I,O)))∧_)
  rw[ho]
  clear hp hI hO hV hJ hP sJ sP hbX hX0 hwX hpX hpV ho
  go_enter Tryz.func53,Tryz.ntmps53
  go_wp2_with fail
  rw[←hX]
  clear hX
  (try go_wp2_with fail)
  refine (Za C1).mono ?_
  rintro e w1 ⟨rfl,hb⟩
  have HB2:=Zb (Ze (Za HB) hb)
  clear hb C1
  go_wp2
  go_ret
  exact⟨rfl,Za HB2⟩
end Go.Proofs.YtpikejjiignchaaGreatDoor
