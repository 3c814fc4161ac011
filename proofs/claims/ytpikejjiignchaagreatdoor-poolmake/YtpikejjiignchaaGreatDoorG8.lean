import Derived.Test.YtpikejjiignchaaGreatDoorG7
set_option maxHeartbeats 800000
namespace Go.Proofs.YtpikejjiignchaaGreatDoor
open Go.RowKit
theorem Ws(n:Int)(b:Bool)(w:World)(hb:b=hOk n) :
  Calls Tryz.prog 195 #[.int .i64 n] w fun e w'=>e = .returned (.bool b)∧w=w':=by
 have HB:=Zb hb
 clear hb
 go_enter Tryz.func195,Tryz.ntmps195
 go_wp2_with (go_at_call 114;refine (Yq _ _ _ b _ (Za HB)).mono ?_;rintro e w' ⟨rfl,rfl⟩)
 go_ret
 exact⟨rfl,rfl⟩
theorem Tm(p:Nat)(s:MS)(W w:World)(hm:Mach p s W w) :
  Calls Tryz.prog 253 #[.pointer (some ⟨p,0,none⟩)] w fun e w'=>e = .returned (.tuple #[])∧Mach p s.fail W w':=by
 have c1:=hm.cell_f
 have c2:=hm.free 18
 have HM:=Zb hm
 clear hm
 go_enter Tryz.func253,Tryz.ntmps253
 go_wp2
 go_end0
 exact⟨rfl,(Za HM).store 18 _ (MS.set_f (Za HM).good true) (Za HM).good.fail_ok⟩
theorem Dd{s:MS}{x:Int}(h:s.n=16∨fit x=false):s.put x=s.fail:=by unfold MS.put;rw[if_pos h];rfl
theorem Dc{s:MS}{x:Int}(h1:s.n≠16)(h2:fit x=true):s.put x={ s with cs:=s.cs.set s.n x,n:=s.n+1 }:=by unfold MS.put;rw[if_neg (by simp[h1,h2])]
theorem Xt(p:Nat)(s:MS)(x:Int)(W w:World)(hm:Mach p s W w) :
  Calls Tryz.prog 247 #[.pointer (some ⟨p,0,none⟩),.int .i64 x] w fun e w'=>e = .returned (.tuple #[])∧Mach p (s.put x) W w':=by
 have hn:=hm.good.2.1
 have c1:=hm.cell_n
 have HM:=Zb hm
 by_cases h1:s.n=16
 ·rw[Dd (Or.inl h1)]
  rw[h1] at c1
  clear hm hn
  go_enter Tryz.func247,Tryz.ntmps247
  go_wp2_with (go_at_call 253;refine (Tm p s W _ (Za HM)).mono ?_;rintro e w' ⟨rfl,hm'⟩)
  first|go_end0|(simp only[Exit.inBlock,Exit.then];refine bodyPost_ret (results_none rfl _ _ _) rfl ?_)|refine bodyPost_ret (results_none rfl _ _ _) rfl ?_
  exact⟨rfl,by assumption⟩
 ·have g1:((s.n:Int) == 16)=false:=by simp;omega
  by_cases h2:fit x=true
  ·rw[Dc h1 h2]
   have c2:=hm.cell_s s.n (by omega)
   have c3:=hm.free s.n
   have c4:=hm.free 16
   have c5:((w.setCell ⟨p,s.n,none⟩ (.int .i64 x))).cell? ⟨p,16,none⟩=some (.int .i64 s.n):=by
    rw[World.cell?_setCell_other]
    ·exact c1
    ·exact fun e=>h1 (congrArg Addr.off e)
   have g2:(s.n:Int)<16:=by omega
   have H1:=Zb h1
   have H2:=Zb h2
   clear hm h1 h2
   go_enter Tryz.func247,Tryz.ntmps247
   go_wp2_with (go_at_call 246;refine (Tk _ true _ (Za H2).symm).mono ?_;rintro e w' ⟨rfl,rfl⟩)
   go_region
   all_goals go_wp2
   all_goals go_end0
   all_goals
    refine⟨rfl,Mach.drew ?_⟩
    have hm:=Za HM
    have g:=hm.good.put_ok x
    rw[Dc (Za H1) (Za H2)] at g
    have ok1:MS.ok { s with cs:=s.cs.set s.n x }:=⟨g.1,hm.good.2.1,g.2.2⟩
    exact (hm.store s.n _ (MS.set_stack hm.good s.n (by omega) x) ok1).store 16 _ (MS.set_n ok1 (s.n+1)) g
  ·have h3:fit x=false:=by simpa using h2
   rw[Dd (Or.inr h3)]
   have H3:=Zb h3
   clear hm h2 h3 h1
   go_enter Tryz.func247,Tryz.ntmps247
   go_wp2_with (first|(go_at_call 246;refine (Tk _ false _ (Za H3).symm).mono ?_;rintro e w' ⟨rfl,rfl⟩)|(go_at_call 253;refine (Tm p s W _ (Za HM)).mono ?_;rintro e w' ⟨rfl,hm'⟩))
   first|go_end0|(simp only[Exit.inBlock,Exit.then];refine bodyPost_ret (results_none rfl _ _ _) rfl ?_)|refine bodyPost_ret (results_none rfl _ _ _) rfl ?_
   exact⟨rfl,by assumption⟩
theorem Cx{s:MS}(h:s.n=0):s.take=s.fail:=by unfold MS.take;rw[if_pos h];rfl
theorem Cw{s:MS}(h:s.n≠0):s.take={ s with n:=s.n - 1 }:=by unfold MS.take;rw[if_neg h]
theorem Zbf{s:MS}(h:s.n=0):s.top=0:=by unfold MS.top;rw[if_pos h]
theorem Zbe{s:MS}(h:s.n≠0):s.top=s.cs.getD (s.n - 1) 0:=by unfold MS.top;rw[if_neg h]
theorem Yl(p:Nat)(s:MS)(W w:World)(hm:Mach p s W w) :
  Calls Tryz.prog 270 #[.pointer (some ⟨p,0,none⟩)] w fun e w'=>e = .returned (.int .i64 s.top)∧Mach p s.take W w':=by
 have hn:=hm.good.2.1
 have c1:=hm.cell_n
 have HM:=Zb hm
 by_cases h1:s.n=0
 ·rw[Cx h1,Zbf h1]
  rw[h1] at c1
  clear hm hn
  go_enter Tryz.func270,Tryz.ntmps270
  go_wp2_with (go_at_call 253;refine (Tm p s W _ (Za HM)).mono ?_;rintro e w' ⟨rfl,hm'⟩)
  go_ret
  exact⟨rfl,by assumption⟩
 ·obtain⟨m,hm1⟩:∃ m,s.n=m+1:=⟨s.n - 1,by omega⟩
  have e1:s.take={ s with n:=m }:=by rw[Cw h1,hm1];rfl
  have e2:s.top=s.cs.getD m 0:=by rw[Zbe h1,hm1];rfl
  rw[e1,e2]
  have g1:(((m:Int)+1) == 0)=false:=by simp;omega
  rw[hm1] at c1
  have c2:(w.setCell ⟨p,16,none⟩ (.int .i64 m)).cell? ⟨p,m,none⟩=some (.int .i64 (s.cs.getD m 0)):=by
   rw[World.cell?_setCell_other]
   ·exact hm.cell_s m (by omega)
   ·exact fun e=>absurd (congrArg Addr.off e) (by show ¬(16=m);omega)
  have c3:(w.setCell ⟨p,16,none⟩ (.int .i64 m)).cell? ⟨p,16,none⟩=some (.int .i64 m):=World.cell?_setCell_same _ _ _ hm.cell_n
  have c4:=hm.free 16
  have g2:(m:Int)<16:=by omega
  have H1:=Zb hm1
  obtain⟨t,ht⟩:∃ t,t=s.cs.getD m 0:=⟨_,rfl⟩
  rw[←ht] at c2 ⊢
  clear hm h1 hm1 hn e1 e2 ht
  go_enter Tryz.func270,Tryz.ntmps270
  go_wp2
  go_quiet (fail)
  go_wp2
  go_ret
  refine⟨rfl,Mach.drewN ?_ _⟩
  have hm:=Za HM
  have h1:=Za H1
  exact hm.store 16 _ (MS.set_n hm.good m) ⟨hm.good.1,by show m≤16;omega,hm.good.2.2⟩
theorem Df(p:Nat)(s:MS)(a:Option Addr)(cap:Nat)(W w:World)(hm:Mach p s W w) :
  Calls Tryz.prog 230 #[.pointer (some ⟨p,0,none⟩),.slice a 0 cap] w fun e w'=>e = .returned (.tuple #[])∧Mach p s W w':=by
 have HM:=Zb hm
 clear hm
 go_enter Tryz.func230,Tryz.ntmps230
 go_wp2
 refine wp_loop_rounds 1 ?_
 rw[rounds_succ]
 go_wp2
 go_end0
 exact⟨rfl,Za HM⟩
theorem De(p:Nat)(s:MS)(b off len cap:Nat)(Z:List Int)(W w:World)(hm:Mach p s W w)(hp:W.heap.size≤p)(hz:Z.length=len)(hl:len≤maxLen)
  (hb:b<W.heap.size) (hc:∀ i,i<len→W.cell? ⟨b,off+i,none⟩=some (.int .i64 (Z.getD i 0))) :
  Calls Tryz.prog 230 #[.pointer (some ⟨p,0,none⟩),.slice (some ⟨b,off,none⟩) len cap] w fun e w'=>e = .returned (.tuple #[])∧∃ s',Mach p s' W w'∧s'.h=s.h∧s'.rep=s.rep.bind (fun L=>Yc L Z):=by
 have HM:=Zb hm
 have HC:=Zb hc
 have HZ:=Zb hz
 unfold maxLen at hl
 clear hm hc hz
 go_enter Tryz.func230,Tryz.ntmps230
 go_wp2
 go_loopw [8] (fun i wr=>∃ (k:Nat) (s':MS),k≤len∧i = .int .i64 k∧Mach p s' W wr∧s'.h=s.h∧s'.rep=s.rep.bind (fun L=>Yc L (Z.take k))) (fun i _=>len - (intOf i).toNat)
 case atStart=>exact⟨0,s,Nat.zero_le _,rfl,Za HM,rfl,by cases s.rep <;> rfl⟩
 case round=>
  obtain⟨k,s',hk,rfl,hm,hh,hr⟩:=hrel
  have HM':=Zb hm
  have HH:=Zb hh
  have HR:=Zb hr
  clear hh hr
  by_cases hlt:k<len
  ·have c1:wr.cell? ⟨b,off+k,none⟩=some (.int .i64 (Z.getD k 0)):=(hm.past ⟨b,off+k,none⟩ (by show b≠p;omega) hb).trans ((Za HC) k hlt)
   obtain⟨x,hx⟩:∃ x,x=Z.getD k 0:=⟨_,rfl⟩
   rw[←hx] at c1
   have HX:=Zb hx
   clear hm hx
   go_wp2_with fail
   refine (Xt p s' x W _ (Za HM')).mono ?_
   rintro e w1 ⟨rfl,hm1⟩
   have HM1:=Zb hm1
   clear hm1
   go_wp2
   go_roundw
   case rel=>
    refine⟨k+1,s'.put x,by omega,by go_num,Za HM1,(MS.put_h _ _).trans (Za HH),?_⟩
    have hkl:k<Z.length:=by rw[Za HZ];exact hlt
    have ex:x=Z[k]:=by rw[Za HX];simp[hkl]
    rw[MS.rep_put (Za HM').good,Za HR,List.take_succ_eq_append_getElem hkl,ex]
    cases s.rep with
    | none=>rfl
    | some L=>exact (Gu _ _ _).symm
   case measure=>simp[intOf];omega
  ·clear hm
   go_wp2
   go_end0
   have e:k=len:=by omega
   subst e
   refine⟨rfl,s',Za HM',Za HH,?_⟩
   rw[Za HR,←Za HZ,List.take_length]
theorem Ab(p:Nat)(s:MS)(a:Option Addr)(len cap:Nat)(Z:List Int)(W w:World)(hm:Mach p s W w)(hp:W.heap.size≤p)(hR:RowAt W a len Z) :
  Calls Tryz.prog 230 #[.pointer (some ⟨p,0,none⟩),.slice a len cap] w fun e w'=>e = .returned (.tuple #[])∧∃ s',Mach p s' W w'∧s'.h=s.h∧s'.rep=s.rep.bind (fun L=>Yc L Z):=by
 obtain⟨hz,hl,hc⟩:=hR
 by_cases h:len=0
 ·subst h
  have e:Z=[]:=List.length_eq_zero_iff.1 hz
  subst e
  exact (Df p s a cap W w hm).mono fun e w' ⟨x,y⟩=>⟨x,s,y,rfl,by cases s.rep <;> rfl⟩
 ·obtain⟨b,off,rfl,hcell⟩:=hc (by omega)
  exact De p s b off len cap Z W w hm hp hz hl (World.block_lt_of_cell? _ _ (hcell 0 (by omega))) hcell
theorem Uy(b:Bool)(w:World) :
  Calls Tryz.prog 261 #[.bool b] w fun e w'=>e = .returned (.int .i64 (b01 b))∧w=w':=by
 cases b
 all_goals
  go_enter Tryz.func261,Tryz.ntmps261
  go_wp2
  go_ret
  exact⟨rfl,rfl⟩
theorem Zhj(a b:Int)(w:World)(ha:fit a=true)(hb:fit b=true) :
  Calls Tryz.prog 258 #[.int .i64 a,.int .i64 b] w fun e w'=>e = .returned (.int .i64 (g2 5 a b))∧w=w':=by
 have h1:=(Z0 a).1 ha
 have h2:=(Z0 b).1 hb
 clear ha hb
 go_enter Tryz.func258,Tryz.ntmps258
 go_wp2
 go_ret
 exact⟨rfl,rfl⟩
theorem Zhi(a b:Int)(w:World)(ha:fit a=true)(hb:fit b=true) :
  Calls Tryz.prog 259 #[.int .i64 a,.int .i64 b] w fun e w'=>e = .returned (.int .i64 (g2 6 a b))∧w=w':=by
 have h1:=(Z0 a).1 ha
 have h2:=(Z0 b).1 hb
 clear ha hb
 go_enter Tryz.func259,Tryz.ntmps259
 go_wp2
 go_ret
 exact⟨rfl,rfl⟩
theorem Zhh(a b:Int)(w:World) :
  Calls Tryz.prog 260 #[.int .i64 a,.int .i64 b] w fun e w'=>e = .returned (.int .i64 (g2 7 a b))∧w=w':=by
 go_enter Tryz.func260,Tryz.ntmps260
 go_wp2_with (go_at_call 261;refine (Uy _ _).mono ?_;rintro e w' ⟨rfl,rfl⟩)
 go_ret
 exact⟨rfl,rfl⟩
theorem Zhg(a b:Int)(w:World) :
  Calls Tryz.prog 262 #[.int .i64 a,.int .i64 b] w fun e w'=>e = .returned (.int .i64 (g2 8 a b))∧w=w':=by
 go_enter Tryz.func262,Tryz.ntmps262
 go_wp2_with (go_at_call 261;refine (Uy _ _).mono ?_;rintro e w' ⟨rfl,rfl⟩)
 go_ret
 exact⟨rfl,rfl⟩
theorem Zhe(a b:Int)(w:World) :
  Calls Tryz.prog 265 #[.int .i64 a,.int .i64 b] w fun e w'=>e = .returned (.int .i64 (g2 10 a b))∧w=w':=by
 by_cases h:a=0
 ·have h1:(a != 0)=false:=by simp[h]
  have e:g2 10 a b=b01 false:=by simp[g2,h]
  rw[e]
  clear h e
  go_enter Tryz.func265,Tryz.ntmps265
  go_wp2_with (go_at_call 261;refine (Uy _ _).mono ?_;rintro e w' ⟨rfl,rfl⟩)
  go_ret
  exact⟨rfl,rfl⟩
 ·have h1:(a != 0)=true:=by simp[h]
  have e:g2 10 a b=b01 (b != 0):=by simp[g2,h1]
  rw[e]
  clear h e
  go_enter Tryz.func265,Tryz.ntmps265
  go_wp2_with (go_at_call 261;refine (Uy _ _).mono ?_;rintro e w' ⟨rfl,rfl⟩)
  go_ret
  exact⟨rfl,rfl⟩
theorem Zhf(a:Int)(w:World) :
  Calls Tryz.prog 264 #[.int .i64 a] w fun e w'=>e = .returned (.int .i64 (g1 9 a))∧w=w':=by
 go_enter Tryz.func264,Tryz.ntmps264
 go_wp2_with (go_at_call 261;refine (Uy _ _).mono ?_;rintro e w' ⟨rfl,rfl⟩)
 go_ret
 exact⟨rfl,rfl⟩
theorem Zfa{k:IntKind}{a b:Int}(h:a=b):Ending.returned (.int k a) = .returned (.int k b):=by rw[h]
theorem Zfq(a:Int)(w:World)(ha:fit a=true) :
  Calls Tryz.prog 268 #[.int .i64 a] w fun e w'=>e = .returned (.int .i64 (g1 13 a))∧w=w':=by
 have hbd:=Zb (Ce a ha)
 have h1:=(Z0 a).1 ha
 clear ha
 go_enter Tryz.func268,Tryz.ntmps268
 go_wp2
 go_loop [3,6] (fun r i=>∃ k:Nat,k≤3∧i = .int .i64 k∧r = .int .i64 (Pw a k)) (fun _ i=>3 - (intOf i).toNat)
 case atStart=>exact⟨0,Nat.zero_le _,rfl,rfl⟩
 case round=>
  obtain⟨k,hk,rfl,rfl⟩:=hrel
  obtain⟨b1,b2⟩:=(Za hbd) k
  obtain⟨m,hm⟩:∃ m,m=Pw a k:=⟨_,rfl⟩
  rw[←hm] at b1 b2 ⊢
  have HM:=Zb hm
  clear hm
  by_cases hlt:k<3
  ·go_wp2
   go_round
   case rel=>
    refine⟨k+1,by omega,by go_num,?_⟩
    have:=Za HM
    simp only[Pw,←this]
   case measure=>simp[intOf];omega
  ·go_wp2
   go_ret
   have e:k=3:=by omega
   subst e
   refine⟨Zfa ?_,rfl⟩
   have:=Za HM
   simp only[g1,Do,←this]
   simp
theorem Zdu(p:Nat)(s:MS)(n:Int)(W w:World)(hm:Mach p s W w) :
  Calls Tryz.prog 256 #[.pointer (some ⟨p,0,none⟩),.int .i64 n] w fun e w'=>e = .returned (.tuple #[])∧Mach p (s.step 4 n) W w':=by
 have HM:=Zb hm
 clear hm
 go_enter Tryz.func256,Tryz.ntmps256
 go_wp2_with (go_at_call 270;refine (Yl p s W _ (Za HM)).mono ?_;rintro e w' ⟨rfl,hm'⟩)
 go_end0
 exact⟨rfl,by assumption⟩
theorem Kg(p:Nat)(s:MS)(n:Int)(W w:World)(hm:Mach p s W w) :
  Calls Tryz.prog 267 #[.pointer (some ⟨p,0,none⟩),.int .i64 n] w fun e w'=>e = .returned (.tuple #[])∧Mach p (s.step 12 n) W w':=by
 have c1:=hm.cell_h
 have HM:=Zb hm
 clear hm
 go_enter Tryz.func267,Tryz.ntmps267
 go_wp2_with (go_at_call 247;refine (Xt p s _ W _ (Za HM)).mono ?_;rintro e w' ⟨rfl,hm'⟩)
 go_end0
 exact⟨rfl,by assumption⟩
theorem Zgg(p:Nat)(s:MS)(n:Int)(W w:World)(hm:Mach p s W w) :
  Calls Tryz.prog 254 #[.pointer (some ⟨p,0,none⟩),.int .i64 n] w fun e w'=>e = .returned (.tuple #[])∧Mach p (s.step 2 n) W w':=by
 have HM:=Zb hm
 clear hm
 go_enter Tryz.func254,Tryz.ntmps254
 go_wp2_with fail
 refine (Yl p s W _ (Za HM)).mono ?_
 rintro e w1 ⟨rfl,hm1⟩
 have HM1:=Zb hm1
 clear hm1
 go_wp2_with fail
 refine (Xt p s.take _ W _ (Za HM1)).mono ?_
 rintro e w2 ⟨rfl,hm2⟩
 have HM2:=Zb hm2
 clear hm2
 go_wp2_with fail
 refine (Xt p (s.take.put s.top) _ W _ (Za HM2)).mono ?_
 rintro e w3 ⟨rfl,hm3⟩
 have HM3:=Zb hm3
 clear hm3
 go_wp2
 go_end0
 exact⟨rfl,Za HM3⟩
theorem Zbj(p:Nat)(s:MS)(n:Int)(W w:World)(hm:Mach p s W w) :
  Calls Tryz.prog 255 #[.pointer (some ⟨p,0,none⟩),.int .i64 n] w fun e w'=>e = .returned (.tuple #[])∧Mach p (s.step 3 n) W w':=by
 have HM:=Zb hm
 clear hm
 go_enter Tryz.func255,Tryz.ntmps255
 go_wp2_with fail
 refine (Yl p s W _ (Za HM)).mono ?_
 rintro e w1 ⟨rfl,hm1⟩
 have HM1:=Zb hm1
 clear hm1
 go_wp2_with fail
 refine (Yl p s.take W _ (Za HM1)).mono ?_
 rintro e w2 ⟨rfl,hm2⟩
 have HM2:=Zb hm2
 clear hm2
 go_wp2_with fail
 refine (Xt p s.take.take _ W _ (Za HM2)).mono ?_
 rintro e w3 ⟨rfl,hm3⟩
 have HM3:=Zb hm3
 clear hm3
 go_wp2_with fail
 refine (Xt p (s.take.take.put s.top) _ W _ (Za HM3)).mono ?_
 rintro e w4 ⟨rfl,hm4⟩
 have HM4:=Zb hm4
 clear hm4
 go_wp2
 go_end0
 exact⟨rfl,Za HM4⟩
theorem Fs(p:Nat)(s:MS)(n:Int)(W w:World)(hm:Mach p s W w) :
  Calls Tryz.prog 266 #[.pointer (some ⟨p,0,none⟩),.int .i64 n] w fun e w'=>e = .returned (.tuple #[])∧Mach p (s.step 11 n) W w':=by
 have HM:=Zb hm
 clear hm
 by_cases h:s.top=0
 ·have e0:s.step 11 n=s.take.fail:=by simp[MS.step,h]
  have h1:(s.top == 0)=true:=by simp[h]
  rw[e0]
  clear h e0
  go_enter Tryz.func266,Tryz.ntmps266
  go_wp2_with fail
  refine (Yl p s W _ (Za HM)).mono ?_
  rintro e w1 ⟨rfl,hm1⟩
  have HM1:=Zb hm1
  clear hm1
  go_wp2_with fail
  refine (Tm p s.take W _ (Za HM1)).mono ?_
  rintro e w2 ⟨rfl,hm2⟩
  have HM2:=Zb hm2
  clear hm2
  go_wp2
  go_end0
  exact⟨rfl,Za HM2⟩
 ·have e0:s.step 11 n=s.take:=by simp[MS.step,h]
  have h1:(s.top == 0)=false:=by simp[h]
  rw[e0]
  clear h e0
  go_enter Tryz.func266,Tryz.ntmps266
  go_wp2_with fail
  refine (Yl p s W _ (Za HM)).mono ?_
  rintro e w1 ⟨rfl,hm1⟩
  have HM1:=Zb hm1
  clear hm1
  go_wp2
  go_end0
  exact⟨rfl,Za HM1⟩
end Go.Proofs.YtpikejjiignchaaGreatDoor
