import Derived.Test.YtmomfkikogbdeaaGreatDoorG5
set_option maxHeartbeats 800000
namespace Go.Proofs.YtmomfkikogbdeaaGreatDoor
open Go.RowKit
theorem Us(b:Bool)(w:World) :
  Calls Tryz.prog 321 #[.bool b] w fun e w'=>e = .returned (.int .i64 (b01 b))∧w=w':=by
 cases b
 all_goals
  go_enter Tryz.func321,Tryz.ntmps321
  go_wp2
  go_ret
  exact⟨rfl,rfl⟩
theorem Zil(a b:Int)(w:World)(ha:fit a=true)(hb:fit b=true) :
  Calls Tryz.prog 318 #[.int .i64 a,.int .i64 b] w fun e w'=>e = .returned (.int .i64 (g2 5 a b))∧w=w':=by
 have h1:=(Uk a).1 ha
 have h2:=(Uk b).1 hb
 clear ha hb
 go_enter Tryz.func318,Tryz.ntmps318
 go_wp2
 go_ret
 exact⟨rfl,rfl⟩
theorem Zik(a b:Int)(w:World)(ha:fit a=true)(hb:fit b=true) :
  Calls Tryz.prog 319 #[.int .i64 a,.int .i64 b] w fun e w'=>e = .returned (.int .i64 (g2 6 a b))∧w=w':=by
 have h1:=(Uk a).1 ha
 have h2:=(Uk b).1 hb
 clear ha hb
 go_enter Tryz.func319,Tryz.ntmps319
 go_wp2
 go_ret
 exact⟨rfl,rfl⟩
theorem Zij(a b:Int)(w:World) :
  Calls Tryz.prog 320 #[.int .i64 a,.int .i64 b] w fun e w'=>e = .returned (.int .i64 (g2 7 a b))∧w=w':=by
 go_enter Tryz.func320,Tryz.ntmps320
 go_wp2_with (go_at_call 321;refine (Us _ _).mono ?_;rintro e w' ⟨rfl,rfl⟩)
 go_ret
 exact⟨rfl,rfl⟩
theorem Zii(a b:Int)(w:World) :
  Calls Tryz.prog 322 #[.int .i64 a,.int .i64 b] w fun e w'=>e = .returned (.int .i64 (g2 8 a b))∧w=w':=by
 go_enter Tryz.func322,Tryz.ntmps322
 go_wp2_with (go_at_call 321;refine (Us _ _).mono ?_;rintro e w' ⟨rfl,rfl⟩)
 go_ret
 exact⟨rfl,rfl⟩
theorem Zig(a b:Int)(w:World) :
  Calls Tryz.prog 325 #[.int .i64 a,.int .i64 b] w fun e w'=>e = .returned (.int .i64 (g2 10 a b))∧w=w':=by
 by_cases h:a=0
 ·have h1:(a != 0)=false:=by simp[h]
  have e:g2 10 a b=b01 false:=by simp[g2,h]
  rw[e]
  clear h e
  go_enter Tryz.func325,Tryz.ntmps325
  go_wp2_with (go_at_call 321;refine (Us _ _).mono ?_;rintro e w' ⟨rfl,rfl⟩)
  go_ret
  exact⟨rfl,rfl⟩
 ·have h1:(a != 0)=true:=by simp[h]
  have e:g2 10 a b=b01 (b != 0):=by simp[g2,h1]
  rw[e]
  clear h e
  go_enter Tryz.func325,Tryz.ntmps325
  go_wp2_with (go_at_call 321;refine (Us _ _).mono ?_;rintro e w' ⟨rfl,rfl⟩)
  go_ret
  exact⟨rfl,rfl⟩
theorem Zih(a:Int)(w:World) :
  Calls Tryz.prog 324 #[.int .i64 a] w fun e w'=>e = .returned (.int .i64 (g1 9 a))∧w=w':=by
 go_enter Tryz.func324,Tryz.ntmps324
 go_wp2_with (go_at_call 321;refine (Us _ _).mono ?_;rintro e w' ⟨rfl,rfl⟩)
 go_ret
 exact⟨rfl,rfl⟩
theorem Zfo{k:IntKind}{a b:Int}(h:a=b):Ending.returned (.int k a) = .returned (.int k b):=by rw[h]
theorem Zfx(a:Int)(w:World)(ha:fit a=true) :
  Calls Tryz.prog 328 #[.int .i64 a] w fun e w'=>e = .returned (.int .i64 (g1 13 a))∧w=w':=by
 have hbd:=Zb (Zfy a ha)
 have h1:=(Uk a).1 ha
 clear ha
 go_enter Tryz.func328,Tryz.ntmps328
 go_wp2
 go_loop [3,6] (fun r i=>∃ k:Nat,k≤3∧i = .int .i64 k∧r = .int .i64 (Me a k)) (fun _ i=>3 - (intOf i).toNat)
 case atStart=>exact⟨0,Nat.zero_le _,rfl,rfl⟩
 case round=>
  obtain⟨k,hk,rfl,rfl⟩:=hrel
  obtain⟨b1,b2⟩:=(Za hbd) k
  obtain⟨m,hm⟩:∃ m,m=Me a k:=⟨_,rfl⟩
  rw[←hm] at b1 b2 ⊢
  have HM:=Zb hm
  clear hm
  by_cases hlt:k<3
  ·go_wp2
   go_round
   case rel=>
    refine⟨k+1,by omega,by go_num,?_⟩
    have:=Za HM
    simp only[Me,←this]
   case measure=>simp[intOf];omega
  ·go_wp2
   go_ret
   have e:k=3:=by omega
   subst e
   refine⟨Zfo ?_,rfl⟩
   have:=Za HM
   simp only[g1,Zhg,←this]
   simp
theorem Zdy(p:Nat)(s:MS)(n:Int)(W w:World)(hm:Mach p s W w) :
  Calls Tryz.prog 316 #[.pointer (some ⟨p,0,none⟩),.int .i64 n] w fun e w'=>e = .returned (.tuple #[])∧Mach p (s.step 4 n) W w':=by
 have HM:=Zb hm
 clear hm
 go_enter Tryz.func316,Tryz.ntmps316
 go_wp2_with (go_at_call 333;refine (Yl p s W _ (Za HM)).mono ?_;rintro e w' ⟨rfl,hm'⟩)
 go_end0
 exact⟨rfl,by assumption⟩
theorem Kf(p:Nat)(s:MS)(n:Int)(W w:World)(hm:Mach p s W w) :
  Calls Tryz.prog 327 #[.pointer (some ⟨p,0,none⟩),.int .i64 n] w fun e w'=>e = .returned (.tuple #[])∧Mach p (s.step 12 n) W w':=by
 have c1:=hm.cell_h
 have HM:=Zb hm
 clear hm
 go_enter Tryz.func327,Tryz.ntmps327
 go_wp2_with (go_at_call 303;refine (Xe p s _ W _ (Za HM)).mono ?_;rintro e w' ⟨rfl,hm'⟩)
 go_end0
 exact⟨rfl,by assumption⟩
theorem Zgp(p:Nat)(s:MS)(n:Int)(W w:World)(hm:Mach p s W w) :
  Calls Tryz.prog 314 #[.pointer (some ⟨p,0,none⟩),.int .i64 n] w fun e w'=>e = .returned (.tuple #[])∧Mach p (s.step 2 n) W w':=by
 have HM:=Zb hm
 clear hm
 go_enter Tryz.func314,Tryz.ntmps314
 go_wp2_with fail
 refine (Yl p s W _ (Za HM)).mono ?_
 rintro e w1 ⟨rfl,hm1⟩
 have HM1:=Zb hm1
 clear hm1
 go_wp2_with fail
 refine (Xe p s.take _ W _ (Za HM1)).mono ?_
 rintro e w2 ⟨rfl,hm2⟩
 have HM2:=Zb hm2
 clear hm2
 go_wp2_with fail
 refine (Xe p (s.take.put s.top) _ W _ (Za HM2)).mono ?_
 rintro e w3 ⟨rfl,hm3⟩
 have HM3:=Zb hm3
 clear hm3
 go_wp2
 go_end0
 exact⟨rfl,Za HM3⟩
theorem Zbz(p:Nat)(s:MS)(n:Int)(W w:World)(hm:Mach p s W w) :
  Calls Tryz.prog 315 #[.pointer (some ⟨p,0,none⟩),.int .i64 n] w fun e w'=>e = .returned (.tuple #[])∧Mach p (s.step 3 n) W w':=by
 have HM:=Zb hm
 clear hm
 go_enter Tryz.func315,Tryz.ntmps315
 go_wp2_with fail
 refine (Yl p s W _ (Za HM)).mono ?_
 rintro e w1 ⟨rfl,hm1⟩
 have HM1:=Zb hm1
 clear hm1
 go_wp2_with fail
 refine (Yl p s.take W _ (Za HM1)).mono ?_
 rintro e w2 ⟨rfl,hm2⟩
 have HM2:=Zb hm2
 clear hm2
 go_wp2_with fail
 refine (Xe p s.take.take _ W _ (Za HM2)).mono ?_
 rintro e w3 ⟨rfl,hm3⟩
 have HM3:=Zb hm3
 clear hm3
 go_wp2_with fail
 refine (Xe p (s.take.take.put s.top) _ W _ (Za HM3)).mono ?_
 rintro e w4 ⟨rfl,hm4⟩
 have HM4:=Zb hm4
 clear hm4
 go_wp2
 go_end0
 exact⟨rfl,Za HM4⟩
theorem Fz(p:Nat)(s:MS)(n:Int)(W w:World)(hm:Mach p s W w) :
  Calls Tryz.prog 326 #[.pointer (some ⟨p,0,none⟩),.int .i64 n] w fun e w'=>e = .returned (.tuple #[])∧Mach p (s.step 11 n) W w':=by
 have HM:=Zb hm
 clear hm
 by_cases h:s.top=0
 ·have e0:s.step 11 n=s.take.fail:=by simp[MS.step,h]
  have h1:(s.top == 0)=true:=by simp[h]
  rw[e0]
  clear h e0
  go_enter Tryz.func326,Tryz.ntmps326
  go_wp2_with fail
  refine (Yl p s W _ (Za HM)).mono ?_
  rintro e w1 ⟨rfl,hm1⟩
  have HM1:=Zb hm1
  clear hm1
  go_wp2_with fail
  refine (Tl p s.take W _ (Za HM1)).mono ?_
  rintro e w2 ⟨rfl,hm2⟩
  have HM2:=Zb hm2
  clear hm2
  go_wp2
  go_end0
  exact⟨rfl,Za HM2⟩
 ·have e0:s.step 11 n=s.take:=by simp[MS.step,h]
  have h1:(s.top == 0)=false:=by simp[h]
  rw[e0]
  clear h e0
  go_enter Tryz.func326,Tryz.ntmps326
  go_wp2_with fail
  refine (Yl p s W _ (Za HM)).mono ?_
  rintro e w1 ⟨rfl,hm1⟩
  have HM1:=Zb hm1
  clear hm1
  go_wp2
  go_end0
  exact⟨rfl,Za HM1⟩
end Go.Proofs.YtmomfkikogbdeaaGreatDoor
