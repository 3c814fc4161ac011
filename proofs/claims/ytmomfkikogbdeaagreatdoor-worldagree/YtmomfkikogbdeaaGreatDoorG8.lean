import Derived.Test.YtmomfkikogbdeaaGreatDoorG6
open Go.Ending renaming returned->dF
open Go.IntKind renaming i64->J
open Go.Value renaming int->E,tuple->dG,pointer->dH
namespace Go.Proofs.YtmomfkikogbdeaaGreatDoor
open Go.RowKit
set_option maxHeartbeats 8000000 in
theorem Zqm(p bm bf:Nat)(s:MS)(n:Int)(W w:World)(hm:Mach p s W w)(h1:bm≠p)(h2:bf≠p)(l1:bm<W.heap.size)(l2:bf<W.heap.size)
  (b1:W.cell? ⟨bm,0,none⟩=some (dH (some ⟨p,0,none⟩))) (b2:W.cell? ⟨bf,0,none⟩=some (.func (.func 324) #[] #[])) :
  Calls Tryz.prog 335 #[E J n,dH (some ⟨bm,0,none⟩),dH (some ⟨bf,0,none⟩)] w λe w'=>e = dF (dG #[])/\Mach p (s.step 9 n) W w':=by
 have c0:w.cell? ⟨bm,0,none⟩=some (dH (some ⟨p,0,none⟩)):=(hm.past _ h1 l1).trans b1;have c1:w.cell? ⟨bf,0,none⟩=some (.func (.func 324) #[] #[]):=(hm.past _ h2 l2).trans b2;obtain⟨F0,HM,B1,B2⟩:=kh4 hm.good.top_fit hm b1 b2;clear hm b1 b2;go_enter Tryz.func335,Tryz.ntmps335
 go_region_with (first|(go_at_call 333;refine (Yl p s W _ ?_).mono ?_;(first|exact Za HM|exact HM.drew|exact HM.drewN _);rintro e w1 ⟨rfl,ac⟩;have c2:=(ac.past ⟨bm,0,none⟩ h1 l1).trans B1;have c3:=(ac.past ⟨bf,0,none⟩ h2 l2).trans B2;replace ac:=Zd ac)|(go_at_call 324;refine (Zqp _ _).mono ?_;rintro e w' ⟨rfl,rfl⟩)|(go_at_call 303;refine (Xk p s.take _ W _ ?_).mono ?_;exact Za ac;rintro e w' ⟨rfl,an⟩))
 all_goals go_wp2
 all_goals go_end0
 all_goals exact⟨rfl,by assumption⟩
