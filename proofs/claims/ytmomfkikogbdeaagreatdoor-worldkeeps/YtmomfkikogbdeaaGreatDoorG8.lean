import Derived.Test.YtmomfkikogbdeaaGreatDoorG5
open Go.Ending renaming returned->cS
open Go.IntKind renaming i64->J
open Go.Value renaming int->E,tuple->cT,pointer->cU
namespace Go.Proofs.YtmomfkikogbdeaaGreatDoor
open Go.RowKit
set_option maxHeartbeats 8000000 in
theorem Zjy(p bm z:Nat)(s:MS)(n:Int)(W w:World)(Q:Mach p s W w)(h1:bm≠p)(h2:z≠p)(l1:bm<W.heap.size)(l2:z<W.heap.size)
  (b1:W.cell? ⟨bm,0,none⟩=some (cU (some ⟨p,0,none⟩))) (b2:W.cell? ⟨z,0,none⟩=some (.func (.func 328) #[] #[])) :
  Calls Tryz.prog 335 #[E J n,cU (some ⟨bm,0,none⟩),cU (some ⟨z,0,none⟩)] w λe w'=>e = cS (cT #[])/\Mach p (s.step 13 n) W w':=by
 have c0:w.cell? ⟨bm,0,none⟩=some (cU (some ⟨p,0,none⟩)):=(Q.past _ h1 l1).trans b1;have c1:w.cell? ⟨z,0,none⟩=some (.func (.func 328) #[] #[]):=(Q.past _ h2 l2).trans b2;have F0:=Zd Q.good.top_fit;have HM:=Zd Q;have B1:=Zd b1;have B2:=Zd b2;clear Q b1 b2;go_enter Tryz.func335,Tryz.ntmps335
 go_region_with (first|(go_at_call 333;refine (Yl p s W _ ?_).mono ?_;(first|exact Za HM|exact HM.drew|exact HM.drewN _);rintro e w1 ⟨rfl,aa⟩;have c2:=(aa.past ⟨bm,0,none⟩ h1 l1).trans B1;have c3:=(aa.past ⟨z,0,none⟩ h2 l2).trans B2;replace aa:=Zd aa)|(go_at_call 328;refine (Zkd _ _ F0).mono ?_;rintro e w' ⟨rfl,rfl⟩)|(go_at_call 303;refine (Xg p s.take _ W _ ?_).mono ?_;exact Za aa;rintro e w' ⟨rfl,al⟩))
 all_goals go_wp2
 all_goals go_end0
 all_goals exact⟨rfl,by assumption⟩
