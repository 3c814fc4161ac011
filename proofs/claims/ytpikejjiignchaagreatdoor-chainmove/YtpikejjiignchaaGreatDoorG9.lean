import Derived.Test.YtpikejjiignchaaGreatDoorG6
open Go.Ending renaming returned->dX
open Go.IntKind renaming i64->J
open Go.Value renaming int->E,tuple->dY,pointer->dZ
namespace Go.Proofs.YtpikejjiignchaaGreatDoor
open Go.RowKit
set_option maxHeartbeats 8000000 in
theorem Zoh(p bm z:Nat)(s:MS)(n:Int)(W w:World)(O:Mach p s W w)(h1:bm≠p)(h2:z≠p)(l1:bm<W.heap.size)(l2:z<W.heap.size)
  (b1:W.cell? ⟨bm,0,none⟩=some (dZ (some ⟨p,0,none⟩))) (b2:W.cell? ⟨z,0,none⟩=some (.func (.func 268) #[] #[])) :
  Calls Tryz.prog 272 #[E J n,dZ (some ⟨bm,0,none⟩),dZ (some ⟨z,0,none⟩)] w λe w'=>e = dX (dY #[])/\Mach p (s.step 13 n) W w':=by
 have c0:w.cell? ⟨bm,0,none⟩=some (dZ (some ⟨p,0,none⟩)):=(O.past _ h1 l1).trans b1;have c1:w.cell? ⟨z,0,none⟩=some (.func (.func 268) #[] #[]):=(O.past _ h2 l2).trans b2;have F0:=Zb O.good.top_fit;have HM:=Zb O;have B1:=Zb b1;have B2:=Zb b2;clear O b1 b2;go_enter Tryz.func272,Tryz.ntmps272
 go_region_with (first|(go_at_call 270;refine (Y7 p s W _ ?_).mono ?_;(first|exact Za HM|exact HM.drew|exact HM.drewN _);rintro e w1 ⟨rfl,aa⟩;have c2:=(aa.past ⟨bm,0,none⟩ h1 l1).trans B1;have c3:=(aa.past ⟨z,0,none⟩ h2 l2).trans B2;replace aa:=Zb aa)|(go_at_call 268;refine (Zom _ _ F0).mono ?_;rintro e w' ⟨rfl,rfl⟩)|(go_at_call 247;refine (Wt p s.take _ W _ ?_).mono ?_;exact Za aa;rintro e w' ⟨rfl,al⟩))
 all_goals go_wp2
 all_goals go_end0
 all_goals exact⟨rfl,by assumption⟩
