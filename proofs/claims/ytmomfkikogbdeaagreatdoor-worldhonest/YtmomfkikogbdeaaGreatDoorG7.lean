import Derived.Test.YtmomfkikogbdeaaGreatDoorG5
open Go.Ending renaming returned->dA
open Go.IntKind renaming i64->J
open Go.Value renaming int->E,tuple->dB,pointer->dC
namespace Go.Proofs.YtmomfkikogbdeaaGreatDoor
open Go.RowKit
set_option maxHeartbeats 8000000 in
theorem Zqy(p bm z:Nat)(s:MS)(n:Int)(W w:World)(Q:Mach p s W w)(h1:bm≠p)(h2:z≠p)(l1:bm<W.heap.size)(l2:z<W.heap.size)
  (b1:W.cell? ⟨bm,0,none⟩=some (dC (some ⟨p,0,none⟩))) (b2:W.cell? ⟨z,0,none⟩=some (.func (.func 324) #[] #[])) :
  Calls Tryz.prog 335 #[E J n,dC (some ⟨bm,0,none⟩),dC (some ⟨z,0,none⟩)] w λe w'=>e = dA (dB #[])/\Mach p (s.step 9 n) W w':=by
 have c0:w.cell? ⟨bm,0,none⟩=some (dC (some ⟨p,0,none⟩)):=(Q.past _ h1 l1).trans b1;have c1:w.cell? ⟨z,0,none⟩=some (.func (.func 324) #[] #[]):=(Q.past _ h2 l2).trans b2;obtain⟨F0,HM,B1,B2⟩:=kh4 Q.good.top_fit Q b1 b2;clear Q b1 b2;go_enter Tryz.func335,Tryz.ntmps335
 go_region_with (first|(go_at_call 333;refine (Yt p s W _ ?_).mono ?_;(first|exact Za HM|exact HM.drew|exact HM.drewN _);rintro e w1 ⟨rfl,aa⟩;have c2:=(aa.past ⟨bm,0,none⟩ h1 l1).trans B1;have c3:=(aa.past ⟨z,0,none⟩ h2 l2).trans B2;replace aa:=Zd aa)|(go_at_call 324;refine (Zrc _ _).mono ?_;rintro e w' ⟨rfl,rfl⟩)|(go_at_call 303;refine (Xw p s.take _ W _ ?_).mono ?_;exact Za aa;rintro e w' ⟨rfl,al⟩))
 all_goals go_wp2
 all_goals go_end0
 all_goals exact⟨rfl,by assumption⟩
