import Derived.Test.YtpikejjiignchaaGreatDoorG8
namespace Go.Proofs.YtpikejjiignchaaGreatDoor
open Go.RowKit
set_option maxHeartbeats 8000000 in
theorem Zhd(p bm bf:Nat)(s:MS)(n:Int)(W w:World)(hm:Mach p s W w)(h1:bm≠p)(h2:bf≠p)(l1:bm<W.heap.size)(l2:bf<W.heap.size)
  (b1:W.cell? ⟨bm,0,none⟩=some (.pointer (some ⟨p,0,none⟩))) (b2:W.cell? ⟨bf,0,none⟩=some (.func (.func 264) #[] #[])) :
  Calls Tryz.prog 272 #[.int .i64 n,.pointer (some ⟨bm,0,none⟩),.pointer (some ⟨bf,0,none⟩)] w fun e w'=>e = .returned (.tuple #[])∧Mach p (s.step 9 n) W w':=by
 have c0:w.cell? ⟨bm,0,none⟩=some (.pointer (some ⟨p,0,none⟩)):=(hm.past _ h1 l1).trans b1
 have c1:w.cell? ⟨bf,0,none⟩=some (.func (.func 264) #[] #[]):=(hm.past _ h2 l2).trans b2
 have F0:=Zb hm.good.top_fit
 have HM:=Zb hm
 have B1:=Zb b1
 have B2:=Zb b2
 clear hm b1 b2
 go_enter Tryz.func272,Tryz.ntmps272
 go_region_with (first|(go_at_call 270;refine (Yl p s W _ ?_).mono ?_;(first|exact Za HM|exact (Za HM).drew|exact (Za HM).drewN _);rintro e w1 ⟨rfl,hm1⟩;have c2:=(hm1.past ⟨bm,0,none⟩ h1 l1).trans (Za B1);have c3:=(hm1.past ⟨bf,0,none⟩ h2 l2).trans (Za B2);replace hm1:=Zb hm1)|(go_at_call 264;refine (Zhf _ _).mono ?_;rintro e w' ⟨rfl,rfl⟩)|(go_at_call 247;refine (Xt p s.take _ W _ ?_).mono ?_;exact Za hm1;rintro e w' ⟨rfl,hm'⟩))
 all_goals go_wp2
 all_goals go_end0
 all_goals exact⟨rfl,by assumption⟩
end Go.Proofs.YtpikejjiignchaaGreatDoor
