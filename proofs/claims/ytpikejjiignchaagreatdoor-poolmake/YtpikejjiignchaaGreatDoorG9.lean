import Derived.Test.YtpikejjiignchaaGreatDoorG8
set_option maxHeartbeats 800000
namespace Go.Proofs.YtpikejjiignchaaGreatDoor
open Go.RowKit
theorem Zgy(p bm bf:Nat)(s:MS)(n:Int)(W w:World)(hm:Mach p s W w)(h1:bm≠p)(h2:bf≠p)(l1:bm<W.heap.size)(l2:bf<W.heap.size)
  (b1:W.cell? ⟨bm,0,none⟩=some (.pointer (some ⟨p,0,none⟩))) (b2:W.cell? ⟨bf,0,none⟩=some (.func (.func 258) #[] #[])) :
  Calls Tryz.prog 271 #[.int .i64 n,.pointer (some ⟨bm,0,none⟩),.pointer (some ⟨bf,0,none⟩)] w fun e w'=>e = .returned (.tuple #[])∧Mach p (s.step 5 n) W w':=by
 have c0:w.cell? ⟨bm,0,none⟩=some (.pointer (some ⟨p,0,none⟩)):=(hm.past _ h1 l1).trans b1
 have F0:=Zb hm.good.top_fit
 have F1:=Zb hm.good.take_ok.top_fit
 have HM:=Zb hm
 clear hm
 go_enter Tryz.func271,Tryz.ntmps271
 go_wp2_with fail
 refine (Yl p s W _ (Za HM)).mono ?_
 rintro e w1 ⟨rfl,hm1⟩
 have c1:w1.cell? ⟨bm,0,none⟩=some (.pointer (some ⟨p,0,none⟩)):=(hm1.past _ h1 l1).trans b1
 have HM1:=Zb hm1
 clear hm1
 go_wp2_with fail
 refine (Yl p s.take W _ (Za HM1)).mono ?_
 rintro e w2 ⟨rfl,hm2⟩
 have c2:w2.cell? ⟨bm,0,none⟩=some (.pointer (some ⟨p,0,none⟩)):=(hm2.past _ h1 l1).trans b1
 have c3:w2.cell? ⟨bf,0,none⟩=some (.func (.func 258) #[] #[]):=(hm2.past _ h2 l2).trans b2
 have HM2:=Zb hm2
 clear hm2 c0 c1 b1 b2
 go_wp2
 go_region_with (first|(go_at_call 258;refine (Zhj _ _ _ (Za F1) (Za F0)).mono ?_;rintro e w' ⟨rfl,rfl⟩)|(go_at_call 247;refine (Xt p s.take.take _ W _ ?_).mono ?_;(first|exact Za HM2|exact (Za HM2).drew|exact (Za HM2).drewN _);rintro e w' ⟨rfl,hm'⟩))
 all_goals go_wp2
 all_goals go_end0
 all_goals exact⟨rfl,by assumption⟩
theorem Zgx(p bm bf:Nat)(s:MS)(n:Int)(W w:World)(hm:Mach p s W w)(h1:bm≠p)(h2:bf≠p)(l1:bm<W.heap.size)(l2:bf<W.heap.size)
  (b1:W.cell? ⟨bm,0,none⟩=some (.pointer (some ⟨p,0,none⟩))) (b2:W.cell? ⟨bf,0,none⟩=some (.func (.func 259) #[] #[])) :
  Calls Tryz.prog 271 #[.int .i64 n,.pointer (some ⟨bm,0,none⟩),.pointer (some ⟨bf,0,none⟩)] w fun e w'=>e = .returned (.tuple #[])∧Mach p (s.step 6 n) W w':=by
 have c0:w.cell? ⟨bm,0,none⟩=some (.pointer (some ⟨p,0,none⟩)):=(hm.past _ h1 l1).trans b1
 have F0:=Zb hm.good.top_fit
 have F1:=Zb hm.good.take_ok.top_fit
 have HM:=Zb hm
 clear hm
 go_enter Tryz.func271,Tryz.ntmps271
 go_wp2_with fail
 refine (Yl p s W _ (Za HM)).mono ?_
 rintro e w1 ⟨rfl,hm1⟩
 have c1:w1.cell? ⟨bm,0,none⟩=some (.pointer (some ⟨p,0,none⟩)):=(hm1.past _ h1 l1).trans b1
 have HM1:=Zb hm1
 clear hm1
 go_wp2_with fail
 refine (Yl p s.take W _ (Za HM1)).mono ?_
 rintro e w2 ⟨rfl,hm2⟩
 have c2:w2.cell? ⟨bm,0,none⟩=some (.pointer (some ⟨p,0,none⟩)):=(hm2.past _ h1 l1).trans b1
 have c3:w2.cell? ⟨bf,0,none⟩=some (.func (.func 259) #[] #[]):=(hm2.past _ h2 l2).trans b2
 have HM2:=Zb hm2
 clear hm2 c0 c1 b1 b2
 go_wp2
 go_region_with (first|(go_at_call 259;refine (Zhi _ _ _ (Za F1) (Za F0)).mono ?_;rintro e w' ⟨rfl,rfl⟩)|(go_at_call 247;refine (Xt p s.take.take _ W _ ?_).mono ?_;(first|exact Za HM2|exact (Za HM2).drew|exact (Za HM2).drewN _);rintro e w' ⟨rfl,hm'⟩))
 all_goals go_wp2
 all_goals go_end0
 all_goals exact⟨rfl,by assumption⟩
theorem Zgw(p bm bf:Nat)(s:MS)(n:Int)(W w:World)(hm:Mach p s W w)(h1:bm≠p)(h2:bf≠p)(l1:bm<W.heap.size)(l2:bf<W.heap.size)
  (b1:W.cell? ⟨bm,0,none⟩=some (.pointer (some ⟨p,0,none⟩))) (b2:W.cell? ⟨bf,0,none⟩=some (.func (.func 260) #[] #[])) :
  Calls Tryz.prog 271 #[.int .i64 n,.pointer (some ⟨bm,0,none⟩),.pointer (some ⟨bf,0,none⟩)] w fun e w'=>e = .returned (.tuple #[])∧Mach p (s.step 7 n) W w':=by
 have c0:w.cell? ⟨bm,0,none⟩=some (.pointer (some ⟨p,0,none⟩)):=(hm.past _ h1 l1).trans b1
 have F0:=Zb hm.good.top_fit
 have F1:=Zb hm.good.take_ok.top_fit
 have HM:=Zb hm
 clear hm
 go_enter Tryz.func271,Tryz.ntmps271
 go_wp2_with fail
 refine (Yl p s W _ (Za HM)).mono ?_
 rintro e w1 ⟨rfl,hm1⟩
 have c1:w1.cell? ⟨bm,0,none⟩=some (.pointer (some ⟨p,0,none⟩)):=(hm1.past _ h1 l1).trans b1
 have HM1:=Zb hm1
 clear hm1
 go_wp2_with fail
 refine (Yl p s.take W _ (Za HM1)).mono ?_
 rintro e w2 ⟨rfl,hm2⟩
 have c2:w2.cell? ⟨bm,0,none⟩=some (.pointer (some ⟨p,0,none⟩)):=(hm2.past _ h1 l1).trans b1
 have c3:w2.cell? ⟨bf,0,none⟩=some (.func (.func 260) #[] #[]):=(hm2.past _ h2 l2).trans b2
 have HM2:=Zb hm2
 clear hm2 c0 c1 b1 b2
 go_wp2
 go_region_with (first|(go_at_call 260;refine (Zhh _ _ _).mono ?_;rintro e w' ⟨rfl,rfl⟩)|(go_at_call 247;refine (Xt p s.take.take _ W _ ?_).mono ?_;(first|exact Za HM2|exact (Za HM2).drew|exact (Za HM2).drewN _);rintro e w' ⟨rfl,hm'⟩))
 all_goals go_wp2
 all_goals go_end0
 all_goals exact⟨rfl,by assumption⟩
theorem Zgv(p bm bf:Nat)(s:MS)(n:Int)(W w:World)(hm:Mach p s W w)(h1:bm≠p)(h2:bf≠p)(l1:bm<W.heap.size)(l2:bf<W.heap.size)
  (b1:W.cell? ⟨bm,0,none⟩=some (.pointer (some ⟨p,0,none⟩))) (b2:W.cell? ⟨bf,0,none⟩=some (.func (.func 262) #[] #[])) :
  Calls Tryz.prog 271 #[.int .i64 n,.pointer (some ⟨bm,0,none⟩),.pointer (some ⟨bf,0,none⟩)] w fun e w'=>e = .returned (.tuple #[])∧Mach p (s.step 8 n) W w':=by
 have c0:w.cell? ⟨bm,0,none⟩=some (.pointer (some ⟨p,0,none⟩)):=(hm.past _ h1 l1).trans b1
 have F0:=Zb hm.good.top_fit
 have F1:=Zb hm.good.take_ok.top_fit
 have HM:=Zb hm
 clear hm
 go_enter Tryz.func271,Tryz.ntmps271
 go_wp2_with fail
 refine (Yl p s W _ (Za HM)).mono ?_
 rintro e w1 ⟨rfl,hm1⟩
 have c1:w1.cell? ⟨bm,0,none⟩=some (.pointer (some ⟨p,0,none⟩)):=(hm1.past _ h1 l1).trans b1
 have HM1:=Zb hm1
 clear hm1
 go_wp2_with fail
 refine (Yl p s.take W _ (Za HM1)).mono ?_
 rintro e w2 ⟨rfl,hm2⟩
 have c2:w2.cell? ⟨bm,0,none⟩=some (.pointer (some ⟨p,0,none⟩)):=(hm2.past _ h1 l1).trans b1
 have c3:w2.cell? ⟨bf,0,none⟩=some (.func (.func 262) #[] #[]):=(hm2.past _ h2 l2).trans b2
 have HM2:=Zb hm2
 clear hm2 c0 c1 b1 b2
 go_wp2
 go_region_with (first|(go_at_call 262;refine (Zhg _ _ _).mono ?_;rintro e w' ⟨rfl,rfl⟩)|(go_at_call 247;refine (Xt p s.take.take _ W _ ?_).mono ?_;(first|exact Za HM2|exact (Za HM2).drew|exact (Za HM2).drewN _);rintro e w' ⟨rfl,hm'⟩))
 all_goals go_wp2
 all_goals go_end0
 all_goals exact⟨rfl,by assumption⟩
theorem Zgu(p bm bf:Nat)(s:MS)(n:Int)(W w:World)(hm:Mach p s W w)(h1:bm≠p)(h2:bf≠p)(l1:bm<W.heap.size)(l2:bf<W.heap.size)
  (b1:W.cell? ⟨bm,0,none⟩=some (.pointer (some ⟨p,0,none⟩))) (b2:W.cell? ⟨bf,0,none⟩=some (.func (.func 265) #[] #[])) :
  Calls Tryz.prog 271 #[.int .i64 n,.pointer (some ⟨bm,0,none⟩),.pointer (some ⟨bf,0,none⟩)] w fun e w'=>e = .returned (.tuple #[])∧Mach p (s.step 10 n) W w':=by
 have c0:w.cell? ⟨bm,0,none⟩=some (.pointer (some ⟨p,0,none⟩)):=(hm.past _ h1 l1).trans b1
 have F0:=Zb hm.good.top_fit
 have F1:=Zb hm.good.take_ok.top_fit
 have HM:=Zb hm
 clear hm
 go_enter Tryz.func271,Tryz.ntmps271
 go_wp2_with fail
 refine (Yl p s W _ (Za HM)).mono ?_
 rintro e w1 ⟨rfl,hm1⟩
 have c1:w1.cell? ⟨bm,0,none⟩=some (.pointer (some ⟨p,0,none⟩)):=(hm1.past _ h1 l1).trans b1
 have HM1:=Zb hm1
 clear hm1
 go_wp2_with fail
 refine (Yl p s.take W _ (Za HM1)).mono ?_
 rintro e w2 ⟨rfl,hm2⟩
 have c2:w2.cell? ⟨bm,0,none⟩=some (.pointer (some ⟨p,0,none⟩)):=(hm2.past _ h1 l1).trans b1
 have c3:w2.cell? ⟨bf,0,none⟩=some (.func (.func 265) #[] #[]):=(hm2.past _ h2 l2).trans b2
 have HM2:=Zb hm2
 clear hm2 c0 c1 b1 b2
 go_wp2
 go_region_with (first|(go_at_call 265;refine (Zhe _ _ _).mono ?_;rintro e w' ⟨rfl,rfl⟩)|(go_at_call 247;refine (Xt p s.take.take _ W _ ?_).mono ?_;(first|exact Za HM2|exact (Za HM2).drew|exact (Za HM2).drewN _);rintro e w' ⟨rfl,hm'⟩))
 all_goals go_wp2
 all_goals go_end0
 all_goals exact⟨rfl,by assumption⟩
end Go.Proofs.YtpikejjiignchaaGreatDoor
