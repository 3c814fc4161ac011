import Derived.Test.YtmomfkikogbdeaaGreatDoorG6
open Go.Proofs.Tryz
open Go.Ending renaming returned->dF
open Go.IntKind renaming i64->J
open Go.Value renaming int->E,tuple->dG,pointer->dH
set_option maxHeartbeats 800000
namespace Go.Proofs.YtmomfkikogbdeaaGreatDoor
open Go.RowKit
theorem Zpz(p bm bf:Nat)(s:MS)(n:Int)(W w:World)(hm:Mach p s W w)(h1:bm≠p)(h2:bf≠p)(l1:bm<W.heap.size)(l2:bf<W.heap.size)
  (b1:W.cell? ⟨bm,0,none⟩=some (dH (some ⟨p,0,none⟩))) (b2:W.cell? ⟨bf,0,none⟩=some (.func (.func 318) #[] #[])) :
  Calls Tryz.prog 334 #[E J n,dH (some ⟨bm,0,none⟩),dH (some ⟨bf,0,none⟩)] w λe w'=>e = dF (dG #[])/\Mach p (s.step 5 n) W w':=by
 have c0:w.cell? ⟨bm,0,none⟩=some (dH (some ⟨p,0,none⟩)):=(hm.past _ h1 l1).trans b1;obtain⟨F0,F1,HM⟩:=kh3 hm.good.top_fit hm.good.take_ok.top_fit hm;clear hm;go_enter func334,ntmps334;go_wp2_with fail;refine (Yl p s W _ HM).mono ?_;rintro e w1 ⟨rfl,ae⟩;have c1:w1.cell? ⟨bm,0,none⟩=some (dH (some ⟨p,0,none⟩)):=(ae.past _ h1 l1).trans b1;have ak:=Zd ae;clear ae;go_wp2_with fail;refine (Yl p s.take W _ ak).mono ?_;rintro e w2 ⟨rfl,ac⟩;have c2:w2.cell? ⟨bm,0,none⟩=some (dH (some ⟨p,0,none⟩)):=(ac.past _ h1 l1).trans b1;have c3:w2.cell? ⟨bf,0,none⟩=some (.func (.func 318) #[] #[]):=(ac.past _ h2 l2).trans b2;have ad:=Zd ac;clear ac c0 c1 b1 b2;go_wp2
 go_region_with (first|(go_at_call 318;refine (Zqt _ _ _ F1 F0).mono ?_;rintro e w' ⟨rfl,rfl⟩)|(go_at_call 303;refine (Xk p s.take.take _ W _ ?_).mono ?_;(first|exact Za ad|exact ad.drew|exact ad.drewN _);rintro e w' ⟨rfl,ar⟩))
 all_goals go_wp2
 all_goals go_end0
 all_goals exact⟨rfl,by assumption⟩
theorem Zpy(p bm bf:Nat)(s:MS)(n:Int)(W w:World)(hm:Mach p s W w)(h1:bm≠p)(h2:bf≠p)(l1:bm<W.heap.size)(l2:bf<W.heap.size)
  (b1:W.cell? ⟨bm,0,none⟩=some (dH (some ⟨p,0,none⟩))) (b2:W.cell? ⟨bf,0,none⟩=some (.func (.func 319) #[] #[])) :
  Calls Tryz.prog 334 #[E J n,dH (some ⟨bm,0,none⟩),dH (some ⟨bf,0,none⟩)] w λe w'=>e = dF (dG #[])/\Mach p (s.step 6 n) W w':=by
 have c0:w.cell? ⟨bm,0,none⟩=some (dH (some ⟨p,0,none⟩)):=(hm.past _ h1 l1).trans b1;obtain⟨F0,F1,HM⟩:=kh3 hm.good.top_fit hm.good.take_ok.top_fit hm;clear hm;go_enter func334,ntmps334;go_wp2_with fail;refine (Yl p s W _ HM).mono ?_;rintro e w1 ⟨rfl,ae⟩;have c1:w1.cell? ⟨bm,0,none⟩=some (dH (some ⟨p,0,none⟩)):=(ae.past _ h1 l1).trans b1;have ak:=Zd ae;clear ae;go_wp2_with fail;refine (Yl p s.take W _ ak).mono ?_;rintro e w2 ⟨rfl,ac⟩;have c2:w2.cell? ⟨bm,0,none⟩=some (dH (some ⟨p,0,none⟩)):=(ac.past _ h1 l1).trans b1;have c3:w2.cell? ⟨bf,0,none⟩=some (.func (.func 319) #[] #[]):=(ac.past _ h2 l2).trans b2;have ad:=Zd ac;clear ac c0 c1 b1 b2;go_wp2
 go_region_with (first|(go_at_call 319;refine (Zqs _ _ _ F1 F0).mono ?_;rintro e w' ⟨rfl,rfl⟩)|(go_at_call 303;refine (Xk p s.take.take _ W _ ?_).mono ?_;(first|exact Za ad|exact ad.drew|exact ad.drewN _);rintro e w' ⟨rfl,ar⟩))
 all_goals go_wp2
 all_goals go_end0
 all_goals exact⟨rfl,by assumption⟩
theorem Zpx(p bm bf:Nat)(s:MS)(n:Int)(W w:World)(hm:Mach p s W w)(h1:bm≠p)(h2:bf≠p)(l1:bm<W.heap.size)(l2:bf<W.heap.size)
  (b1:W.cell? ⟨bm,0,none⟩=some (dH (some ⟨p,0,none⟩))) (b2:W.cell? ⟨bf,0,none⟩=some (.func (.func 320) #[] #[])) :
  Calls Tryz.prog 334 #[E J n,dH (some ⟨bm,0,none⟩),dH (some ⟨bf,0,none⟩)] w λe w'=>e = dF (dG #[])/\Mach p (s.step 7 n) W w':=by
 have c0:w.cell? ⟨bm,0,none⟩=some (dH (some ⟨p,0,none⟩)):=(hm.past _ h1 l1).trans b1;obtain⟨F0,F1,HM⟩:=kh3 hm.good.top_fit hm.good.take_ok.top_fit hm;clear hm;go_enter func334,ntmps334;go_wp2_with fail;refine (Yl p s W _ HM).mono ?_;rintro e w1 ⟨rfl,ae⟩;have c1:w1.cell? ⟨bm,0,none⟩=some (dH (some ⟨p,0,none⟩)):=(ae.past _ h1 l1).trans b1;have ah:=Zd ae;clear ae;go_wp2_with fail;refine (Yl p s.take W _ ah).mono ?_;rintro e w2 ⟨rfl,ac⟩;have c2:w2.cell? ⟨bm,0,none⟩=some (dH (some ⟨p,0,none⟩)):=(ac.past _ h1 l1).trans b1;have c3:w2.cell? ⟨bf,0,none⟩=some (.func (.func 320) #[] #[]):=(ac.past _ h2 l2).trans b2;have ad:=Zd ac;clear ac c0 c1 b1 b2;go_wp2
 go_region_with (first|(go_at_call 320;refine (Zqr _ _ _).mono ?_;rintro e w' ⟨rfl,rfl⟩)|(go_at_call 303;refine (Xk p s.take.take _ W _ ?_).mono ?_;(first|exact Za ad|exact ad.drew|exact ad.drewN _);rintro e w' ⟨rfl,ar⟩))
 all_goals go_wp2
 all_goals go_end0
 all_goals exact⟨rfl,by assumption⟩
theorem Zpw(p bm bf:Nat)(s:MS)(n:Int)(W w:World)(hm:Mach p s W w)(h1:bm≠p)(h2:bf≠p)(l1:bm<W.heap.size)(l2:bf<W.heap.size)
  (b1:W.cell? ⟨bm,0,none⟩=some (dH (some ⟨p,0,none⟩))) (b2:W.cell? ⟨bf,0,none⟩=some (.func (.func 322) #[] #[])) :
  Calls Tryz.prog 334 #[E J n,dH (some ⟨bm,0,none⟩),dH (some ⟨bf,0,none⟩)] w λe w'=>e = dF (dG #[])/\Mach p (s.step 8 n) W w':=by
 have c0:w.cell? ⟨bm,0,none⟩=some (dH (some ⟨p,0,none⟩)):=(hm.past _ h1 l1).trans b1;obtain⟨F0,F1,HM⟩:=kh3 hm.good.top_fit hm.good.take_ok.top_fit hm;clear hm;go_enter func334,ntmps334;go_wp2_with fail;refine (Yl p s W _ HM).mono ?_;rintro e w1 ⟨rfl,ae⟩;have c1:w1.cell? ⟨bm,0,none⟩=some (dH (some ⟨p,0,none⟩)):=(ae.past _ h1 l1).trans b1;have ah:=Zd ae;clear ae;go_wp2_with fail;refine (Yl p s.take W _ ah).mono ?_;rintro e w2 ⟨rfl,ac⟩;have c2:w2.cell? ⟨bm,0,none⟩=some (dH (some ⟨p,0,none⟩)):=(ac.past _ h1 l1).trans b1;have c3:w2.cell? ⟨bf,0,none⟩=some (.func (.func 322) #[] #[]):=(ac.past _ h2 l2).trans b2;have ad:=Zd ac;clear ac c0 c1 b1 b2;go_wp2
 go_region_with (first|(go_at_call 322;refine (Zqq _ _ _).mono ?_;rintro e w' ⟨rfl,rfl⟩)|(go_at_call 303;refine (Xk p s.take.take _ W _ ?_).mono ?_;(first|exact Za ad|exact ad.drew|exact ad.drewN _);rintro e w' ⟨rfl,ar⟩))
 all_goals go_wp2
 all_goals go_end0
 all_goals exact⟨rfl,by assumption⟩
theorem Zpv(p bm bf:Nat)(s:MS)(n:Int)(W w:World)(hm:Mach p s W w)(h1:bm≠p)(h2:bf≠p)(l1:bm<W.heap.size)(l2:bf<W.heap.size)
  (b1:W.cell? ⟨bm,0,none⟩=some (dH (some ⟨p,0,none⟩))) (b2:W.cell? ⟨bf,0,none⟩=some (.func (.func 325) #[] #[])) :
  Calls Tryz.prog 334 #[E J n,dH (some ⟨bm,0,none⟩),dH (some ⟨bf,0,none⟩)] w λe w'=>e = dF (dG #[])/\Mach p (s.step 10 n) W w':=by
 have c0:w.cell? ⟨bm,0,none⟩=some (dH (some ⟨p,0,none⟩)):=(hm.past _ h1 l1).trans b1;obtain⟨F0,F1,HM⟩:=kh3 hm.good.top_fit hm.good.take_ok.top_fit hm;clear hm;go_enter func334,ntmps334;go_wp2_with fail;refine (Yl p s W _ HM).mono ?_;rintro e w1 ⟨rfl,ae⟩;have c1:w1.cell? ⟨bm,0,none⟩=some (dH (some ⟨p,0,none⟩)):=(ae.past _ h1 l1).trans b1;have ah:=Zd ae;clear ae;go_wp2_with fail;refine (Yl p s.take W _ ah).mono ?_;rintro e w2 ⟨rfl,ac⟩;have c2:w2.cell? ⟨bm,0,none⟩=some (dH (some ⟨p,0,none⟩)):=(ac.past _ h1 l1).trans b1;have c3:w2.cell? ⟨bf,0,none⟩=some (.func (.func 325) #[] #[]):=(ac.past _ h2 l2).trans b2;have ad:=Zd ac;clear ac c0 c1 b1 b2;go_wp2
 go_region_with (first|(go_at_call 325;refine (Zqo _ _ _).mono ?_;rintro e w' ⟨rfl,rfl⟩)|(go_at_call 303;refine (Xk p s.take.take _ W _ ?_).mono ?_;(first|exact Za ad|exact ad.drew|exact ad.drewN _);rintro e w' ⟨rfl,ar⟩))
 all_goals go_wp2
 all_goals go_end0
 all_goals exact⟨rfl,by assumption⟩
