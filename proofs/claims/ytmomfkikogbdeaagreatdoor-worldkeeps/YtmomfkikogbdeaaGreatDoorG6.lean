import Derived.Test.YtmomfkikogbdeaaGreatDoorG5
open Go.Proofs.Tryz
open Go.Ending renaming returned->cS
open Go.IntKind renaming i64->J
open Go.Value renaming int->E,tuple->cT,pointer->cU
set_option maxHeartbeats 800000
namespace Go.Proofs.YtmomfkikogbdeaaGreatDoor
open Go.RowKit
theorem Zme(p bm z:Nat)(s:MS)(n:Int)(W w:World)(Q:Mach p s W w)(h1:bm≠p)(h2:z≠p)(l1:bm<W.heap.size)(l2:z<W.heap.size)
  (b1:W.cell? ⟨bm,0,none⟩=some (cU (some ⟨p,0,none⟩))) (b2:W.cell? ⟨z,0,none⟩=some (.func (.func 318) #[] #[])) :
  Calls Tryz.prog 334 #[E J n,cU (some ⟨bm,0,none⟩),cU (some ⟨z,0,none⟩)] w λe w'=>e = cS (cT #[])/\Mach p (s.step 5 n) W w':=by
 have c0:w.cell? ⟨bm,0,none⟩=some (cU (some ⟨p,0,none⟩)):=(Q.past _ h1 l1).trans b1;have F0:=Zd Q.good.top_fit;have F1:=Zd Q.good.take_ok.top_fit;have HM:=Zd Q;clear Q;go_enter func334,ntmps334;go_wp2_with fail;refine (Yl p s W _ HM).mono ?_;rintro e w1 ⟨rfl,ac⟩;have c1:w1.cell? ⟨bm,0,none⟩=some (cU (some ⟨p,0,none⟩)):=(ac.past _ h1 l1).trans b1;have aj:=Zd ac;clear ac;go_wp2_with fail;refine (Yl p s.take W _ aj).mono ?_;rintro e w2 ⟨rfl,aa⟩;have c2:w2.cell? ⟨bm,0,none⟩=some (cU (some ⟨p,0,none⟩)):=(aa.past _ h1 l1).trans b1;have c3:w2.cell? ⟨z,0,none⟩=some (.func (.func 318) #[] #[]):=(aa.past _ h2 l2).trans b2;have ab:=Zd aa;clear aa c0 c1 b1 b2;go_wp2
 go_region_with (first|(go_at_call 318;refine (Zms _ _ _ F1 F0).mono ?_;rintro e w' ⟨rfl,rfl⟩)|(go_at_call 303;refine (Xg p s.take.take _ W _ ?_).mono ?_;(first|exact Za ab|exact ab.drew|exact ab.drewN _);rintro e w' ⟨rfl,ap⟩))
 all_goals go_wp2
 all_goals go_end0
 all_goals exact⟨rfl,by assumption⟩
theorem Zmd(p bm z:Nat)(s:MS)(n:Int)(W w:World)(Q:Mach p s W w)(h1:bm≠p)(h2:z≠p)(l1:bm<W.heap.size)(l2:z<W.heap.size)
  (b1:W.cell? ⟨bm,0,none⟩=some (cU (some ⟨p,0,none⟩))) (b2:W.cell? ⟨z,0,none⟩=some (.func (.func 319) #[] #[])) :
  Calls Tryz.prog 334 #[E J n,cU (some ⟨bm,0,none⟩),cU (some ⟨z,0,none⟩)] w λe w'=>e = cS (cT #[])/\Mach p (s.step 6 n) W w':=by
 have c0:w.cell? ⟨bm,0,none⟩=some (cU (some ⟨p,0,none⟩)):=(Q.past _ h1 l1).trans b1;have F0:=Zd Q.good.top_fit;have F1:=Zd Q.good.take_ok.top_fit;have HM:=Zd Q;clear Q;go_enter func334,ntmps334;go_wp2_with fail;refine (Yl p s W _ HM).mono ?_;rintro e w1 ⟨rfl,ac⟩;have c1:w1.cell? ⟨bm,0,none⟩=some (cU (some ⟨p,0,none⟩)):=(ac.past _ h1 l1).trans b1;have aj:=Zd ac;clear ac;go_wp2_with fail;refine (Yl p s.take W _ aj).mono ?_;rintro e w2 ⟨rfl,aa⟩;have c2:w2.cell? ⟨bm,0,none⟩=some (cU (some ⟨p,0,none⟩)):=(aa.past _ h1 l1).trans b1;have c3:w2.cell? ⟨z,0,none⟩=some (.func (.func 319) #[] #[]):=(aa.past _ h2 l2).trans b2;have ab:=Zd aa;clear aa c0 c1 b1 b2;go_wp2
 go_region_with (first|(go_at_call 319;refine (Zmr _ _ _ F1 F0).mono ?_;rintro e w' ⟨rfl,rfl⟩)|(go_at_call 303;refine (Xg p s.take.take _ W _ ?_).mono ?_;(first|exact Za ab|exact ab.drew|exact ab.drewN _);rintro e w' ⟨rfl,ap⟩))
 all_goals go_wp2
 all_goals go_end0
 all_goals exact⟨rfl,by assumption⟩
theorem Zmc(p bm z:Nat)(s:MS)(n:Int)(W w:World)(Q:Mach p s W w)(h1:bm≠p)(h2:z≠p)(l1:bm<W.heap.size)(l2:z<W.heap.size)
  (b1:W.cell? ⟨bm,0,none⟩=some (cU (some ⟨p,0,none⟩))) (b2:W.cell? ⟨z,0,none⟩=some (.func (.func 320) #[] #[])) :
  Calls Tryz.prog 334 #[E J n,cU (some ⟨bm,0,none⟩),cU (some ⟨z,0,none⟩)] w λe w'=>e = cS (cT #[])/\Mach p (s.step 7 n) W w':=by
 have c0:w.cell? ⟨bm,0,none⟩=some (cU (some ⟨p,0,none⟩)):=(Q.past _ h1 l1).trans b1;have F0:=Zd Q.good.top_fit;have F1:=Zd Q.good.take_ok.top_fit;have HM:=Zd Q;clear Q;go_enter func334,ntmps334;go_wp2_with fail;refine (Yl p s W _ HM).mono ?_;rintro e w1 ⟨rfl,ac⟩;have c1:w1.cell? ⟨bm,0,none⟩=some (cU (some ⟨p,0,none⟩)):=(ac.past _ h1 l1).trans b1;have ag:=Zd ac;clear ac;go_wp2_with fail;refine (Yl p s.take W _ ag).mono ?_;rintro e w2 ⟨rfl,aa⟩;have c2:w2.cell? ⟨bm,0,none⟩=some (cU (some ⟨p,0,none⟩)):=(aa.past _ h1 l1).trans b1;have c3:w2.cell? ⟨z,0,none⟩=some (.func (.func 320) #[] #[]):=(aa.past _ h2 l2).trans b2;have ab:=Zd aa;clear aa c0 c1 b1 b2;go_wp2
 go_region_with (first|(go_at_call 320;refine (Zmq _ _ _).mono ?_;rintro e w' ⟨rfl,rfl⟩)|(go_at_call 303;refine (Xg p s.take.take _ W _ ?_).mono ?_;(first|exact Za ab|exact ab.drew|exact ab.drewN _);rintro e w' ⟨rfl,ap⟩))
 all_goals go_wp2
 all_goals go_end0
 all_goals exact⟨rfl,by assumption⟩
theorem Zmb(p bm z:Nat)(s:MS)(n:Int)(W w:World)(Q:Mach p s W w)(h1:bm≠p)(h2:z≠p)(l1:bm<W.heap.size)(l2:z<W.heap.size)
  (b1:W.cell? ⟨bm,0,none⟩=some (cU (some ⟨p,0,none⟩))) (b2:W.cell? ⟨z,0,none⟩=some (.func (.func 322) #[] #[])) :
  Calls Tryz.prog 334 #[E J n,cU (some ⟨bm,0,none⟩),cU (some ⟨z,0,none⟩)] w λe w'=>e = cS (cT #[])/\Mach p (s.step 8 n) W w':=by
 have c0:w.cell? ⟨bm,0,none⟩=some (cU (some ⟨p,0,none⟩)):=(Q.past _ h1 l1).trans b1;have F0:=Zd Q.good.top_fit;have F1:=Zd Q.good.take_ok.top_fit;have HM:=Zd Q;clear Q;go_enter func334,ntmps334;go_wp2_with fail;refine (Yl p s W _ HM).mono ?_;rintro e w1 ⟨rfl,ac⟩;have c1:w1.cell? ⟨bm,0,none⟩=some (cU (some ⟨p,0,none⟩)):=(ac.past _ h1 l1).trans b1;have ag:=Zd ac;clear ac;go_wp2_with fail;refine (Yl p s.take W _ ag).mono ?_;rintro e w2 ⟨rfl,aa⟩;have c2:w2.cell? ⟨bm,0,none⟩=some (cU (some ⟨p,0,none⟩)):=(aa.past _ h1 l1).trans b1;have c3:w2.cell? ⟨z,0,none⟩=some (.func (.func 322) #[] #[]):=(aa.past _ h2 l2).trans b2;have ab:=Zd aa;clear aa c0 c1 b1 b2;go_wp2
 go_region_with (first|(go_at_call 322;refine (Zmp _ _ _).mono ?_;rintro e w' ⟨rfl,rfl⟩)|(go_at_call 303;refine (Xg p s.take.take _ W _ ?_).mono ?_;(first|exact Za ab|exact ab.drew|exact ab.drewN _);rintro e w' ⟨rfl,ap⟩))
 all_goals go_wp2
 all_goals go_end0
 all_goals exact⟨rfl,by assumption⟩
theorem Zma(p bm z:Nat)(s:MS)(n:Int)(W w:World)(Q:Mach p s W w)(h1:bm≠p)(h2:z≠p)(l1:bm<W.heap.size)(l2:z<W.heap.size)
  (b1:W.cell? ⟨bm,0,none⟩=some (cU (some ⟨p,0,none⟩))) (b2:W.cell? ⟨z,0,none⟩=some (.func (.func 325) #[] #[])) :
  Calls Tryz.prog 334 #[E J n,cU (some ⟨bm,0,none⟩),cU (some ⟨z,0,none⟩)] w λe w'=>e = cS (cT #[])/\Mach p (s.step 10 n) W w':=by
 have c0:w.cell? ⟨bm,0,none⟩=some (cU (some ⟨p,0,none⟩)):=(Q.past _ h1 l1).trans b1;have F0:=Zd Q.good.top_fit;have F1:=Zd Q.good.take_ok.top_fit;have HM:=Zd Q;clear Q;go_enter func334,ntmps334;go_wp2_with fail;refine (Yl p s W _ HM).mono ?_;rintro e w1 ⟨rfl,ac⟩;have c1:w1.cell? ⟨bm,0,none⟩=some (cU (some ⟨p,0,none⟩)):=(ac.past _ h1 l1).trans b1;have ag:=Zd ac;clear ac;go_wp2_with fail;refine (Yl p s.take W _ ag).mono ?_;rintro e w2 ⟨rfl,aa⟩;have c2:w2.cell? ⟨bm,0,none⟩=some (cU (some ⟨p,0,none⟩)):=(aa.past _ h1 l1).trans b1;have c3:w2.cell? ⟨z,0,none⟩=some (.func (.func 325) #[] #[]):=(aa.past _ h2 l2).trans b2;have ab:=Zd aa;clear aa c0 c1 b1 b2;go_wp2
 go_region_with (first|(go_at_call 325;refine (Zmn _ _ _).mono ?_;rintro e w' ⟨rfl,rfl⟩)|(go_at_call 303;refine (Xg p s.take.take _ W _ ?_).mono ?_;(first|exact Za ab|exact ab.drew|exact ab.drewN _);rintro e w' ⟨rfl,ap⟩))
 all_goals go_wp2
 all_goals go_end0
 all_goals exact⟨rfl,by assumption⟩
