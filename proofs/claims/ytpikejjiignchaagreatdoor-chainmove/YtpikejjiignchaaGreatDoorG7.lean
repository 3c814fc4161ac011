import Derived.Test.YtpikejjiignchaaGreatDoorG6
open Go.Proofs.Tryz
open Go.Ending renaming returned->dX
open Go.IntKind renaming i64->J
open Go.Value renaming int->E,tuple->dY,pointer->dZ
set_option maxHeartbeats 800000
namespace Go.Proofs.YtpikejjiignchaaGreatDoor
open Go.RowKit
theorem Zqc(p bm z:Nat)(s:MS)(n:Int)(W w:World)(O:Mach p s W w)(h1:bm≠p)(h2:z≠p)(l1:bm<W.heap.size)(l2:z<W.heap.size)
  (b1:W.cell? ⟨bm,0,none⟩=some (dZ (some ⟨p,0,none⟩))) (b2:W.cell? ⟨z,0,none⟩=some (.func (.func 258) #[] #[])) :
  Calls Tryz.prog 271 #[E J n,dZ (some ⟨bm,0,none⟩),dZ (some ⟨z,0,none⟩)] w λe w'=>e = dX (dY #[])/\Mach p (s.step 5 n) W w':=by
 have c0:w.cell? ⟨bm,0,none⟩=some (dZ (some ⟨p,0,none⟩)):=(O.past _ h1 l1).trans b1;have F0:=Zb O.good.top_fit;have F1:=Zb O.good.take_ok.top_fit;have HM:=Zb O;clear O;go_enter func271,ntmps271;go_wp2_with fail;refine (Y7 p s W _ HM).mono ?_;rintro e w1 ⟨rfl,ad⟩;have c1:w1.cell? ⟨bm,0,none⟩=some (dZ (some ⟨p,0,none⟩)):=(ad.past _ h1 l1).trans b1;have aj:=Zb ad;clear ad;go_wp2_with fail;refine (Y7 p s.take W _ aj).mono ?_;rintro e w2 ⟨rfl,ab⟩;have c2:w2.cell? ⟨bm,0,none⟩=some (dZ (some ⟨p,0,none⟩)):=(ab.past _ h1 l1).trans b1;have c3:w2.cell? ⟨z,0,none⟩=some (.func (.func 258) #[] #[]):=(ab.past _ h2 l2).trans b2;have ac:=Zb ab;clear ab c0 c1 b1 b2;go_wp2
 go_region_with (first|(go_at_call 258;refine (Zqn _ _ _ F1 F0).mono ?_;rintro e w' ⟨rfl,rfl⟩)|(go_at_call 247;refine (Wt p s.take.take _ W _ ?_).mono ?_;(first|exact Za ac|exact ac.drew|exact ac.drewN _);rintro e w' ⟨rfl,ao⟩))
 all_goals go_wp2
 all_goals go_end0
 all_goals exact⟨rfl,by assumption⟩
theorem Zqb(p bm z:Nat)(s:MS)(n:Int)(W w:World)(O:Mach p s W w)(h1:bm≠p)(h2:z≠p)(l1:bm<W.heap.size)(l2:z<W.heap.size)
  (b1:W.cell? ⟨bm,0,none⟩=some (dZ (some ⟨p,0,none⟩))) (b2:W.cell? ⟨z,0,none⟩=some (.func (.func 259) #[] #[])) :
  Calls Tryz.prog 271 #[E J n,dZ (some ⟨bm,0,none⟩),dZ (some ⟨z,0,none⟩)] w λe w'=>e = dX (dY #[])/\Mach p (s.step 6 n) W w':=by
 have c0:w.cell? ⟨bm,0,none⟩=some (dZ (some ⟨p,0,none⟩)):=(O.past _ h1 l1).trans b1;have F0:=Zb O.good.top_fit;have F1:=Zb O.good.take_ok.top_fit;have HM:=Zb O;clear O;go_enter func271,ntmps271;go_wp2_with fail;refine (Y7 p s W _ HM).mono ?_;rintro e w1 ⟨rfl,ad⟩;have c1:w1.cell? ⟨bm,0,none⟩=some (dZ (some ⟨p,0,none⟩)):=(ad.past _ h1 l1).trans b1;have aj:=Zb ad;clear ad;go_wp2_with fail;refine (Y7 p s.take W _ aj).mono ?_;rintro e w2 ⟨rfl,ab⟩;have c2:w2.cell? ⟨bm,0,none⟩=some (dZ (some ⟨p,0,none⟩)):=(ab.past _ h1 l1).trans b1;have c3:w2.cell? ⟨z,0,none⟩=some (.func (.func 259) #[] #[]):=(ab.past _ h2 l2).trans b2;have ac:=Zb ab;clear ab c0 c1 b1 b2;go_wp2
 go_region_with (first|(go_at_call 259;refine (Zqm _ _ _ F1 F0).mono ?_;rintro e w' ⟨rfl,rfl⟩)|(go_at_call 247;refine (Wt p s.take.take _ W _ ?_).mono ?_;(first|exact Za ac|exact ac.drew|exact ac.drewN _);rintro e w' ⟨rfl,ao⟩))
 all_goals go_wp2
 all_goals go_end0
 all_goals exact⟨rfl,by assumption⟩
theorem Zqa(p bm z:Nat)(s:MS)(n:Int)(W w:World)(O:Mach p s W w)(h1:bm≠p)(h2:z≠p)(l1:bm<W.heap.size)(l2:z<W.heap.size)
  (b1:W.cell? ⟨bm,0,none⟩=some (dZ (some ⟨p,0,none⟩))) (b2:W.cell? ⟨z,0,none⟩=some (.func (.func 260) #[] #[])) :
  Calls Tryz.prog 271 #[E J n,dZ (some ⟨bm,0,none⟩),dZ (some ⟨z,0,none⟩)] w λe w'=>e = dX (dY #[])/\Mach p (s.step 7 n) W w':=by
 have c0:w.cell? ⟨bm,0,none⟩=some (dZ (some ⟨p,0,none⟩)):=(O.past _ h1 l1).trans b1;have F0:=Zb O.good.top_fit;have F1:=Zb O.good.take_ok.top_fit;have HM:=Zb O;clear O;go_enter func271,ntmps271;go_wp2_with fail;refine (Y7 p s W _ HM).mono ?_;rintro e w1 ⟨rfl,ad⟩;have c1:w1.cell? ⟨bm,0,none⟩=some (dZ (some ⟨p,0,none⟩)):=(ad.past _ h1 l1).trans b1;have ah:=Zb ad;clear ad;go_wp2_with fail;refine (Y7 p s.take W _ ah).mono ?_;rintro e w2 ⟨rfl,ab⟩;have c2:w2.cell? ⟨bm,0,none⟩=some (dZ (some ⟨p,0,none⟩)):=(ab.past _ h1 l1).trans b1;have c3:w2.cell? ⟨z,0,none⟩=some (.func (.func 260) #[] #[]):=(ab.past _ h2 l2).trans b2;have ac:=Zb ab;clear ab c0 c1 b1 b2;go_wp2
 go_region_with (first|(go_at_call 260;refine (Zql _ _ _).mono ?_;rintro e w' ⟨rfl,rfl⟩)|(go_at_call 247;refine (Wt p s.take.take _ W _ ?_).mono ?_;(first|exact Za ac|exact ac.drew|exact ac.drewN _);rintro e w' ⟨rfl,ao⟩))
 all_goals go_wp2
 all_goals go_end0
 all_goals exact⟨rfl,by assumption⟩
theorem Zpz(p bm z:Nat)(s:MS)(n:Int)(W w:World)(O:Mach p s W w)(h1:bm≠p)(h2:z≠p)(l1:bm<W.heap.size)(l2:z<W.heap.size)
  (b1:W.cell? ⟨bm,0,none⟩=some (dZ (some ⟨p,0,none⟩))) (b2:W.cell? ⟨z,0,none⟩=some (.func (.func 262) #[] #[])) :
  Calls Tryz.prog 271 #[E J n,dZ (some ⟨bm,0,none⟩),dZ (some ⟨z,0,none⟩)] w λe w'=>e = dX (dY #[])/\Mach p (s.step 8 n) W w':=by
 have c0:w.cell? ⟨bm,0,none⟩=some (dZ (some ⟨p,0,none⟩)):=(O.past _ h1 l1).trans b1;have F0:=Zb O.good.top_fit;have F1:=Zb O.good.take_ok.top_fit;have HM:=Zb O;clear O;go_enter func271,ntmps271;go_wp2_with fail;refine (Y7 p s W _ HM).mono ?_;rintro e w1 ⟨rfl,ad⟩;have c1:w1.cell? ⟨bm,0,none⟩=some (dZ (some ⟨p,0,none⟩)):=(ad.past _ h1 l1).trans b1;have ah:=Zb ad;clear ad;go_wp2_with fail;refine (Y7 p s.take W _ ah).mono ?_;rintro e w2 ⟨rfl,ab⟩;have c2:w2.cell? ⟨bm,0,none⟩=some (dZ (some ⟨p,0,none⟩)):=(ab.past _ h1 l1).trans b1;have c3:w2.cell? ⟨z,0,none⟩=some (.func (.func 262) #[] #[]):=(ab.past _ h2 l2).trans b2;have ac:=Zb ab;clear ab c0 c1 b1 b2;go_wp2
 go_region_with (first|(go_at_call 262;refine (Zqk _ _ _).mono ?_;rintro e w' ⟨rfl,rfl⟩)|(go_at_call 247;refine (Wt p s.take.take _ W _ ?_).mono ?_;(first|exact Za ac|exact ac.drew|exact ac.drewN _);rintro e w' ⟨rfl,ao⟩))
 all_goals go_wp2
 all_goals go_end0
 all_goals exact⟨rfl,by assumption⟩
theorem Zpy(p bm z:Nat)(s:MS)(n:Int)(W w:World)(O:Mach p s W w)(h1:bm≠p)(h2:z≠p)(l1:bm<W.heap.size)(l2:z<W.heap.size)
  (b1:W.cell? ⟨bm,0,none⟩=some (dZ (some ⟨p,0,none⟩))) (b2:W.cell? ⟨z,0,none⟩=some (.func (.func 265) #[] #[])) :
  Calls Tryz.prog 271 #[E J n,dZ (some ⟨bm,0,none⟩),dZ (some ⟨z,0,none⟩)] w λe w'=>e = dX (dY #[])/\Mach p (s.step 10 n) W w':=by
 have c0:w.cell? ⟨bm,0,none⟩=some (dZ (some ⟨p,0,none⟩)):=(O.past _ h1 l1).trans b1;have F0:=Zb O.good.top_fit;have F1:=Zb O.good.take_ok.top_fit;have HM:=Zb O;clear O;go_enter func271,ntmps271;go_wp2_with fail;refine (Y7 p s W _ HM).mono ?_;rintro e w1 ⟨rfl,ad⟩;have c1:w1.cell? ⟨bm,0,none⟩=some (dZ (some ⟨p,0,none⟩)):=(ad.past _ h1 l1).trans b1;have ah:=Zb ad;clear ad;go_wp2_with fail;refine (Y7 p s.take W _ ah).mono ?_;rintro e w2 ⟨rfl,ab⟩;have c2:w2.cell? ⟨bm,0,none⟩=some (dZ (some ⟨p,0,none⟩)):=(ab.past _ h1 l1).trans b1;have c3:w2.cell? ⟨z,0,none⟩=some (.func (.func 265) #[] #[]):=(ab.past _ h2 l2).trans b2;have ac:=Zb ab;clear ab c0 c1 b1 b2;go_wp2
 go_region_with (first|(go_at_call 265;refine (Zqi _ _ _).mono ?_;rintro e w' ⟨rfl,rfl⟩)|(go_at_call 247;refine (Wt p s.take.take _ W _ ?_).mono ?_;(first|exact Za ac|exact ac.drew|exact ac.drewN _);rintro e w' ⟨rfl,ao⟩))
 all_goals go_wp2
 all_goals go_end0
 all_goals exact⟨rfl,by assumption⟩
