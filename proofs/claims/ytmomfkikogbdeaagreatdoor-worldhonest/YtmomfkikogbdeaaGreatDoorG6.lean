import Derived.Test.YtmomfkikogbdeaaGreatDoorG5
open Go.Proofs.Tryz
open Go.Ending renaming returned->dA
open Go.IntKind renaming i64->J
open Go.Value renaming int->E,tuple->dB,pointer->dC
set_option maxHeartbeats 800000
namespace Go.Proofs.YtmomfkikogbdeaaGreatDoor
open Go.RowKit
theorem Zqo(p bm z:Nat)(s:MS)(n:Int)(W w:World)(Q:Mach p s W w)(h1:bm≠p)(h2:z≠p)(l1:bm<W.heap.size)(l2:z<W.heap.size)
  (b1:W.cell? ⟨bm,0,none⟩=some (dC (some ⟨p,0,none⟩))) (b2:W.cell? ⟨z,0,none⟩=some (.func (.func 318) #[] #[])) :
  Calls Tryz.prog 334 #[E J n,dC (some ⟨bm,0,none⟩),dC (some ⟨z,0,none⟩)] w λe w'=>e = dA (dB #[])/\Mach p (s.step 5 n) W w':=by
 have c0:w.cell? ⟨bm,0,none⟩=some (dC (some ⟨p,0,none⟩)):=(Q.past _ h1 l1).trans b1;obtain⟨F0,F1,HM⟩:=kh3 Q.good.top_fit Q.good.take_ok.top_fit Q;clear Q;go_enter func334,ntmps334;go_wp2_with fail;refine (Yt p s W _ HM).mono ?_;rintro e w1 ⟨rfl,ac⟩;have c1:w1.cell? ⟨bm,0,none⟩=some (dC (some ⟨p,0,none⟩)):=(ac.past _ h1 l1).trans b1;have aj:=Zd ac;clear ac;go_wp2_with fail;refine (Yt p s.take W _ aj).mono ?_;rintro e w2 ⟨rfl,aa⟩;have c2:w2.cell? ⟨bm,0,none⟩=some (dC (some ⟨p,0,none⟩)):=(aa.past _ h1 l1).trans b1;have c3:w2.cell? ⟨z,0,none⟩=some (.func (.func 318) #[] #[]):=(aa.past _ h2 l2).trans b2;have ab:=Zd aa;clear aa c0 c1 b1 b2;go_wp2
 go_region_with (first|(go_at_call 318;refine (Zrg _ _ _ F1 F0).mono ?_;rintro e w' ⟨rfl,rfl⟩)|(go_at_call 303;refine (Xw p s.take.take _ W _ ?_).mono ?_;(first|exact Za ab|exact ab.drew|exact ab.drewN _);rintro e w' ⟨rfl,ap⟩))
 all_goals go_wp2
 all_goals go_end0
 all_goals exact⟨rfl,by assumption⟩
theorem Zqn(p bm z:Nat)(s:MS)(n:Int)(W w:World)(Q:Mach p s W w)(h1:bm≠p)(h2:z≠p)(l1:bm<W.heap.size)(l2:z<W.heap.size)
  (b1:W.cell? ⟨bm,0,none⟩=some (dC (some ⟨p,0,none⟩))) (b2:W.cell? ⟨z,0,none⟩=some (.func (.func 319) #[] #[])) :
  Calls Tryz.prog 334 #[E J n,dC (some ⟨bm,0,none⟩),dC (some ⟨z,0,none⟩)] w λe w'=>e = dA (dB #[])/\Mach p (s.step 6 n) W w':=by
 have c0:w.cell? ⟨bm,0,none⟩=some (dC (some ⟨p,0,none⟩)):=(Q.past _ h1 l1).trans b1;obtain⟨F0,F1,HM⟩:=kh3 Q.good.top_fit Q.good.take_ok.top_fit Q;clear Q;go_enter func334,ntmps334;go_wp2_with fail;refine (Yt p s W _ HM).mono ?_;rintro e w1 ⟨rfl,ac⟩;have c1:w1.cell? ⟨bm,0,none⟩=some (dC (some ⟨p,0,none⟩)):=(ac.past _ h1 l1).trans b1;have aj:=Zd ac;clear ac;go_wp2_with fail;refine (Yt p s.take W _ aj).mono ?_;rintro e w2 ⟨rfl,aa⟩;have c2:w2.cell? ⟨bm,0,none⟩=some (dC (some ⟨p,0,none⟩)):=(aa.past _ h1 l1).trans b1;have c3:w2.cell? ⟨z,0,none⟩=some (.func (.func 319) #[] #[]):=(aa.past _ h2 l2).trans b2;have ab:=Zd aa;clear aa c0 c1 b1 b2;go_wp2
 go_region_with (first|(go_at_call 319;refine (Zrf _ _ _ F1 F0).mono ?_;rintro e w' ⟨rfl,rfl⟩)|(go_at_call 303;refine (Xw p s.take.take _ W _ ?_).mono ?_;(first|exact Za ab|exact ab.drew|exact ab.drewN _);rintro e w' ⟨rfl,ap⟩))
 all_goals go_wp2
 all_goals go_end0
 all_goals exact⟨rfl,by assumption⟩
theorem Zqm(p bm z:Nat)(s:MS)(n:Int)(W w:World)(Q:Mach p s W w)(h1:bm≠p)(h2:z≠p)(l1:bm<W.heap.size)(l2:z<W.heap.size)
  (b1:W.cell? ⟨bm,0,none⟩=some (dC (some ⟨p,0,none⟩))) (b2:W.cell? ⟨z,0,none⟩=some (.func (.func 320) #[] #[])) :
  Calls Tryz.prog 334 #[E J n,dC (some ⟨bm,0,none⟩),dC (some ⟨z,0,none⟩)] w λe w'=>e = dA (dB #[])/\Mach p (s.step 7 n) W w':=by
 have c0:w.cell? ⟨bm,0,none⟩=some (dC (some ⟨p,0,none⟩)):=(Q.past _ h1 l1).trans b1;obtain⟨F0,F1,HM⟩:=kh3 Q.good.top_fit Q.good.take_ok.top_fit Q;clear Q;go_enter func334,ntmps334;go_wp2_with fail;refine (Yt p s W _ HM).mono ?_;rintro e w1 ⟨rfl,ac⟩;have c1:w1.cell? ⟨bm,0,none⟩=some (dC (some ⟨p,0,none⟩)):=(ac.past _ h1 l1).trans b1;have ag:=Zd ac;clear ac;go_wp2_with fail;refine (Yt p s.take W _ ag).mono ?_;rintro e w2 ⟨rfl,aa⟩;have c2:w2.cell? ⟨bm,0,none⟩=some (dC (some ⟨p,0,none⟩)):=(aa.past _ h1 l1).trans b1;have c3:w2.cell? ⟨z,0,none⟩=some (.func (.func 320) #[] #[]):=(aa.past _ h2 l2).trans b2;have ab:=Zd aa;clear aa c0 c1 b1 b2;go_wp2
 go_region_with (first|(go_at_call 320;refine (Zre _ _ _).mono ?_;rintro e w' ⟨rfl,rfl⟩)|(go_at_call 303;refine (Xw p s.take.take _ W _ ?_).mono ?_;(first|exact Za ab|exact ab.drew|exact ab.drewN _);rintro e w' ⟨rfl,ap⟩))
 all_goals go_wp2
 all_goals go_end0
 all_goals exact⟨rfl,by assumption⟩
theorem Zql(p bm z:Nat)(s:MS)(n:Int)(W w:World)(Q:Mach p s W w)(h1:bm≠p)(h2:z≠p)(l1:bm<W.heap.size)(l2:z<W.heap.size)
  (b1:W.cell? ⟨bm,0,none⟩=some (dC (some ⟨p,0,none⟩))) (b2:W.cell? ⟨z,0,none⟩=some (.func (.func 322) #[] #[])) :
  Calls Tryz.prog 334 #[E J n,dC (some ⟨bm,0,none⟩),dC (some ⟨z,0,none⟩)] w λe w'=>e = dA (dB #[])/\Mach p (s.step 8 n) W w':=by
 have c0:w.cell? ⟨bm,0,none⟩=some (dC (some ⟨p,0,none⟩)):=(Q.past _ h1 l1).trans b1;obtain⟨F0,F1,HM⟩:=kh3 Q.good.top_fit Q.good.take_ok.top_fit Q;clear Q;go_enter func334,ntmps334;go_wp2_with fail;refine (Yt p s W _ HM).mono ?_;rintro e w1 ⟨rfl,ac⟩;have c1:w1.cell? ⟨bm,0,none⟩=some (dC (some ⟨p,0,none⟩)):=(ac.past _ h1 l1).trans b1;have ag:=Zd ac;clear ac;go_wp2_with fail;refine (Yt p s.take W _ ag).mono ?_;rintro e w2 ⟨rfl,aa⟩;have c2:w2.cell? ⟨bm,0,none⟩=some (dC (some ⟨p,0,none⟩)):=(aa.past _ h1 l1).trans b1;have c3:w2.cell? ⟨z,0,none⟩=some (.func (.func 322) #[] #[]):=(aa.past _ h2 l2).trans b2;have ab:=Zd aa;clear aa c0 c1 b1 b2;go_wp2
 go_region_with (first|(go_at_call 322;refine (Zrd _ _ _).mono ?_;rintro e w' ⟨rfl,rfl⟩)|(go_at_call 303;refine (Xw p s.take.take _ W _ ?_).mono ?_;(first|exact Za ab|exact ab.drew|exact ab.drewN _);rintro e w' ⟨rfl,ap⟩))
 all_goals go_wp2
 all_goals go_end0
 all_goals exact⟨rfl,by assumption⟩
theorem Zqk(p bm z:Nat)(s:MS)(n:Int)(W w:World)(Q:Mach p s W w)(h1:bm≠p)(h2:z≠p)(l1:bm<W.heap.size)(l2:z<W.heap.size)
  (b1:W.cell? ⟨bm,0,none⟩=some (dC (some ⟨p,0,none⟩))) (b2:W.cell? ⟨z,0,none⟩=some (.func (.func 325) #[] #[])) :
  Calls Tryz.prog 334 #[E J n,dC (some ⟨bm,0,none⟩),dC (some ⟨z,0,none⟩)] w λe w'=>e = dA (dB #[])/\Mach p (s.step 10 n) W w':=by
 have c0:w.cell? ⟨bm,0,none⟩=some (dC (some ⟨p,0,none⟩)):=(Q.past _ h1 l1).trans b1;obtain⟨F0,F1,HM⟩:=kh3 Q.good.top_fit Q.good.take_ok.top_fit Q;clear Q;go_enter func334,ntmps334;go_wp2_with fail;refine (Yt p s W _ HM).mono ?_;rintro e w1 ⟨rfl,ac⟩;have c1:w1.cell? ⟨bm,0,none⟩=some (dC (some ⟨p,0,none⟩)):=(ac.past _ h1 l1).trans b1;have ag:=Zd ac;clear ac;go_wp2_with fail;refine (Yt p s.take W _ ag).mono ?_;rintro e w2 ⟨rfl,aa⟩;have c2:w2.cell? ⟨bm,0,none⟩=some (dC (some ⟨p,0,none⟩)):=(aa.past _ h1 l1).trans b1;have c3:w2.cell? ⟨z,0,none⟩=some (.func (.func 325) #[] #[]):=(aa.past _ h2 l2).trans b2;have ab:=Zd aa;clear aa c0 c1 b1 b2;go_wp2
 go_region_with (first|(go_at_call 325;refine (Zrb _ _ _).mono ?_;rintro e w' ⟨rfl,rfl⟩)|(go_at_call 303;refine (Xw p s.take.take _ W _ ?_).mono ?_;(first|exact Za ab|exact ab.drew|exact ab.drewN _);rintro e w' ⟨rfl,ap⟩))
 all_goals go_wp2
 all_goals go_end0
 all_goals exact⟨rfl,by assumption⟩
