/- The contract of the reference's Applied: of right coins and a right transaction it answers as Apply does. -/
import Derived.Test.YtepmnpapdknocaaGreatDoorRefApplied
namespace Go.Proofs.YtepmnpapdknocaaGreatDoor
open Go.RowKit

theorem applied_any (a : Option Addr) (n c : Nat) (L : List CoinD) (h : Int) (ai ao : Option Addr) (ni ci no co : Nat) (I : List InD) (O : List OutD) (name ht : Int) (x : Int) (M S : List CoinD) (w : World) (hL : CoinsAt w a n L) (sL : SlOk a n c) (hI : InsAt w ai ni I) (hO : OutsAt w ao no O) (hRC : RightC L) (hTx : chkTx (h, I, O) = 0) (hx : apD L (h, I, O) name ht = (x, M, S)) :
    Calls Tryz.prog 42 #[.slice a n c, .agg #[.int .i64 h, .slice ai ni ci, .slice ao no co], .int .i64 name, .int .i64 ht] w fun e w' => ApR w w' x M S e := by
  by_cases n1 : name < 1
  · exact applied_n1 a n c L h ai ao ni ci no co I O name ht x M S w hRC hTx hx n1
  by_cases n2 : 120 < name
  · exact applied_n2 a n c L h ai ao ni ci no co I O name ht x M S w hRC hTx hx n1 n2
  by_cases n3 : ht < 1
  · exact applied_n3 a n c L h ai ao ni ci no co I O name ht x M S w hRC hTx hx n1 n2 n3
  by_cases n4 : 1000 < ht
  · exact applied_n4 a n c L h ai ao ni ci no co I O name ht x M S w hRC hTx hx n1 n2 n3 n4
  by_cases hr : ni = 0
  · by_cases hh : h = ht
    · exact applied_R a n c L h ai ao ni ci no co I O name ht x M S w hL sL hI hO hRC hTx hx n1 n2 n3 n4 hr hh
    · exact applied_n5 a n c L h ai ao ni ci no co I O name ht x M S w hI hRC hTx hx n1 n2 n3 n4 hr hh
  · exact applied_N a n c L h ai ao ni ci no co I O name ht x M S w hL sL hI hO hRC hTx hx n1 n2 n3 n4 hr

end Go.Proofs.YtepmnpapdknocaaGreatDoor
