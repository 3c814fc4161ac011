/- The law NodeSupply: whatever comes in, it answers true. -/
import Derived.Test.YtmomfkikogbdeaaGreatDoorNodMakeWToNodSupM
import Derived.Test.YtmomfkikogbdeaaGreatDoorCoinMathToCoinCheck
import Derived.WalkKit
import Derived.ProofKit
import Derived.OpenShut
import Derived.ShutString
import Derived.ChangeOld
import Derived.Below
import Derived.Carry
import Derived.SizedLaws
import Derived.Deep.Strs
import Derived.Deep.SlicePairs
import Derived.Lib.SmallJoins
import Derived.Test.YtmomfkikogbdeaaGreatDoorBookAllWToBlkNames
import Derived.Test.YtmomfkikogbdeaaGreatDoorCoinTakeToBlkHead
import Derived.Test.YtmomfkikogbdeaaGreatDoorLockPrintToBlkPrint
import Derived.HandedShaped
import Derived.LaidLaws
import Derived.LaidMore
import Derived.MakeChecks
import Derived.Stop.Joined
import Derived.Test.YtmomfkikogbdeaaGreatDoorTrMemToTrIdx
namespace Go.Proofs.YtmomfkikogbdeaaGreatDoor
open Go.RowKit
set_option maxRecDepth 10000 in
set_option maxHeartbeats 12800000 in
theorem Ti(ka:Option Addr)(kn kc:Nat)(K:List ByteArray)(na ba pa:Option Addr)(nn nc bn bc pn pc:Nat)(N:List Int)(T:List Zg)(P:List TxD)(tip:Int)(w:World)(hE:Env w)(hK:Bk.TextsAt w ka kn K)(hN:Tr.IntsAt w na nn N)(hT:Tr.BlksAt w ba bn T)(hP:TxsAt w pa pn P)(sN:SlOk na nn nc)(sT:SlOk ba bn bc)(sP:SlOk pa pn pc)(hp:pn≤2513169434916)(hq:∀ t∈P,Tr.TxSmall t) :
  Calls Tryz.prog 9 #[.agg #[.slice ka kn kc],.agg #[.slice na nn nc,.slice ba bn bc,.slice pa pn pc,.int .i64 tip]] w fun e w'=>e = .returned (.bool true)∧Below w.heap.size w w':=by
 obtain⟨X,hX⟩:∃ X,X=Y5 w [.cells #[.slice ka kn kc] 24,.cells #[.slice na nn nc,.slice ba bn bc,.slice pa pn pc,.int .i64 tip] 67]:=⟨_,rfl⟩
 have hX':X=(w.alloc (.cells #[.slice ka kn kc] 24)).alloc (.cells #[.slice na nn nc,.slice ba bn bc,.slice pa pn pc,.int .i64 tip] 67):=hX
 have hbX:Below w.heap.size w X:=by rw[hX];exact Z7 _ _
 have x0:X.heap[w.heap.size]? = some (.cells [.slice ka kn kc].toArray 24 (0,0)):=by rw[hX];exact Zj _ w 0 _ rfl
 have x1:X.heap[w.heap.size+1]? = some (.cells [.slice na nn nc,.slice ba bn bc,.slice pa pn pc,.int .i64 tip].toArray 67 (0,0)):=by rw[hX];exact Zj _ w 1 _ rfl
 obtain⟨x,hx⟩:∃ x,opE K N T P tip=x:=⟨_,rfl⟩
 obtain⟨C,hC⟩:∃ C,(if x=0 then (Xf K N T noB).2 tip else [])=C:=⟨_,rfl⟩
 have C1:=hide (Jp ka kn kc K na ba pa nn nc bn bc pn pc N T P tip x X (hE.later hbX) (hK.later hbX) (hN.later hbX) (hT.later hbX) (hP.later hbX) sN sT sP hp hq hx C hC)
 have HNS:Hid (x=0→Zn C=0∧Zi C≤V4 (Yo N T tip).toNat∧0≤Yo N T tip∧Yo N T tip≤1000∧(tip=0→Yo N T tip=0)∧(tip≠0→(Tr.blockE N T tip).2=0)):=fun e=>by
  have:=Ba (hx.trans e)
  rw[if_pos e] at hC
  rw[hC] at this
  exact this
 have CB:=hide (fun V (hv:Below X.heap.size X V) y z (hy:Tr.blockE N T tip=(y,z))=>Tr.block_is na ba nn nc bn bc N T tip y z V (hN.later (bel_on hbX hv)) (hT.later (bel_on hbX hv)) sN sT hy)
 have HE:Hid (∀ V,Below X.heap.size X V→Env V):=fun V hv=>hE.later (bel_on hbX hv)
 have HX1:=hide x1
 have HBX:=hide hbX
 have t0:=Za x0 0 _ rfl
 have t1:=Za x1 0 _ rfl
 have t2:=Za x1 1 _ rfl
 have t3:=Za x1 2 _ rfl
 have t4:=Za x1 3 _ rfl
 have tl:=lt_of_block x0
 have tl1:=lt_of_block x1
 clear hE hK hN hT hP sN sT sP hp hq hx hC hbX x0 x1 hX
 go_enter Tryz.func9,Tryz.ntmps9
 go_wp2_with fail
 rw[←hX']
 clear hX'
 (try go_wp2_with fail)
 refine (unhide C1).mono ?_
 rintro e w1 ⟨ca,cn,cc,rfl,hcc,-,hb1⟩
 have HB1:=hide hb1
 have HCC:=hide hcc
 have D2:=hide (Kx w1 ((unhide HE) w1 hb1))
 clear hb1 hcc C1 t0 t1 t2 t3 t4 tl tl1
 by_cases h0:x=0
 ·subst h0
  obtain⟨n1,n2,n3,n4,n5,n6⟩:=(unhide HNS) rfl
  clear HNS
  have HN1:=hide n1
  have HN2:=hide n2
  have HN3:=hide n3
  have HN4:=hide n4
  have HN5:=hide n5
  have HN6:=hide n6
  clear n1 n2 n3 n4 n5 n6
  go_wp2_with fail
  refine (unhide D2).mono ?_
  rintro e w2 ⟨rfl,hb2⟩
  have hbx2:=bel_on (unhide HB1) hb2
  have HB2:=hide hbx2
  have HC2:=hide ((unhide HCC).later hb2)
  have y1:=(hbx2.block _ (lt_of_block (unhide HX1))).trans (unhide HX1)
  have t1:=Za y1 0 _ rfl
  have t2:=Za y1 1 _ rfl
  have t3:=Za y1 2 _ rfl
  have t4:=Za y1 3 _ rfl
  have tl1:=lt_of_block y1
  have n1:=unhide HN1
  have n2:=unhide HN2
  have n3:=unhide HN3
  have n4:=unhide HN4
  have n5:=unhide HN5
  have n6:=unhide HN6
  obtain⟨hn,hhn⟩:∃ n:Nat,Yo N T tip=n:=Int.eq_ofNat_of_zero_le n3
  have e2:(Yo N T tip).toNat=hn:=by omega
  rw[e2] at n2
  obtain⟨s,hs⟩:∃ s,Zi C=s:=⟨_,rfl⟩
  obtain⟨M,hM⟩:∃ M,V4 hn=M:=⟨_,rfl⟩
  rw[hs,hM] at n2
  have CT:=hide (fun V (hv:Below w2.heap.size w2 V)=>Hn ca cn cc C 0 s V ((unhide HC2).later hv) n1 ((if_pos rfl).trans hs))
  have CS:=hide (fun V=>Dj hn V (by omega))
  rw[hM] at CS
  clear hb2 hbx2 y1 D2 HB1 HCC HE n1 n3 n4 hs hM e2 HC2 HN1 HN2 HN3 HN4 HN5 HN6
  by_cases e0:tip=0
  ·have hz:(hn:Int)=0:=by rw[←hhn];exact n5 e0
   rw[hz] at CS
   subst e0
   have D3:=hide ((unhide CT) w2 (Below.refl _ _))
   clear hz n5 n6 hhn CB CT
   go_wp2_with fail
   refine (unhide D3).mono ?_
   rintro e w3 ⟨rfl,hb3⟩
   have D4:=hide ((unhide CS) w3)
   have HB3:=hide (bel_on (unhide HB2) hb3)
   clear hb3 D3 CS t1 t2 t3 t4 tl1
   go_wp2_with fail
   refine (unhide D4).mono ?_
   rintro e w4 ⟨rfl,hb4⟩
   have HB4:=hide (bel_on (unhide HBX) (bel_on (unhide HB3) hb4))
   clear hb4 D4
   go_wp2
   go_ret
   exact⟨rfl,unhide HB4⟩
  ·have gt:(tip != 0)=true:=by simp[e0]
   have hz:=n6 e0
   obtain⟨⟨⟨q1,q2,q3,q4,qL⟩,y⟩,hy⟩:∃ r,Tr.blockE N T tip=r:=⟨_,rfl⟩
   have hy0:y=0:=by rw[hy] at hz;exact hz
   subst hy0
   have hq2:q2=(hn:Int):=by rw[←hhn];unfold Yo;rw[hy]
   subst hq2
   have D3:=hide ((unhide CB) w2 (unhide HB2) _ _ hy)
   clear hz n5 n6 hhn hy CB
   go_wp2_with fail
   refine (unhide D3).mono ?_
   rintro e w3 ⟨ta,tn,tc,rfl,-,-,hb3⟩
   obtain⟨V,hV⟩:∃ V,V=w3.alloc (.cells #[.int .i64 q1,.int .i64 (hn:Int),.int .i64 q3,.int .i64 q4,.slice ta tn tc] 39):=⟨_,rfl⟩
   have hbV:Below w3.heap.size w3 V:=by rw[hV];exact bel_new _ _
   have D4:=hide ((unhide CT) V (bel_on hb3 hbV))
   have HBV:=hide (bel_on (unhide HB2) (bel_on hb3 hbV))
   have v0:V.heap[w3.heap.size]? = some (.cells [.int .i64 q1,.int .i64 (hn:Int),.int .i64 q3,.int .i64 q4,.slice ta tn tc].toArray 39 (0,0)):=by rw[hV];exact heap_alloc_new w3 _
   have v1:=Za v0 1 _ rfl
   have vl:=lt_of_block v0
   clear hb3 hbV D3 CT t1 t2 t3 t4 tl1 v0
   go_upto_region 10 with fail
   rw[←hV]
   clear hV v1 vl
   go_wp2_with fail
   refine (unhide D4).mono ?_
   rintro e w4 ⟨rfl,hb4⟩
   have D5:=hide ((unhide CS) w4)
   have HB4:=hide (bel_on (unhide HBV) hb4)
   clear hb4 D4 CS
   go_wp2_with fail
   refine (unhide D5).mono ?_
   rintro e w5 ⟨rfl,hb5⟩
   have HB5:=hide (bel_on (unhide HBX) (bel_on (unhide HB4) hb5))
   clear hb5 D5
   go_wp2
   go_ret
   exact⟨rfl,unhide HB5⟩
 ·have gx:(x != 0)=true:=by simp[h0]
  go_wp2_with fail
  refine (unhide D2).mono ?_
  rintro e w2 ⟨rfl,hb2⟩
  have HB2:=hide (bel_on (unhide HB1) hb2)
  have D3:=hide (Kx w2 ((unhide HE) w2 (unhide HB2)))
  clear hb2 D2 HNS HE CB HCC
  go_wp2_with fail
  refine (unhide D3).mono ?_
  rintro e w3 ⟨rfl,hb3⟩
  have HB3:=hide (bel_on (unhide HBX) (bel_on (unhide HB2) hb3))
  clear hb3 D3
  go_wp2
  go_ret
  exact⟨rfl,unhide HB3⟩
open Go.ChangeShapes Go.WideShapes Go.ChangeAt Go.RowKit
theorem own:ownKnob Tryz.prog.godebug=none:=by kernel_rfl
theorem laidOut:laidOutB Tryz.prog=true:=by kernel_rfl
theorem Tryz.cellsOp:Tryz.prog.cellsOf 164=2:=by kernel_rfl
theorem Tryz.cells3:Tryz.prog.cellsOf 3=1:=by kernel_rfl
theorem ops_open{H:Type}{enc:TypeId×Value→H}{W:World}{sp:Nat→Bool}{held:Bool}{fuel:Nat}{a:Option Addr}{len cap:Nat}{x:DataW H×List MemPlace}
  (h:DataW.trod enc Tryz.prog W 0 sp held fuel 48 [.slice a len cap]=some x):(∃ l,OpsAt W a len l)∧(a=none→len=0∧cap=0):=by
 rcases Deep.open_slice_pairs Tryz.underlying48 Tryz.underlying164 Tryz.cellsOp rfl rfl Tryz.cells3 Tryz.cells3 h with ⟨hcs,_⟩|⟨b,l,c,m,n,V0,V1,D0,D1,P0,P1,hcs,_,hl,_,hm,_,hel⟩
 ·simp at hcs
  obtain⟨rfl,rfl,rfl⟩:=hcs
  exact⟨⟨[],rfl,fun h=>absurd h (by omega)⟩,fun _=>⟨rfl,rfl⟩⟩
 ·simp at hcs
  obtain⟨rfl,rfl,rfl⟩:=hcs
  refine⟨?_,fun h=>by cases h⟩
  have hlm:len≤m:=by rw[hm];split <;> omega
  have each:∀ i,i<len→∃ q:Int×Int,W.cell? (b.add (i*2))=some (.int .i64 q.1)∧W.cell? (b.add (i*2+1))=some (.int .i64 q.2):=fun i hi=>by
   obtain⟨h1,h2,t1,t2⟩:=hel i (by omega)
   obtain⟨z1,e1,_,_⟩:=DataW.trod_int Tryz.underlying3 t1
   obtain⟨z2,e2,_,_⟩:=DataW.trod_int Tryz.underlying3 t2
   simp only[List.cons.injEq,and_true] at e1 e2
   exact⟨(z1,z2),by rw[h1,e1],by rw[h2,e2]⟩
  obtain⟨f,hf⟩:=Deep.choose_lt each
  refine⟨(List.range len).map f,by simp,fun hpos=>?_⟩
  obtain⟨bb,off,spot⟩:=b
  have hspot:spot=none:=by simpa[Addr.add] using World.cell?_spot (hf 0 hpos).1
  subst hspot
  refine⟨bb,off,rfl,fun i hi=>?_⟩
  have hadd:∀ j,(⟨bb,off,none⟩:Addr).add j=⟨bb,off+j,none⟩:=fun j=>by unfold Addr.add;split <;> simp_all
  have h1:=hf i hi
  rw[hadd,hadd] at h1
  rw[←Nat.add_assoc] at h1
  simpa[hi] using h1
theorem Tryz.cellsTx:Tryz.prog.cellsOf 59=3:=by kernel_rfl
theorem Tryz.cellsIn:Tryz.prog.cellsOf 119=3:=by kernel_rfl
theorem Tryz.cellsOut:Tryz.prog.cellsOf 122=2:=by kernel_rfl
theorem Tryz.cellsPoint:Tryz.prog.cellsOf 117=2:=by kernel_rfl
theorem Tryz.cellsOps:Tryz.prog.cellsOf 48=1:=by kernel_rfl
theorem Tryz.cellsIns:Tryz.prog.cellsOf 56=1:=by kernel_rfl
theorem Tryz.cellsOuts:Tryz.prog.cellsOf 57=1:=by kernel_rfl
theorem list_two{cs:List Value}(h:cs.length=2):∃ a b,cs=[a,b]:=by
 match cs,h with
 | [a,b],_=>exact⟨a,b,rfl⟩
theorem list_three{cs:List Value}(h:cs.length=3):∃ a b c,cs=[a,b,c]:=by
 match cs,h with
 | [a,b,c],_=>exact⟨a,b,c,rfl⟩
section
variable {H : Type} {enc : TypeId × Value → H} {W : World} {sp : Nat → Bool} {held : Bool} {fuel : Nat}
theorem ops_full{v:Value}{x:DataW H×List MemPlace}(h:DataW.trod enc Tryz.prog W 0 sp held fuel 48 [v]=some x):∃ a n c l,v = .slice a n c∧OpsAt W a n l∧SlOk a n c:=by
 have h':=h
 rcases Deep.open_slice Tryz.underlying48 h with ⟨hcs,_⟩|⟨b,l,c,m,n,D,Pl,hcs,_,hl,hm,_⟩
 ·simp at hcs
  subst hcs
  exact⟨none,0,0,[],rfl,⟨rfl,fun h=>absurd h (by omega)⟩,Nat.le_refl _,Nat.zero_le _,fun _=>⟨rfl,rfl⟩⟩
 ·simp at hcs
  subst hcs
  obtain⟨⟨L,hO⟩,_⟩:=ops_open h'
  exact⟨some b,l,c,L,rfl,hO,hl,hm,fun h=>by cases h⟩
theorem in_full{cs:List Value}{x:DataW H×List MemPlace}(h:DataW.trod enc Tryz.prog W 0 sp held fuel 119 cs=some x):∃ x1 x2 a n c l,cs=[.int .i64 x1,.int .i64 x2,.slice a n c]∧OpsAt W a n l∧SlOk a n c:=by
 obtain⟨y0,y1,k,_,hl,h0,h1⟩:=trod_struct2 Tryz.underlying119 h
 rw[Tryz.cellsIn] at hl
 obtain⟨c0,c1,c2,rfl⟩:=list_three hl
 simp[Tryz.cellsPoint,Tryz.cellsOps] at h0 h1
 obtain⟨z0,z1,k2,_,_,g0,g1⟩:=trod_struct2 Tryz.underlying117 h0
 simp[Tryz.cells3] at g0 g1
 obtain⟨x1,e1,_,_⟩:=DataW.trod_int Tryz.underlying3 g0
 obtain⟨x2,e2,_,_⟩:=DataW.trod_int Tryz.underlying3 g1
 obtain⟨a,n,c,l,rfl,hO,hS⟩:=ops_full h1
 simp only[List.cons.injEq,and_true] at e1 e2
 subst e1 e2
 exact⟨x1,x2,a,n,c,l,rfl,hO,hS⟩
theorem out_full{cs:List Value}{x:DataW H×List MemPlace}(h:DataW.trod enc Tryz.prog W 0 sp held fuel 122 cs=some x):∃ x1 a n c l,cs=[.int .i64 x1,.slice a n c]∧OpsAt W a n l∧SlOk a n c:=by
 obtain⟨y0,y1,k,_,hl,h0,h1⟩:=trod_struct2 Tryz.underlying122 h
 rw[Tryz.cellsOut] at hl
 obtain⟨c0,c1,rfl⟩:=list_two hl
 simp[Tryz.cells3,Tryz.cellsOps] at h0 h1
 obtain⟨x1,e1,_,_⟩:=DataW.trod_int Tryz.underlying3 h0
 obtain⟨a,n,c,l,rfl,hO,hS⟩:=ops_full h1
 simp only[List.cons.injEq,and_true] at e1
 subst e1
 exact⟨x1,a,n,c,l,rfl,hO,hS⟩
end
end Go.Proofs.YtmomfkikogbdeaaGreatDoor
namespace Go.Proofs.YtmomfkikogbdeaaGreatDoor.Bk
open Go.ChangeShapes Go.WideShapes Go.ChangeAt Go.RowKit
theorem own:ownKnob Tryz.prog.godebug=none:=by kernel_rfl
theorem laidOut:laidOutB Tryz.prog=true:=by kernel_rfl
theorem Tryz.cells9:Tryz.prog.cellsOf 9=1:=by kernel_rfl
theorem Tryz.cellsStrs:Tryz.prog.cellsOf 22=1:=by kernel_rfl
theorem Tryz.cellsBook:Tryz.prog.cellsOf 24=1:=by kernel_rfl
section
variable {H : Type} {enc : TypeId × Value → H} {W : World} {sp : Nat → Bool} {held : Bool} {fuel : Nat}
theorem Dm{v:Value}{x:DataW H×List MemPlace}(h:DataW.trod enc Tryz.prog W 0 sp held fuel 22 [v]=some x) :
  ∃ a n c L,v = .slice a n c∧TextsAt W a n L∧SlOk a n c∧(n=0∨∃ elems spare,x.1 = .slice elems spare∧elems.length=n):=by
 rcases Deep.open_strs Tryz.underlying22 Tryz.underlying9 Tryz.cells9 h with ⟨hcs,_⟩|⟨b,l,c,m,Sx,hcs,_,hl,hm,hmm,hx,hel⟩
 ·simp at hcs
  subst hcs
  exact⟨none,0,0,[],rfl,TextsAt.nil _ _,SlOk.nil,Or.inl rfl⟩
 ·simp at hcs
  subst hcs
  have hlm:l≤m:=by rw[hmm];split <;> omega
  refine⟨some b,l,c,(List.range l).map Sx,rfl,⟨by simp,fun hpos=>?_⟩,⟨hl,hm,fun h=>by cases h⟩,Or.inr ⟨_,_,by rw[hx],by simp⟩⟩
  obtain⟨bb,off,spot⟩:=b
  have z0:=(hel 0 (by omega)).1
  have hspot:spot=none:=by simpa[Addr.add] using World.cell?_spot z0
  subst hspot
  have hadd:∀ j,(⟨bb,off,none⟩:Addr).add j=⟨bb,off+j,none⟩:=fun j=>by unfold Addr.add;split <;> simp_all
  refine⟨bb,off,rfl,fun i hi=>?_⟩
  have hi':i<l:=by simpa using hi
  have q:=(hel i (by omega)).1
  rw[hadd] at q
  rw[List.getElem_map,List.getElem_range]
  exact q
theorem book_full{cs:List Value}{x:DataW H×List MemPlace}(h:DataW.trod enc Tryz.prog W 0 sp held fuel 24 cs=some x):∃ a n c L,cs=[.slice a n c]∧TextsAt W a n L∧SlOk a n c:=by
 obtain⟨y0,k,_,hl,h0⟩:=trod_struct1 Tryz.underlying24 h
 rw[Tryz.cellsBook] at hl
 obtain⟨c0,rfl⟩:=List.length_eq_one_iff.1 hl
 simp[Tryz.cellsStrs] at h0
 obtain⟨a,n,c,L,rfl,hT,hS,_⟩:=Dm h0
 exact⟨a,n,c,L,rfl,hT,hS⟩
end
end Go.Proofs.YtmomfkikogbdeaaGreatDoor.Bk
namespace Go.Proofs.YtmomfkikogbdeaaGreatDoor
open Go.ChangeShapes Go.WideShapes Go.ChangeAt Go.RowKit
theorem Tryz.cellsBlk:Tryz.prog.cellsOf 39=5:=by kernel_rfl
theorem Tryz.cellsTxs:Tryz.prog.cellsOf 37=1:=by kernel_rfl
theorem list_five{cs:List Value}(h:cs.length=5):∃ a b c d e,cs=[a,b,c,d,e]:=by
 match cs,h with
 | [a,b,c,d,e],_=>exact⟨a,b,c,d,e,rfl⟩
section
variable {H : Type} {enc : TypeId × Value → H} {W : World} {sp : Nat → Bool} {held : Bool} {fuel : Nat}
theorem trod_struct5{t:TypeId}{f0 f1 f2 f3 f4:Field}{cs:List Value}{x:DataW H×List MemPlace}(ht:Tryz.prog.underlying t=some (.struct #[f0,f1,f2,f3,f4]))(h:DataW.trod enc Tryz.prog W 0 sp held fuel t cs=some x) :
  ∃ y0 y1 y2 y3 y4 n,cs.length=Tryz.prog.cellsOf t∧DataW.trod enc Tryz.prog W 0 sp held n f0.type ((cs.drop f0.offset).take (Tryz.prog.cellsOf f0.type))=some y0 ∧
   DataW.trod enc Tryz.prog W 0 sp held n f1.type ((cs.drop f1.offset).take (Tryz.prog.cellsOf f1.type))=some y1∧DataW.trod enc Tryz.prog W 0 sp held n f2.type ((cs.drop f2.offset).take (Tryz.prog.cellsOf f2.type))=some y2 ∧
   DataW.trod enc Tryz.prog W 0 sp held n f3.type ((cs.drop f3.offset).take (Tryz.prog.cellsOf f3.type))=some y3∧DataW.trod enc Tryz.prog W 0 sp held n f4.type ((cs.drop f4.offset).take (Tryz.prog.cellsOf f4.type))=some y4:=by
 obtain⟨xs,n,_,rfl,hl,hlen,hf⟩:=DataW.trod_struct ht h
 match xs,hlen with
 | [y0,y1,y2,y3,y4],_=>exact⟨y0,y1,y2,y3,y4,n,hl,by simpa using hf 0 f0 rfl,by simpa using hf 1 f1 rfl,by simpa using hf 2 f2 rfl,by simpa using hf 3 f3 rfl,by simpa using hf 4 f4 rfl⟩
end
set_option maxRecDepth 100000 in
theorem Gs{H:Type}{enc:TypeId×Value→H}{os:Os}{f:FuncId}{fn:Func}{s:ChangeSpec}{X:World→Prop}(hX:∀ w w':World,w.heap=w'.heap→X w→X w')
  (started:os.Started) (noInit:Tryz.checked.prog.inits.idxOf? f=none) (hfn:Tryz.checked.prog.funcs[f]? = some fn)
  (witness:∃ (w:World) (tape:Tape) (i:Input),w.os=os∧(w.forCall tape i).Shaped Tryz.checked.prog∧i.vars=[]∧Input.okWide Tryz.checked.prog (w.forCall tape i) .any w.heap.size f i ∧
   ((s.pre enc Tryz.checked.prog fn [] false (w.forCall tape i).memory i.args∧X (w.forCall tape i).memory)∧sizedMet enc Tryz.checked.prog fn (OpenSpec.ofChange s) false (w.forCall tape i).memory i.args)∧({}:Assume).holds Tryz.checked.prog (lone (Frame.enter Tryz.checked.prog f i.args .normal) [] (w.forCall tape i)))
  (contract:∀ (W:World) (base:Nat) (args:Array Value) (ds gs:List (DataW H)) (before:List MemPlace),
   (∀ (j:Nat) t v,fn.params[j]? = some t→args[j]? = some v→Value.okWide Tryz.checked.prog W .any base t v) →
   DataW.Whole enc Tryz.checked.prog fn.params.toList s.vars false W args.toList ds gs before→X W→(DataW.weightsEach Tryz.checked.prog (fn.params.toList++s.plain.varTypes Tryz.checked.prog) (ds++gs)).all (·≤reachBytes)=true →
   Calls Tryz.checked.prog f args W fun e W'=>∃ v,e = .returned v∧s.post enc Tryz.checked.prog fn false true false false W args v W') :
  ReturnsInHanded {} Tryz.checked os f .any (fun w args=>(s.pre enc Tryz.checked.prog fn [] false w args∧X w)∧sizedMet enc Tryz.checked.prog fn (OpenSpec.ofChange s) false w args) (s.post enc Tryz.checked.prog fn false true false false):=by
 refine returnsInHanded_of_calls own started noInit witness ?_
 intro w tape i _ _ _ hok hpre _
 obtain⟨_,_,_,fn',hfn',_,_,_,_,hval⟩:=hok
 obtain rfl:fn'=fn:=Option.some.inj (hfn'.symm.trans hfn)
 obtain⟨⟨⟨ds,gs,before,hw,_⟩,hx⟩,hz⟩:=hpre
 refine (contract (w.forCall tape i) w.heap.size i.args ds gs before hval (DataW.Whole.of_heap (w':=w.forCall tape i) (by rfl) hw) (hX _ _ (by rfl) hx) (hz.weights hw)).mono fun e W' ⟨v,he,hp⟩=>?_
 subst he
 exact ChangeSpec.post_blind hp
end Go.Proofs.YtmomfkikogbdeaaGreatDoor
namespace Go.Proofs.YtmomfkikogbdeaaGreatDoor.Lf
open Go.ChangeShapes Go.WideShapes Go.ChangeAt Go.RowKit
theorem own:ownKnob Tryz.prog.godebug=none:=by kernel_rfl
theorem laidOut:laidOutB Tryz.prog=true:=by kernel_rfl
theorem Gd{H:Type}{enc:TypeId×Value→H}{w:World}{base:Nat}{sp:Nat→Bool}{held:Bool}{fuel:Nat}{t:TypeId}{n:Nat}{cs:List Value}{ss:List (List UInt8)}{p:List MemPlace}
  (ht:Tryz.prog.underlying t=some (.array n 9)) (hct:Tryz.prog.cellsOf t=n) (h9:Tryz.prog.cellsOf 9=1)
  (h:DataW.trod enc Tryz.prog w base sp held fuel t cs=some (.agg (ss.map fun b=>.lit (.string b)),p)):cs=ss.map fun b=>Value.string ⟨b.toArray⟩:=by
 obtain⟨xs,m,rfl,hx,hl,hn,hel⟩:=DataW.trod_array ht h
 rw[hct] at hl
 simp only[Prod.mk.injEq,DataW.agg.injEq] at hx
 have hsl:ss.length=n:=by
  have:=congrArg List.length hx.1
  simp at this
  omega
 apply List.ext_getElem?
 intro i
 by_cases hi:i<n
 ·have hi':=hel i hi
  rw[h9,Nat.mul_one] at hi'
  have hxi:i<xs.length:=by omega
  rw[List.getElem?_eq_getElem hxi] at hi'
  obtain⟨s,hc,hy,_⟩:=DataW.trod_string Tryz.underlying9 hi'
  have h1:cs[i]? = some (.string s):=by
   have:=congrArg (·[0]?) hc
   simpa[List.getElem?_take,List.getElem?_drop] using this
  have h2:(xs.map (·.1))[i]? = some (.lit (.string s.data.toList)):=by
   rw[List.getElem?_map,List.getElem?_eq_getElem hxi,hy];rfl
  rw[←hx.1] at h2
  have hsi:i<ss.length:=by omega
  simp only[List.getElem?_map,List.getElem?_eq_getElem hsi,Option.map_some,Option.some.injEq,DataW.lit.injEq,Lit.string.injEq] at h2
  rw[h1,List.getElem?_map,List.getElem?_eq_getElem hsi,h2]
  rfl
 ·rw[List.getElem?_eq_none (by omega),List.getElem?_eq_none (by simp;omega)]
def namesBytes:List (List UInt8):=namesL.map (·.data.toList)
theorem Tryz.tNam:(Tryz.prog.globals[1]?).map (·.type)=some 378:=by kernel_rfl
theorem Tryz.tTab:(Tryz.prog.globals[2]?).map (·.type)=some 381:=by kernel_rfl
theorem Tryz.cellsNam:Tryz.prog.cellsOf 378=14:=by kernel_rfl
theorem Tryz.cellsTab:Tryz.prog.cellsOf 381=20:=by kernel_rfl
theorem Tryz.cells9:Tryz.prog.cellsOf 9=1:=by kernel_rfl
theorem Tryz.cellsU64:Tryz.prog.cellsOf 284=1:=by kernel_rfl
theorem names_of_laid{H:Type}{enc:TypeId×Value→H}{w:World}{base:Nat}{sp:Nat→Bool}{held:Bool}{fuel:Nat}{cs:Array Value}{p:List MemPlace}(hv:w.var? Tryz.prog "cairn/lock.names" = some cs)
  (h:DataW.trod enc Tryz.prog w base sp held fuel 378 cs.toList=some (Rows.laid_cairn_lock_names,p)):w.var? Tryz.prog "cairn/lock.names" = some Mh:=by
 have e:=Gd (ss:=namesBytes) Tryz.underlying378 Tryz.cellsNam Tryz.cells9 h
 rw[hv]
 congr 1
 obtain⟨l⟩:=cs
 have e':l=namesBytes.map fun b=>Value.string ⟨b.toArray⟩:=e
 rw[e']
 rfl
theorem tab_of_laid{H:Type}{enc:TypeId×Value→H}{w:World}{base:Nat}{sp:Nat→Bool}{held:Bool}{fuel:Nat}{cs:Array Value}{p:List MemPlace}(hv:w.var? Tryz.prog "internal/strconv.uint64pow10" = some cs)
  (h:DataW.trod enc Tryz.prog w base sp held fuel 381 cs.toList=some (Rows.laid_internal_strconv_uint64pow10,p)):Lib.TabIs Tryz.prog w "internal/strconv.uint64pow10" .u64 Lib.pow10Tab:=by
 have e:=Lib.cells_of_tab (zs:=Lib.pow10Tab) Tryz.underlying381 Tryz.underlying284 Tryz.cellsU64 Tryz.cellsTab h
 unfold Lib.TabIs
 rw[hv]
 congr 1
 obtain⟨l⟩:=cs
 have e':l=Lib.pow10Tab.map fun z=>Value.int .u64 z:=e
 rw[e']
theorem Tryz.cellsOp:Tryz.prog.cellsOf 164=2:=by kernel_rfl
theorem Tryz.cells3:Tryz.prog.cellsOf 3=1:=by kernel_rfl
theorem ops_open{H:Type}{enc:TypeId×Value→H}{W:World}{sp:Nat→Bool}{held:Bool}{fuel:Nat}{a:Option Addr}{len cap:Nat}{x:DataW H×List MemPlace}
  (h:DataW.trod enc Tryz.prog W 0 sp held fuel 48 [.slice a len cap]=some x):(∃ l,OpsAt W a len l)∧(a=none→len=0∧cap=0):=by
 rcases Deep.open_slice_pairs Tryz.underlying48 Tryz.underlying164 Tryz.cellsOp rfl rfl Tryz.cells3 Tryz.cells3 h with ⟨hcs,_⟩|⟨b,l,c,m,n,V0,V1,D0,D1,P0,P1,hcs,_,hl,_,hm,_,hel⟩
 ·simp at hcs
  obtain⟨rfl,rfl,rfl⟩:=hcs
  exact⟨⟨[],rfl,fun h=>absurd h (by omega)⟩,fun _=>⟨rfl,rfl⟩⟩
 ·simp at hcs
  obtain⟨rfl,rfl,rfl⟩:=hcs
  refine⟨?_,fun h=>by cases h⟩
  have hlm:len≤m:=by rw[hm];split <;> omega
  have each:∀ i,i<len→∃ q:Int×Int,W.cell? (b.add (i*2))=some (.int .i64 q.1)∧W.cell? (b.add (i*2+1))=some (.int .i64 q.2):=fun i hi=>by
   obtain⟨h1,h2,t1,t2⟩:=hel i (by omega)
   obtain⟨z1,e1,_,_⟩:=DataW.trod_int Tryz.underlying3 t1
   obtain⟨z2,e2,_,_⟩:=DataW.trod_int Tryz.underlying3 t2
   simp only[List.cons.injEq,and_true] at e1 e2
   exact⟨(z1,z2),by rw[h1,e1],by rw[h2,e2]⟩
  obtain⟨f,hf⟩:=Deep.choose_lt each
  refine⟨(List.range len).map f,by simp,fun hpos=>?_⟩
  obtain⟨bb,off,spot⟩:=b
  have hspot:spot=none:=by simpa[Addr.add] using World.cell?_spot (hf 0 hpos).1
  subst hspot
  refine⟨bb,off,rfl,fun i hi=>?_⟩
  have hadd:∀ j,(⟨bb,off,none⟩:Addr).add j=⟨bb,off+j,none⟩:=fun j=>by unfold Addr.add;split <;> simp_all
  have h1:=hf i hi
  rw[hadd,hadd] at h1
  rw[←Nat.add_assoc] at h1
  simpa[hi] using h1
end Go.Proofs.YtmomfkikogbdeaaGreatDoor.Lf
namespace Go.Proofs.YtmomfkikogbdeaaGreatDoor.Tr
open Go.ChangeShapes Go.WideShapes Go.ChangeAt Go.RowKit
theorem own:ownKnob Tryz.prog.godebug=none:=by kernel_rfl
theorem laidOut:laidOutB Tryz.prog=true:=by kernel_rfl
theorem Tryz.cellsOp:Tryz.prog.cellsOf 164=2:=by kernel_rfl
theorem Tryz.cells3:Tryz.prog.cellsOf 3=1:=by kernel_rfl
theorem ops_open{H:Type}{enc:TypeId×Value→H}{W:World}{sp:Nat→Bool}{held:Bool}{fuel:Nat}{a:Option Addr}{len cap:Nat}{x:DataW H×List MemPlace}
  (h:DataW.trod enc Tryz.prog W 0 sp held fuel 48 [.slice a len cap]=some x):(∃ l,OpsAt W a len l)∧(a=none→len=0∧cap=0):=by
 rcases Deep.open_slice_pairs Tryz.underlying48 Tryz.underlying164 Tryz.cellsOp rfl rfl Tryz.cells3 Tryz.cells3 h with ⟨hcs,_⟩|⟨b,l,c,m,n,V0,V1,D0,D1,P0,P1,hcs,_,hl,_,hm,_,hel⟩
 ·simp at hcs
  obtain⟨rfl,rfl,rfl⟩:=hcs
  exact⟨⟨[],rfl,fun h=>absurd h (by omega)⟩,fun _=>⟨rfl,rfl⟩⟩
 ·simp at hcs
  obtain⟨rfl,rfl,rfl⟩:=hcs
  refine⟨?_,fun h=>by cases h⟩
  have hlm:len≤m:=by rw[hm];split <;> omega
  have each:∀ i,i<len→∃ q:Int×Int,W.cell? (b.add (i*2))=some (.int .i64 q.1)∧W.cell? (b.add (i*2+1))=some (.int .i64 q.2):=fun i hi=>by
   obtain⟨h1,h2,t1,t2⟩:=hel i (by omega)
   obtain⟨z1,e1,_,_⟩:=DataW.trod_int Tryz.underlying3 t1
   obtain⟨z2,e2,_,_⟩:=DataW.trod_int Tryz.underlying3 t2
   simp only[List.cons.injEq,and_true] at e1 e2
   exact⟨(z1,z2),by rw[h1,e1],by rw[h2,e2]⟩
  obtain⟨f,hf⟩:=Deep.choose_lt each
  refine⟨(List.range len).map f,by simp,fun hpos=>?_⟩
  obtain⟨bb,off,spot⟩:=b
  have hspot:spot=none:=by simpa[Addr.add] using World.cell?_spot (hf 0 hpos).1
  subst hspot
  refine⟨bb,off,rfl,fun i hi=>?_⟩
  have hadd:∀ j,(⟨bb,off,none⟩:Addr).add j=⟨bb,off+j,none⟩:=fun j=>by unfold Addr.add;split <;> simp_all
  have h1:=hf i hi
  rw[hadd,hadd] at h1
  rw[←Nat.add_assoc] at h1
  simpa[hi] using h1
theorem Tryz.cellsTx:Tryz.prog.cellsOf 59=3:=by kernel_rfl
theorem Tryz.cellsIn:Tryz.prog.cellsOf 119=3:=by kernel_rfl
theorem Tryz.cellsOut:Tryz.prog.cellsOf 122=2:=by kernel_rfl
theorem Tryz.cellsPoint:Tryz.prog.cellsOf 117=2:=by kernel_rfl
theorem Tryz.cellsOps:Tryz.prog.cellsOf 48=1:=by kernel_rfl
theorem Tryz.cellsIns:Tryz.prog.cellsOf 56=1:=by kernel_rfl
theorem Tryz.cellsOuts:Tryz.prog.cellsOf 57=1:=by kernel_rfl
theorem list_two{cs:List Value}(h:cs.length=2):∃ a b,cs=[a,b]:=by
 match cs,h with
 | [a,b],_=>exact⟨a,b,rfl⟩
theorem list_three{cs:List Value}(h:cs.length=3):∃ a b c,cs=[a,b,c]:=by
 match cs,h with
 | [a,b,c],_=>exact⟨a,b,c,rfl⟩
theorem Tryz.cellsBlk:Tryz.prog.cellsOf 39=5:=by kernel_rfl
theorem Tryz.cellsTree:Tryz.prog.cellsOf 28=2:=by kernel_rfl
theorem Tryz.cellsTxs:Tryz.prog.cellsOf 37=1:=by kernel_rfl
theorem Tryz.cellsBlks:Tryz.prog.cellsOf 26=1:=by kernel_rfl
theorem Tryz.cellsInts:Tryz.prog.cellsOf 25=1:=by kernel_rfl
theorem list_five{cs:List Value}(h:cs.length=5):∃ a b c d e,cs=[a,b,c,d,e]:=by
 match cs,h with
 | [a,b,c,d,e],_=>exact⟨a,b,c,d,e,rfl⟩
section
variable {H : Type} {enc : TypeId × Value → H} {W : World} {sp : Nat → Bool} {held : Bool} {fuel : Nat}
theorem ops_full{v:Value}{x:DataW H×List MemPlace}(h:DataW.trod enc Tryz.prog W 0 sp held fuel 48 [v]=some x):∃ a n c l,v = .slice a n c∧OpsAt W a n l∧SlOk a n c:=by
 have h':=h
 rcases Deep.open_slice Tryz.underlying48 h with ⟨hcs,_⟩|⟨b,l,c,m,n,D,Pl,hcs,_,hl,hm,_⟩
 ·simp at hcs
  subst hcs
  exact⟨none,0,0,[],rfl,⟨rfl,fun h=>absurd h (by omega)⟩,Nat.le_refl _,Nat.zero_le _,fun _=>⟨rfl,rfl⟩⟩
 ·simp at hcs
  subst hcs
  obtain⟨⟨L,hO⟩,_⟩:=ops_open h'
  exact⟨some b,l,c,L,rfl,hO,hl,hm,fun h=>by cases h⟩
theorem in_full{cs:List Value}{x:DataW H×List MemPlace}(h:DataW.trod enc Tryz.prog W 0 sp held fuel 119 cs=some x):∃ x1 x2 a n c l,cs=[.int .i64 x1,.int .i64 x2,.slice a n c]∧OpsAt W a n l∧SlOk a n c:=by
 obtain⟨y0,y1,k,_,hl,h0,h1⟩:=trod_struct2 Tryz.underlying119 h
 rw[Tryz.cellsIn] at hl
 obtain⟨c0,c1,c2,rfl⟩:=list_three hl
 simp[Tryz.cellsPoint,Tryz.cellsOps] at h0 h1
 obtain⟨z0,z1,k2,_,_,g0,g1⟩:=trod_struct2 Tryz.underlying117 h0
 simp[Tryz.cells3] at g0 g1
 obtain⟨x1,e1,_,_⟩:=DataW.trod_int Tryz.underlying3 g0
 obtain⟨x2,e2,_,_⟩:=DataW.trod_int Tryz.underlying3 g1
 obtain⟨a,n,c,l,rfl,hO,hS⟩:=ops_full h1
 simp only[List.cons.injEq,and_true] at e1 e2
 subst e1 e2
 exact⟨x1,x2,a,n,c,l,rfl,hO,hS⟩
theorem out_full{cs:List Value}{x:DataW H×List MemPlace}(h:DataW.trod enc Tryz.prog W 0 sp held fuel 122 cs=some x):∃ x1 a n c l,cs=[.int .i64 x1,.slice a n c]∧OpsAt W a n l∧SlOk a n c:=by
 obtain⟨y0,y1,k,_,hl,h0,h1⟩:=trod_struct2 Tryz.underlying122 h
 rw[Tryz.cellsOut] at hl
 obtain⟨c0,c1,rfl⟩:=list_two hl
 simp[Tryz.cells3,Tryz.cellsOps] at h0 h1
 obtain⟨x1,e1,_,_⟩:=DataW.trod_int Tryz.underlying3 h0
 obtain⟨a,n,c,l,rfl,hO,hS⟩:=ops_full h1
 simp only[List.cons.injEq,and_true] at e1
 subst e1
 exact⟨x1,a,n,c,l,rfl,hO,hS⟩
theorem Um{α : Type}[Inhabited α](Z:Rec α){ts t:TypeId}(hu:Tryz.prog.underlying ts=some (.slice t))(hc:Tryz.prog.cellsOf t=Z.sz)(hpos:0<Z.sz)
  (hel:∀ (fuel:Nat) (cs:List Value) (x:DataW H×List MemPlace),DataW.trod enc Tryz.prog W 0 sp held fuel t cs=some x→∃ y,Z.C W cs y)
  {v:Value} {x:DataW H×List MemPlace} (h:DataW.trod enc Tryz.prog W 0 sp held fuel ts [v]=some x):∃ a n c l,v = .slice a n c∧RowsAt Z.R Z.sz W a n l∧SlOk a n c:=by
 rcases Deep.open_slice hu h with ⟨hcs,_⟩|⟨b,l,c,m,n,D,Pl,hcs,_,hl,hm,hmm,_,hee⟩
 ·simp at hcs
  subst hcs
  exact⟨none,0,0,[],rfl,RowsAt.nil _ _,Nat.le_refl _,Nat.zero_le _,fun _=>⟨rfl,rfl⟩⟩
 ·simp at hcs
  subst hcs
  have hlm:l≤m:=by rw[hmm];split <;> omega
  have each:∀ i,i<l→∃ q : α,∃ cs,(∀ j,j<Z.sz→W.cell? (b.add (i*Z.sz+j))=cs[j]?)∧Z.C W cs q:=fun i hi=>by
   obtain⟨cs',h1,h2⟩:=hee i (by omega)
   rw[hc] at h1
   obtain⟨_,_,hcell⟩:=World.cells?_some h1
   obtain⟨y,hy⟩:=hel _ _ _ h2
   exact⟨y,cs',fun j hj=>by rw[←hcell j hj,Deep.add_add],hy⟩
  obtain⟨f,hf⟩:=Deep.choose_lt each
  refine⟨some b,l,c,(List.range l).map f,rfl,⟨by simp,fun hpos2=>?_⟩,hl,hm,fun h=>by cases h⟩
  obtain⟨bb,off,spot⟩:=b
  have hadd:∀ j,(⟨bb,off,none⟩:Addr).add j=⟨bb,off+j,none⟩:=fun j=>by unfold Addr.add;split <;> simp_all
  obtain⟨cs0,hc0,hC0⟩:=hf 0 hpos2
  have hw0:=Z.wide _ _ _ hC0
  have z0:=hc0 0 hpos
  have e0:cs0[0]? = some (cs0[0]'(by omega)):=by simp[hw0,hpos]
  rw[e0] at z0
  have hspot:spot=none:=by simpa[Addr.add] using World.cell?_spot z0
  subst hspot
  refine⟨bb,off,rfl,by rw[hadd] at z0;exact World.block_lt_of_cell? _ _ z0,fun i hi=>?_⟩
  have hi':i<l:=by simpa using hi
  obtain⟨cs,hcs,hC⟩:=hf i hi'
  rw[List.getElem_map,List.getElem_range]
  refine Z.cr _ _ _ cs _ (fun j u hj=>?_) hC
  have hjl:j<Z.sz:=by rw[←Z.wide _ _ _ hC];exact (List.getElem?_eq_some_iff.1 hj).1
  have:=hcs j hjl
  rw[hadd,←Nat.add_assoc,hj] at this
  exact this
theorem C8{cs:List Value}{x:DataW H×List MemPlace}(h:DataW.trod enc Tryz.prog W 0 sp held fuel 59 cs=some x):∃ y,txR.C W cs y:=by
 obtain⟨y0,y1,y2,k,_,hl,h0,h1,h2⟩:=Deep.trod_struct3 Tryz.underlying59 h
 rw[Tryz.cellsTx] at hl
 obtain⟨c0,c1,c2,rfl⟩:=list_three hl
 simp[Tryz.cells3,Tryz.cellsIns,Tryz.cellsOuts] at h0 h1 h2
 obtain⟨hh,e0,_,_⟩:=DataW.trod_int Tryz.underlying3 h0
 obtain⟨ai,ni,ci,I,rfl,hI,sI⟩:=Um inR Tryz.underlying56 Tryz.cellsIn (by decide) (fun _ _ _ q=>by
  obtain⟨x1,x2,a,n,c,l,rfl,hO,hS⟩:=in_full q
  exact⟨(x1,x2,l),a,n,c,rfl,hO,hS⟩) h1
 obtain⟨ao,no,co,O,rfl,hO,sO⟩:=Um outR Tryz.underlying57 Tryz.cellsOut (by decide) (fun _ _ _ q=>by
  obtain⟨x1,a,n,c,l,rfl,hO,hS⟩:=out_full q
  exact⟨(x1,l),a,n,c,rfl,hO,hS⟩) h2
 simp only[List.cons.injEq,and_true] at e0
 subst e0
 exact⟨(hh,I,O),ai,ni,ci,ao,no,co,rfl,hI,sI,hO,sO⟩
theorem trod_struct5{t:TypeId}{f0 f1 f2 f3 f4:Field}{cs:List Value}{x:DataW H×List MemPlace}(ht:Tryz.prog.underlying t=some (.struct #[f0,f1,f2,f3,f4]))(h:DataW.trod enc Tryz.prog W 0 sp held fuel t cs=some x) :
  ∃ y0 y1 y2 y3 y4 n,cs.length=Tryz.prog.cellsOf t∧DataW.trod enc Tryz.prog W 0 sp held n f0.type ((cs.drop f0.offset).take (Tryz.prog.cellsOf f0.type))=some y0 ∧
   DataW.trod enc Tryz.prog W 0 sp held n f1.type ((cs.drop f1.offset).take (Tryz.prog.cellsOf f1.type))=some y1∧DataW.trod enc Tryz.prog W 0 sp held n f2.type ((cs.drop f2.offset).take (Tryz.prog.cellsOf f2.type))=some y2 ∧
   DataW.trod enc Tryz.prog W 0 sp held n f3.type ((cs.drop f3.offset).take (Tryz.prog.cellsOf f3.type))=some y3∧DataW.trod enc Tryz.prog W 0 sp held n f4.type ((cs.drop f4.offset).take (Tryz.prog.cellsOf f4.type))=some y4:=by
 obtain⟨xs,n,_,rfl,hl,hlen,hf⟩:=DataW.trod_struct ht h
 match xs,hlen with
 | [y0,y1,y2,y3,y4],_=>exact⟨y0,y1,y2,y3,y4,n,hl,by simpa using hf 0 f0 rfl,by simpa using hf 1 f1 rfl,by simpa using hf 2 f2 rfl,by simpa using hf 3 f3 rfl,by simpa using hf 4 f4 rfl⟩
theorem Co{cs:List Value}{x:DataW H×List MemPlace}(h:DataW.trod enc Tryz.prog W 0 sp held fuel 39 cs=some x):∃ y,blkR.C W cs y:=by
 obtain⟨y0,y1,y2,y3,y4,k,hl,h0,h1,h2,h3,h4⟩:=trod_struct5 Tryz.underlying39 h
 rw[Tryz.cellsBlk] at hl
 obtain⟨c0,c1,c2,c3,c4,rfl⟩:=list_five hl
 simp[Tryz.cells3,Tryz.cellsTxs] at h0 h1 h2 h3 h4
 obtain⟨x0,e0,_,_⟩:=DataW.trod_int Tryz.underlying3 h0
 obtain⟨x1,e1,_,_⟩:=DataW.trod_int Tryz.underlying3 h1
 obtain⟨x2,e2,_,_⟩:=DataW.trod_int Tryz.underlying3 h2
 obtain⟨x3,e3,_,_⟩:=DataW.trod_int Tryz.underlying3 h3
 obtain⟨a,n,c,T,rfl,hT,sT⟩:=Um txR Tryz.underlying37 Tryz.cellsTx (by decide) (fun _ _ _ q=>C8 q) h4
 simp only[List.cons.injEq,and_true] at e0 e1 e2 e3
 subst e0 e1 e2 e3
 exact⟨(x0,x1,x2,x3,T),a,n,c,rfl,hT,sT⟩
theorem Fj{v:Value}{x:DataW H×List MemPlace}(h:DataW.trod enc Tryz.prog W 0 sp held fuel 25 [v]=some x):∃ a n c l,v = .slice a n c∧IntsAt W a n l∧SlOk a n c:=by
 rcases open_ints Tryz.underlying25 Tryz.underlying3 (by kernel_rfl) h with ⟨hcs,_⟩|⟨b,l,c,zs,hcs,_,hl,hm,hz,_,hcell,_⟩
 ·simp at hcs
  subst hcs
  exact⟨none,0,0,[],rfl,IntsAt.nil _ _,Nat.le_refl _,Nat.zero_le _,fun _=>⟨rfl,rfl⟩⟩
 ·simp at hcs
  subst hcs
  have hlz:l≤zs.length:=by rw[hz];split <;> omega
  refine⟨some b,l,c,zs.take l,rfl,⟨by rw[List.length_take];omega,fun hpos=>?_⟩,hl,hm,fun h=>by cases h⟩
  obtain⟨bb,off,spot⟩:=b
  have z0:=hcell 0 (by omega)
  have hspot:spot=none:=by simpa[Addr.add] using World.cell?_spot z0
  subst hspot
  have hadd:∀ j,(⟨bb,off,none⟩:Addr).add j=⟨bb,off+j,none⟩:=fun j=>by unfold Addr.add;split <;> simp_all
  refine⟨bb,off,rfl,by rw[hadd] at z0;exact World.block_lt_of_cell? _ _ z0,fun i hi=>?_⟩
  rw[List.length_take] at hi
  have:=hcell i (by omega)
  rw[hadd] at this
  rw[this,List.getElem_take]
  simp[List.getD,(by omega:i<zs.length)]
theorem tree_full{cs:List Value}{x:DataW H×List MemPlace}(h:DataW.trod enc Tryz.prog W 0 sp held fuel 28 cs=some x):∃ a n c b m d N T,cs=[.slice a n c,.slice b m d]∧IntsAt W a n N∧SlOk a n c∧BlksAt W b m T∧SlOk b m d:=by
 obtain⟨y0,y1,k,_,hl,h0,h1⟩:=trod_struct2 Tryz.underlying28 h
 rw[Tryz.cellsTree] at hl
 obtain⟨c0,c1,rfl⟩:=list_two hl
 simp[Tryz.cellsInts,Tryz.cellsBlks] at h0 h1
 obtain⟨a,n,c,N,rfl,hN,sN⟩:=Fj h0
 obtain⟨b,m,d,T,rfl,hT,sT⟩:=Um blkR Tryz.underlying26 Tryz.cellsBlk (by decide) (fun _ _ _ q=>Co q) h1
 exact⟨a,n,c,b,m,d,N,T,rfl,hN,sN,hT,sT⟩
end
end Go.Proofs.YtmomfkikogbdeaaGreatDoor.Tr
namespace Go.Proofs.YtmomfkikogbdeaaGreatDoor
open Go.ChangeShapes Go.WideShapes Go.ChangeAt Go.RowKit
theorem Tryz.bytesOp:Tryz.prog.bytesOf 164=16:=by kernel_rfl
theorem Dz{H:Type}{enc:TypeId×Value→H}{W:World}{sp:Nat→Bool}{held:Bool}{fuel:Nat}{v:Value}{x:DataW H×List MemPlace}(h:DataW.trod enc Tryz.prog W 0 sp held fuel 48 [v]=some x) :
  ∃ a n c l,v = .slice a n c∧OpsAt W a n l∧SlOk a n c∧(n=0∨∃ elems spare,x.1 = .slice elems spare∧elems.length=n):=by
 obtain⟨a,n,c,l,hv,hO,hs⟩:=Tr.ops_full h
 refine⟨a,n,c,l,hv,hO,hs,?_⟩
 rcases Deep.open_slice Tryz.underlying48 h with ⟨hcs,_⟩|⟨b,l,c,m,k,D,Pl,hcs,_,hl,hm,_,hx,_⟩
 ·simp at hcs
  rw[hv] at hcs
  injection hcs with _ e _
  exact .inl e
 ·simp at hcs
  rw[hv] at hcs
  injection hcs with _ e _
  subst e
  exact .inr ⟨_,_,by rw[hx],by simp⟩
end Go.Proofs.YtmomfkikogbdeaaGreatDoor
