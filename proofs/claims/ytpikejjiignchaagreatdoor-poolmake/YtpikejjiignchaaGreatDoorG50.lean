import Derived.Deep.SlicePairs
import Derived.HandedShaped
import Derived.LaidMore
import Derived.Stop.Joined
import Derived.LaidOnce
import Derived.Test.YtpikejjiignchaaGreatDoorG37
namespace Go.Proofs.YtpikejjiignchaaGreatDoor
open Go.ChangeShapes Go.WideShapes Go.ChangeAt Go.RowKit
theorem own:ownKnob Tryz.prog.godebug=none:=by kernel_rfl
theorem Qj:laidOutB Tryz.prog=true:=by kernel_rfl
theorem Tryz.cellsCoin:Tryz.prog.cellsOf 103=6:=by kernel_rfl
theorem Tryz.cells4:Tryz.prog.cellsOf 4=1:=by kernel_rfl
theorem Zdc{cs:List Value}(h:cs.length=6):∃ a b c d e f,cs=[a,b,c,d,e,f]:=by
 match cs,h with
 | [a,b,c,d,e,f],_=>exact⟨a,b,c,d,e,f,rfl⟩
theorem Tryz.cellsOp:Tryz.prog.cellsOf 122=2:=by kernel_rfl
theorem Tryz.cells3:Tryz.prog.cellsOf 3=1:=by kernel_rfl
theorem Td{H:Type}{enc:TypeId×Value→H}{W:World}{sp:Nat→Bool}{held:Bool}{fuel:Nat}{a:Option Addr}{len cap:Nat}{x:DataW H×List MemPlace}
  (h:DataW.trod enc Tryz.prog W 0 sp held fuel 66 [.slice a len cap]=some x):(∃ l,OpsAt W a len l)∧(a=none→len=0∧cap=0):=by
 rcases Deep.open_slice_pairs Tryz.underlying66 Tryz.underlying122 Tryz.cellsOp rfl rfl Tryz.cells3 Tryz.cells3 h with ⟨hcs,_⟩|⟨b,l,c,m,n,V0,V1,D0,D1,P0,P1,hcs,_,hl,_,hm,_,hel⟩
 ·simp at hcs
  obtain⟨rfl,rfl,rfl⟩:=hcs
  exact⟨⟨[],rfl,fun h=>absurd h (by omega)⟩,fun _=>⟨rfl,rfl⟩⟩
 ·simp at hcs
  obtain⟨rfl,rfl,rfl⟩:=hcs
  refine⟨?_,fun h=>by cases h⟩
  have hlm:len≤m:=by rw[hm];split <;> omega
  have each:∀ i,i<len→∃ q:Int×Int,W.cell? (b.add (i*2))=some (.int .i64 q.1)∧W.cell? (b.add (i*2+1))=some (.int .i64 q.2):=fun i hi=>by
   obtain⟨h1,h2,t1,t2⟩:=hel i (by omega)
   obtain⟨z1,e1,_,_⟩:=DataW.trod_int Tryz.underlying3 t1
   obtain⟨z2,e2,_,_⟩:=DataW.trod_int Tryz.underlying3 t2
   simp only[List.cons.injEq,and_true] at e1 e2
   exact⟨(z1,z2),by rw[h1,e1],by rw[h2,e2]⟩
  obtain⟨f,hf⟩:=Deep.choose_lt each
  refine⟨(List.range len).map f,by simp,fun hpos=>?_⟩
  obtain⟨bb,off,spot⟩:=b
  have hspot:spot=none:=by simpa[Addr.add] using World.cell?_spot (hf 0 hpos).1
  subst hspot
  refine⟨bb,off,rfl,fun i hi=>?_⟩
  have hadd:∀ j,(⟨bb,off,none⟩:Addr).add j=⟨bb,off+j,none⟩:=fun j=>by unfold Addr.add;split <;> simp_all
  have h1:=hf i hi
  rw[hadd,hadd] at h1
  rw[←Nat.add_assoc] at h1
  simpa[hi] using h1
theorem Tryz.cellsTx:Tryz.prog.cellsOf 52=3:=by kernel_rfl
theorem Tryz.cellsIn:Tryz.prog.cellsOf 124=3:=by kernel_rfl
theorem Tryz.cellsOut:Tryz.prog.cellsOf 101=2:=by kernel_rfl
theorem Tryz.cellsPoint:Tryz.prog.cellsOf 99=2:=by kernel_rfl
theorem Tryz.cellsOps:Tryz.prog.cellsOf 66=1:=by kernel_rfl
theorem Tryz.cellsIns:Tryz.prog.cellsOf 49=1:=by kernel_rfl
theorem Tryz.cellsOuts:Tryz.prog.cellsOf 50=1:=by kernel_rfl
theorem G6{cs:List Value}(h:cs.length=2):∃ a b,cs=[a,b]:=by
 match cs,h with
 | [a,b],_=>exact⟨a,b,rfl⟩
theorem Qh{cs:List Value}(h:cs.length=3):∃ a b c,cs=[a,b,c]:=by
 match cs,h with
 | [a,b,c],_=>exact⟨a,b,c,rfl⟩
section
variable {H : Type} {enc : TypeId × Value → H} {W : World} {sp : Nat → Bool} {held : Bool} {fuel : Nat}
theorem ops_full{v:Value}{x:DataW H×List MemPlace}(h:DataW.trod enc Tryz.prog W 0 sp held fuel 66 [v]=some x):∃ a n c l,v = .slice a n c∧OpsAt W a n l∧SlOk a n c:=by
 have h':=h
 rcases Deep.open_slice Tryz.underlying66 h with ⟨hcs,_⟩|⟨b,l,c,m,n,D,Pl,hcs,_,hl,hm,_⟩
 ·simp at hcs
  subst hcs
  exact⟨none,0,0,[],rfl,⟨rfl,fun h=>absurd h (by omega)⟩,Nat.le_refl _,Nat.zero_le _,fun _=>⟨rfl,rfl⟩⟩
 ·simp at hcs
  subst hcs
  obtain⟨⟨L,hO⟩,_⟩:=Td h'
  exact⟨some b,l,c,L,rfl,hO,hl,hm,fun h=>by cases h⟩
theorem Cg{cs:List Value}{x:DataW H×List MemPlace}(h:DataW.trod enc Tryz.prog W 0 sp held fuel 124 cs=some x):∃ x1 x2 a n c l,cs=[.int .i64 x1,.int .i64 x2,.slice a n c]∧OpsAt W a n l∧SlOk a n c:=by
 obtain⟨y0,y1,k,_,hl,h0,h1⟩:=trod_struct2 Tryz.underlying124 h
 rw[Tryz.cellsIn] at hl
 obtain⟨c0,c1,c2,rfl⟩:=Qh hl
 simp[Tryz.cellsPoint,Tryz.cellsOps] at h0 h1
 obtain⟨z0,z1,k2,_,_,g0,g1⟩:=trod_struct2 Tryz.underlying99 h0
 simp[Tryz.cells3] at g0 g1
 obtain⟨x1,e1,_,_⟩:=DataW.trod_int Tryz.underlying3 g0
 obtain⟨x2,e2,_,_⟩:=DataW.trod_int Tryz.underlying3 g1
 obtain⟨a,n,c,l,rfl,hO,hS⟩:=ops_full h1
 simp only[List.cons.injEq,and_true] at e1 e2
 subst e1 e2
 exact⟨x1,x2,a,n,c,l,rfl,hO,hS⟩
theorem G1{cs:List Value}{x:DataW H×List MemPlace}(h:DataW.trod enc Tryz.prog W 0 sp held fuel 101 cs=some x):∃ x1 a n c l,cs=[.int .i64 x1,.slice a n c]∧OpsAt W a n l∧SlOk a n c:=by
 obtain⟨y0,y1,k,_,hl,h0,h1⟩:=trod_struct2 Tryz.underlying101 h
 rw[Tryz.cellsOut] at hl
 obtain⟨c0,c1,rfl⟩:=G6 hl
 simp[Tryz.cells3,Tryz.cellsOps] at h0 h1
 obtain⟨x1,e1,_,_⟩:=DataW.trod_int Tryz.underlying3 h0
 obtain⟨a,n,c,l,rfl,hO,hS⟩:=ops_full h1
 simp only[List.cons.injEq,and_true] at e1
 subst e1
 exact⟨x1,a,n,c,l,rfl,hO,hS⟩
theorem Zdf{v:Value}{x:DataW H×List MemPlace}(h:DataW.trod enc Tryz.prog W 0 sp held fuel 49 [v]=some x):∃ a n c l,v = .slice a n c∧InsAt W a n l∧SlOk a n c:=by
 rcases Deep.open_slice Tryz.underlying49 h with ⟨hcs,_⟩|⟨b,l,c,m,n,D,Pl,hcs,_,hl,hm,hmm,_,hel⟩
 ·simp at hcs
  subst hcs
  exact⟨none,0,0,[],rfl,RowsAt.nil _ _,Nat.le_refl _,Nat.zero_le _,fun _=>⟨rfl,rfl⟩⟩
 ·simp at hcs
  subst hcs
  have hlm:l≤m:=by rw[hmm];split <;> omega
  have each:∀ i,i<l→∃ q:InD,∃ a n c,W.cell? (b.add (i*3))=some (.int .i64 q.1)∧W.cell? (b.add (i*3+1))=some (.int .i64 q.2.1)∧W.cell? (b.add (i*3+2))=some (.slice a n c)∧OpsAt W a n q.2.2∧SlOk a n c:=fun i hi=>by
   obtain⟨cs',h1,h2⟩:=hel i (by omega)
   rw[Tryz.cellsIn] at h1
   obtain⟨_,_,hcell⟩:=World.cells?_some h1
   obtain⟨x1,x2,a,n,c,key,rfl,hO,hS⟩:=Cg h2
   have e0:=hcell 0 (by omega)
   have e1:=hcell 1 (by omega)
   have e2:=hcell 2 (by omega)
   rw[Deep.add_add] at e0 e1 e2
   exact⟨(x1,x2,key),a,n,c,by simpa using e0,by simpa using e1,by simpa using e2,hO,hS⟩
  obtain⟨f,hf⟩:=Deep.choose_lt each
  refine⟨some b,l,c,(List.range l).map f,rfl,⟨by simp,fun hpos=>?_⟩,hl,hm,fun h=>by cases h⟩
  obtain⟨bb,off,spot⟩:=b
  obtain⟨_,_,_,z0,_⟩:=hf 0 hpos
  have hspot:spot=none:=by simpa[Addr.add] using World.cell?_spot z0
  subst hspot
  have hadd:∀ j,(⟨bb,off,none⟩:Addr).add j=⟨bb,off+j,none⟩:=fun j=>by unfold Addr.add;split <;> simp_all
  refine⟨bb,off,rfl,by rw[hadd] at z0;exact World.block_lt_of_cell? _ _ z0,fun i hi=>?_⟩
  have hi':i<l:=by simpa using hi
  obtain⟨a,n,c,q0,q1,q2,hO,hS⟩:=hf i hi'
  rw[hadd] at q0 q1 q2
  rw[←Nat.add_assoc] at q1 q2
  rw[List.getElem_map,List.getElem_range]
  exact⟨q0,q1,a,n,c,q2,hO,hS⟩
theorem Ey{v:Value}{x:DataW H×List MemPlace}(h:DataW.trod enc Tryz.prog W 0 sp held fuel 50 [v]=some x):∃ a n c l,v = .slice a n c∧OutsAt W a n l∧SlOk a n c:=by
 rcases Deep.open_slice Tryz.underlying50 h with ⟨hcs,_⟩|⟨b,l,c,m,n,D,Pl,hcs,_,hl,hm,hmm,_,hel⟩
 ·simp at hcs
  subst hcs
  exact⟨none,0,0,[],rfl,RowsAt.nil _ _,Nat.le_refl _,Nat.zero_le _,fun _=>⟨rfl,rfl⟩⟩
 ·simp at hcs
  subst hcs
  have hlm:l≤m:=by rw[hmm];split <;> omega
  have each:∀ i,i<l→∃ q:Zw,∃ a n c,W.cell? (b.add (i*2))=some (.int .i64 q.1)∧W.cell? (b.add (i*2+1))=some (.slice a n c)∧OpsAt W a n q.2∧SlOk a n c:=fun i hi=>by
   obtain⟨cs',h1,h2⟩:=hel i (by omega)
   rw[Tryz.cellsOut] at h1
   obtain⟨_,_,hcell⟩:=World.cells?_some h1
   obtain⟨x1,a,n,c,key,rfl,hO,hS⟩:=G1 h2
   have e0:=hcell 0 (by omega)
   have e1:=hcell 1 (by omega)
   rw[Deep.add_add] at e0 e1
   exact⟨(x1,key),a,n,c,by simpa using e0,by simpa using e1,hO,hS⟩
  obtain⟨f,hf⟩:=Deep.choose_lt each
  refine⟨some b,l,c,(List.range l).map f,rfl,⟨by simp,fun hpos=>?_⟩,hl,hm,fun h=>by cases h⟩
  obtain⟨bb,off,spot⟩:=b
  obtain⟨_,_,_,z0,_⟩:=hf 0 hpos
  have hspot:spot=none:=by simpa[Addr.add] using World.cell?_spot z0
  subst hspot
  have hadd:∀ j,(⟨bb,off,none⟩:Addr).add j=⟨bb,off+j,none⟩:=fun j=>by unfold Addr.add;split <;> simp_all
  refine⟨bb,off,rfl,by rw[hadd] at z0;exact World.block_lt_of_cell? _ _ z0,fun i hi=>?_⟩
  have hi':i<l:=by simpa using hi
  obtain⟨a,n,c,q0,q1,hO,hS⟩:=hf i hi'
  rw[hadd] at q0 q1
  rw[←Nat.add_assoc] at q1
  rw[List.getElem_map,List.getElem_range]
  exact⟨q0,a,n,c,q1,hO,hS⟩
theorem Zeq{cs:List Value}{x:DataW H×List MemPlace}(h:DataW.trod enc Tryz.prog W 0 sp held fuel 52 cs=some x):∃ h ai ni ci ao no co I O,cs=[.int .i64 h,.slice ai ni ci,.slice ao no co]∧InsAt W ai ni I∧OutsAt W ao no O∧SlOk ai ni ci∧SlOk ao no co:=by
 obtain⟨y0,y1,y2,k,_,hl,h0,h1,h2⟩:=Deep.trod_struct3 Tryz.underlying52 h
 rw[Tryz.cellsTx] at hl
 obtain⟨c0,c1,c2,rfl⟩:=Qh hl
 simp[Tryz.cells3,Tryz.cellsIns,Tryz.cellsOuts] at h0 h1 h2
 obtain⟨hh,e0,_,_⟩:=DataW.trod_int Tryz.underlying3 h0
 obtain⟨ai,ni,ci,I,rfl,hI,sI⟩:=Zdf h1
 obtain⟨ao,no,co,O,rfl,hO,sO⟩:=Ey h2
 simp only[List.cons.injEq,and_true] at e0
 subst e0
 exact⟨hh,ai,ni,ci,ao,no,co,I,O,rfl,hI,hO,sI,sO⟩
theorem Zak{cs:List Value}{x:DataW H×List MemPlace}(h:DataW.trod enc Tryz.prog W 0 sp held fuel 103 cs=some x):∃ (q:Zg) (a:Option Addr) (n c:Nat),cs=[.int .i64 q.1,.int .i64 q.2.1,.int .i64 (cv q),.slice a n c,.int .i64 (ch q),.bool (cr q)]∧OpsAt W a n (ck q)∧SlOk a n c:=by
 obtain⟨y0,y1,y2,y3,k,_,hl,h0,h1,h2,h3⟩:=Joins.trod_struct4 Tryz.underlying103 h
 rw[Tryz.cellsCoin] at hl
 obtain⟨c0,c1,c2,c3,c4,c5,rfl⟩:=Zdc hl
 simp[Tryz.cellsPoint,Tryz.cellsOut,Tryz.cells3,Tryz.cells4] at h0 h1 h2 h3
 obtain⟨z0,z1,k2,_,_,g0,g1⟩:=trod_struct2 Tryz.underlying99 h0
 simp[Tryz.cells3] at g0 g1
 obtain⟨x1,e1,_,_⟩:=DataW.trod_int Tryz.underlying3 g0
 obtain⟨x2,e2,_,_⟩:=DataW.trod_int Tryz.underlying3 g1
 obtain⟨x3,a,n,c,l,e3,hO,hS⟩:=G1 h1
 obtain⟨x4,e4,_,_⟩:=DataW.trod_int Tryz.underlying3 h2
 obtain⟨x5,e5,_⟩:=DataW.trod_bool Tryz.underlying4 h3
 simp only[List.cons.injEq,and_true] at e1 e2 e3 e4 e5
 obtain⟨rfl,rfl⟩:=e3
 subst e1 e2 e4 e5
 exact⟨(x1,x2,x3,l,x4,x5),a,n,c,rfl,hO,hS⟩
theorem A9{v:Value}{x:DataW H×List MemPlace}(h:DataW.trod enc Tryz.prog W 0 sp held fuel 29 [v]=some x):∃ a n c l,v = .slice a n c∧CoinsAt W a n l∧SlOk a n c:=by
 rcases Deep.open_slice Tryz.underlying29 h with ⟨hcs,_⟩|⟨b,l,c,m,n,D,Pl,hcs,_,hl,hm,hmm,_,hel⟩
 ·simp at hcs
  subst hcs
  exact⟨none,0,0,[],rfl,RowsAt.nil _ _,Nat.le_refl _,Nat.zero_le _,fun _=>⟨rfl,rfl⟩⟩
 ·simp at hcs
  subst hcs
  have hlm:l≤m:=by rw[hmm];split <;> omega
  have each:∀ i,i<l→∃ q:Zg,∃ a n c,W.cell? (b.add (i*6))=some (.int .i64 q.1)∧W.cell? (b.add (i*6+1))=some (.int .i64 q.2.1)∧W.cell? (b.add (i*6+2))=some (.int .i64 (cv q))∧W.cell? (b.add (i*6+3))=some (.slice a n c)∧W.cell? (b.add (i*6+4))=some (.int .i64 (ch q))∧W.cell? (b.add (i*6+5))=some (.bool (cr q))∧OpsAt W a n (ck q)∧SlOk a n c:=fun i hi=>by
   obtain⟨cs',h1,h2⟩:=hel i (by omega)
   rw[Tryz.cellsCoin] at h1
   obtain⟨_,_,hcell⟩:=World.cells?_some h1
   obtain⟨q,a,n,c,rfl,hO,hS⟩:=Zak h2
   have e0:=hcell 0 (by omega)
   have e1:=hcell 1 (by omega)
   have e2:=hcell 2 (by omega)
   have e3:=hcell 3 (by omega)
   have e4:=hcell 4 (by omega)
   have e5:=hcell 5 (by omega)
   rw[Deep.add_add] at e0 e1 e2 e3 e4 e5
   exact⟨q,a,n,c,by simpa using e0,by simpa using e1,by simpa using e2,by simpa using e3,by simpa using e4,by simpa using e5,hO,hS⟩
  obtain⟨f,hf⟩:=Deep.choose_lt each
  refine⟨some b,l,c,(List.range l).map f,rfl,⟨by simp,fun hpos=>?_⟩,hl,hm,fun h=>by cases h⟩
  obtain⟨bb,off,spot⟩:=b
  obtain⟨_,_,_,z0,_⟩:=hf 0 hpos
  have hspot:spot=none:=by simpa[Addr.add] using World.cell?_spot z0
  subst hspot
  have hadd:∀ j,(⟨bb,off,none⟩:Addr).add j=⟨bb,off+j,none⟩:=fun j=>by unfold Addr.add;split <;> simp_all
  refine⟨bb,off,rfl,by rw[hadd] at z0;exact World.block_lt_of_cell? _ _ z0,fun i hi=>?_⟩
  have hi':i<l:=by simpa using hi
  obtain⟨a,n,c,q0,q1,q2,q3,q4,q5,hO,hS⟩:=hf i hi'
  rw[hadd] at q0 q1 q2 q3 q4 q5
  rw[←Nat.add_assoc] at q1 q2 q3 q4 q5
  rw[List.getElem_map,List.getElem_range]
  exact⟨q0,q1,q2,⟨a,n,c,q3,hO,hS⟩,q4,q5⟩
end
end Go.Proofs.YtpikejjiignchaaGreatDoor
namespace Go.Proofs.YtpikejjiignchaaGreatDoor.Bk
open Go.ChangeShapes Go.WideShapes Go.ChangeAt Go.RowKit
theorem own:ownKnob Tryz.prog.godebug=none:=by kernel_rfl
theorem Qj:laidOutB Tryz.prog=true:=by kernel_rfl
theorem Tryz.cells9:Tryz.prog.cellsOf 9=1:=by kernel_rfl
theorem Tryz.cellsStrs:Tryz.prog.cellsOf 22=1:=by kernel_rfl
theorem Tryz.cellsBook:Tryz.prog.cellsOf 24=1:=by kernel_rfl
section
variable {H : Type} {enc : TypeId × Value → H} {W : World} {sp : Nat → Bool} {held : Bool} {fuel : Nat}
theorem Cz{v:Value}{x:DataW H×List MemPlace}(h:DataW.trod enc Tryz.prog W 0 sp held fuel 22 [v]=some x) :
  ∃ a n c L,v = .slice a n c∧TextsAt W a n L∧SlOk a n c∧(n=0∨∃ elems spare,x.1 = .slice elems spare∧elems.length=n):=by
 rcases Deep.open_strs Tryz.underlying22 Tryz.underlying9 Tryz.cells9 h with ⟨hcs,_⟩|⟨b,l,c,m,Sx,hcs,_,hl,hm,hmm,hx,hel⟩
 ·simp at hcs
  subst hcs
  exact⟨none,0,0,[],rfl,TextsAt.nil _ _,SlOk.nil,Or.inl rfl⟩
 ·simp at hcs
  subst hcs
  have hlm:l≤m:=by rw[hmm];split <;> omega
  refine⟨some b,l,c,(List.range l).map Sx,rfl,⟨by simp,fun hpos=>?_⟩,⟨hl,hm,fun h=>by cases h⟩,Or.inr ⟨_,_,by rw[hx],by simp⟩⟩
  obtain⟨bb,off,spot⟩:=b
  have z0:=(hel 0 (by omega)).1
  have hspot:spot=none:=by simpa[Addr.add] using World.cell?_spot z0
  subst hspot
  have hadd:∀ j,(⟨bb,off,none⟩:Addr).add j=⟨bb,off+j,none⟩:=fun j=>by unfold Addr.add;split <;> simp_all
  refine⟨bb,off,rfl,fun i hi=>?_⟩
  have hi':i<l:=by simpa using hi
  have q:=(hel i (by omega)).1
  rw[hadd] at q
  rw[List.getElem_map,List.getElem_range]
  exact q
theorem book_full{cs:List Value}{x:DataW H×List MemPlace}(h:DataW.trod enc Tryz.prog W 0 sp held fuel 24 cs=some x):∃ a n c L,cs=[.slice a n c]∧TextsAt W a n L∧SlOk a n c:=by
 obtain⟨y0,k,_,hl,h0⟩:=trod_struct1 Tryz.underlying24 h
 rw[Tryz.cellsBook] at hl
 obtain⟨c0,rfl⟩:=List.length_eq_one_iff.1 hl
 simp[Tryz.cellsStrs] at h0
 obtain⟨a,n,c,L,rfl,hT,hS,_⟩:=Cz h0
 exact⟨a,n,c,L,rfl,hT,hS⟩
end
end Go.Proofs.YtpikejjiignchaaGreatDoor.Bk
namespace Go.Proofs.YtpikejjiignchaaGreatDoor
open Go.ChangeShapes Go.WideShapes Go.ChangeAt Go.RowKit
section
variable {H : Type} {enc : TypeId × Value → H} {W : World} {sp : Nat → Bool} {held : Bool} {fuel : Nat}
theorem Zbc{v:Value}{x:DataW H×List MemPlace}(h:DataW.trod enc Tryz.prog W 0 sp held fuel 48 [v]=some x):∃ a n c l,v = .slice a n c∧TxsAt W a n l∧SlOk a n c:=by
 rcases Deep.open_slice Tryz.underlying48 h with ⟨hcs,_⟩|⟨b,l,c,m,n,D,Pl,hcs,_,hl,hm,hmm,_,hel⟩
 ·simp at hcs
  subst hcs
  exact⟨none,0,0,[],rfl,RowsAt.nil _ _,Nat.le_refl _,Nat.zero_le _,fun _=>⟨rfl,rfl⟩⟩
 ·simp at hcs
  subst hcs
  have hlm:l≤m:=by rw[hmm];split <;> omega
  have each:∀ i,i<l→∃ q:TxD,∃ ai ni ci ao no co,W.cell? (b.add (i*3))=some (.int .i64 q.1)∧W.cell? (b.add (i*3+1))=some (.slice ai ni ci)∧W.cell? (b.add (i*3+2))=some (.slice ao no co)∧InsAt W ai ni q.2.1∧SlOk ai ni ci∧OutsAt W ao no q.2.2∧SlOk ao no co:=fun i hi=>by
   obtain⟨cs',h1,h2⟩:=hel i (by omega)
   rw[Tryz.cellsTx] at h1
   obtain⟨_,_,hcell⟩:=World.cells?_some h1
   obtain⟨q1,ai,ni,ci,ao,no,co,I,O,rfl,hI,hO,sI,sO⟩:=Zeq h2
   have e0:=hcell 0 (by omega)
   have e1:=hcell 1 (by omega)
   have e2:=hcell 2 (by omega)
   rw[Deep.add_add] at e0 e1 e2
   exact⟨(q1,I,O),ai,ni,ci,ao,no,co,by simpa using e0,by simpa using e1,by simpa using e2,hI,sI,hO,sO⟩
  obtain⟨f,hf⟩:=Deep.choose_lt each
  refine⟨some b,l,c,(List.range l).map f,rfl,⟨by simp,fun hpos=>?_⟩,hl,hm,fun h=>by cases h⟩
  obtain⟨bb,off,spot⟩:=b
  obtain⟨_,_,_,_,_,_,z0,_⟩:=hf 0 hpos
  have hspot:spot=none:=by simpa[Addr.add] using World.cell?_spot z0
  subst hspot
  have hadd:∀ j,(⟨bb,off,none⟩:Addr).add j=⟨bb,off+j,none⟩:=fun j=>by unfold Addr.add;split <;> simp_all
  refine⟨bb,off,rfl,by rw[hadd] at z0;exact World.block_lt_of_cell? _ _ z0,fun i hi=>?_⟩
  have hi':i<l:=by simpa using hi
  obtain⟨ai,ni,ci,ao,no,co,q0,q1,q2,hI,sI,hO,sO⟩:=hf i hi'
  rw[hadd] at q0 q1 q2
  rw[←Nat.add_assoc] at q1 q2
  rw[List.getElem_map,List.getElem_range]
  exact⟨q0,⟨ai,ni,ci,q1,hI,sI⟩,ao,no,co,q2,hO,sO⟩
end
set_option maxRecDepth 100000 in
theorem Mp{H:Type}{enc:TypeId×Value→H}{os:Os}{f:FuncId}{fn:Func}{s:ChangeSpec}{X:World→Prop}(hX:∀ w w':World,w.heap=w'.heap→X w→X w')
  (started:os.Started) (noInit:Tryz.checked.prog.inits.idxOf? f=none) (hfn:Tryz.checked.prog.funcs[f]? = some fn)
  (witness:∃ (w:World) (tape:Tape) (i:Input),w.os=os∧(w.forCall tape i).Shaped Tryz.checked.prog∧i.vars=[]∧Input.okWide Tryz.checked.prog (w.forCall tape i) .any w.heap.size f i ∧
   ((s.pre enc Tryz.checked.prog fn [] false (w.forCall tape i).memory i.args∧X (w.forCall tape i).memory)∧sizedMet enc Tryz.checked.prog fn (OpenSpec.ofChange s) false (w.forCall tape i).memory i.args)∧({}:Assume).holds Tryz.checked.prog (lone (Frame.enter Tryz.checked.prog f i.args .normal) [] (w.forCall tape i)))
  (contract:∀ (W:World) (base:Nat) (args:Array Value) (ds gs:List (DataW H)) (before:List MemPlace),
   (∀ (j:Nat) t v,fn.params[j]? = some t→args[j]? = some v→Value.okWide Tryz.checked.prog W .any base t v) →
   DataW.Whole enc Tryz.checked.prog fn.params.toList s.vars false W args.toList ds gs before→X W→(DataW.weightsEach Tryz.checked.prog (fn.params.toList++s.plain.varTypes Tryz.checked.prog) (ds++gs)).all (·≤reachBytes)=true →
   Calls Tryz.checked.prog f args W fun e W'=>∃ v,e = .returned v∧s.post enc Tryz.checked.prog fn false true false false W args v W') :
  ReturnsInHanded {} Tryz.checked os f .any (fun w args=>(s.pre enc Tryz.checked.prog fn [] false w args∧X w)∧sizedMet enc Tryz.checked.prog fn (OpenSpec.ofChange s) false w args) (s.post enc Tryz.checked.prog fn false true false false):=by
 refine returnsInHanded_of_calls own started noInit witness ?_
 intro w tape i _ _ _ hok hpre _
 obtain⟨_,_,_,fn',hfn',_,_,_,_,hval⟩:=hok
 obtain rfl:fn'=fn:=Option.some.inj (hfn'.symm.trans hfn)
 obtain⟨⟨⟨ds,gs,before,hw,_⟩,hx⟩,hz⟩:=hpre
 refine (contract (w.forCall tape i) w.heap.size i.args ds gs before hval (DataW.Whole.of_heap (w':=w.forCall tape i) (by rfl) hw) (hX _ _ (by rfl) hx) (hz.weights hw)).mono fun e W' ⟨v,he,hp⟩=>?_
 subst he
 exact ChangeSpec.post_blind hp
end Go.Proofs.YtpikejjiignchaaGreatDoor
namespace Go.Proofs.YtpikejjiignchaaGreatDoor.Lf
open Go.ChangeShapes Go.WideShapes Go.ChangeAt Go.RowKit
theorem own:ownKnob Tryz.prog.godebug=none:=by kernel_rfl
theorem Qj:laidOutB Tryz.prog=true:=by kernel_rfl
theorem L8{H:Type}{enc:TypeId×Value→H}{w:World}{base:Nat}{sp:Nat→Bool}{held:Bool}{fuel:Nat}{t:TypeId}{n:Nat}{cs:List Value}{ss:List (List UInt8)}{p:List MemPlace}
  (ht:Tryz.prog.underlying t=some (.array n 9)) (hct:Tryz.prog.cellsOf t=n) (h9:Tryz.prog.cellsOf 9=1)
  (h:DataW.trod enc Tryz.prog w base sp held fuel t cs=some (.agg (ss.map fun b=>.lit (.string b)),p)):cs=ss.map fun b=>Value.string ⟨b.toArray⟩:=by
 obtain⟨xs,m,rfl,hx,hl,hn,hel⟩:=DataW.trod_array ht h
 rw[hct] at hl
 simp only[Prod.mk.injEq,DataW.agg.injEq] at hx
 have hsl:ss.length=n:=by
  have:=congrArg List.length hx.1
  simp at this
  omega
 apply List.ext_getElem?
 intro i
 by_cases hi:i<n
 ·have hi':=hel i hi
  rw[h9,Nat.mul_one] at hi'
  have hxi:i<xs.length:=by omega
  rw[List.getElem?_eq_getElem hxi] at hi'
  obtain⟨s,hc,hy,_⟩:=DataW.trod_string Tryz.underlying9 hi'
  have h1:cs[i]? = some (.string s):=by
   have:=congrArg (·[0]?) hc
   simpa[List.getElem?_take,List.getElem?_drop] using this
  have h2:(xs.map (·.1))[i]? = some (.lit (.string s.data.toList)):=by
   rw[List.getElem?_map,List.getElem?_eq_getElem hxi,hy];rfl
  rw[←hx.1] at h2
  have hsi:i<ss.length:=by omega
  simp only[List.getElem?_map,List.getElem?_eq_getElem hsi,Option.map_some,Option.some.injEq,DataW.lit.injEq,Lit.string.injEq] at h2
  rw[h1,List.getElem?_map,List.getElem?_eq_getElem hsi,h2]
  rfl
 ·rw[List.getElem?_eq_none (by omega),List.getElem?_eq_none (by simp;omega)]
def namesBytes:List (List UInt8):=namesL.map (·.data.toList)
theorem Tryz.tNam:(Tryz.prog.globals[2]?).map (·.type)=some 313:=by kernel_rfl
theorem Tryz.tTab:(Tryz.prog.globals[3]?).map (·.type)=some 325:=by kernel_rfl
theorem Tryz.cellsNam:Tryz.prog.cellsOf 313=14:=by kernel_rfl
theorem Tryz.cellsTab:Tryz.prog.cellsOf 325=20:=by kernel_rfl
theorem Tryz.cells9:Tryz.prog.cellsOf 9=1:=by kernel_rfl
theorem Tryz.cellsU64:Tryz.prog.cellsOf 286=1:=by kernel_rfl
theorem names_of_laid{H:Type}{enc:TypeId×Value→H}{w:World}{base:Nat}{sp:Nat→Bool}{held:Bool}{fuel:Nat}{cs:Array Value}{p:List MemPlace}(hv:w.var? Tryz.prog "cairn/lock.names" = some cs)
  (h:DataW.trod enc Tryz.prog w base sp held fuel 313 cs.toList=some (Rows.laid_cairn_lock_names,p)):w.var? Tryz.prog "cairn/lock.names" = some Ak:=by
 have e:=L8 (ss:=namesBytes) Tryz.underlying313 Tryz.cellsNam Tryz.cells9 h
 rw[hv]
 congr 1
 obtain⟨l⟩:=cs
 have e':l=namesBytes.map fun b=>Value.string ⟨b.toArray⟩:=e
 rw[e']
 rfl
theorem tab_of_laid{H:Type}{enc:TypeId×Value→H}{w:World}{base:Nat}{sp:Nat→Bool}{held:Bool}{fuel:Nat}{cs:Array Value}{p:List MemPlace}(hv:w.var? Tryz.prog "internal/strconv.uint64pow10" = some cs)
  (h:DataW.trod enc Tryz.prog w base sp held fuel 325 cs.toList=some (Rows.laid_internal_strconv_uint64pow10,p)):Lib.TabIs Tryz.prog w "internal/strconv.uint64pow10" .u64 Lib.pow10Tab:=by
 have e:=Lib.cells_of_tab (zs:=Lib.pow10Tab) Tryz.underlying325 Tryz.underlying286 Tryz.cellsU64 Tryz.cellsTab h
 unfold Lib.TabIs
 rw[hv]
 congr 1
 obtain⟨l⟩:=cs
 have e':l=Lib.pow10Tab.map fun z=>Value.int .u64 z:=e
 rw[e']
theorem Tryz.cellsOp:Tryz.prog.cellsOf 122=2:=by kernel_rfl
theorem Tryz.cells3:Tryz.prog.cellsOf 3=1:=by kernel_rfl
theorem Td{H:Type}{enc:TypeId×Value→H}{W:World}{sp:Nat→Bool}{held:Bool}{fuel:Nat}{a:Option Addr}{len cap:Nat}{x:DataW H×List MemPlace}
  (h:DataW.trod enc Tryz.prog W 0 sp held fuel 66 [.slice a len cap]=some x):(∃ l,OpsAt W a len l)∧(a=none→len=0∧cap=0):=by
 rcases Deep.open_slice_pairs Tryz.underlying66 Tryz.underlying122 Tryz.cellsOp rfl rfl Tryz.cells3 Tryz.cells3 h with ⟨hcs,_⟩|⟨b,l,c,m,n,V0,V1,D0,D1,P0,P1,hcs,_,hl,_,hm,_,hel⟩
 ·simp at hcs
  obtain⟨rfl,rfl,rfl⟩:=hcs
  exact⟨⟨[],rfl,fun h=>absurd h (by omega)⟩,fun _=>⟨rfl,rfl⟩⟩
 ·simp at hcs
  obtain⟨rfl,rfl,rfl⟩:=hcs
  refine⟨?_,fun h=>by cases h⟩
  have hlm:len≤m:=by rw[hm];split <;> omega
  have each:∀ i,i<len→∃ q:Int×Int,W.cell? (b.add (i*2))=some (.int .i64 q.1)∧W.cell? (b.add (i*2+1))=some (.int .i64 q.2):=fun i hi=>by
   obtain⟨h1,h2,t1,t2⟩:=hel i (by omega)
   obtain⟨z1,e1,_,_⟩:=DataW.trod_int Tryz.underlying3 t1
   obtain⟨z2,e2,_,_⟩:=DataW.trod_int Tryz.underlying3 t2
   simp only[List.cons.injEq,and_true] at e1 e2
   exact⟨(z1,z2),by rw[h1,e1],by rw[h2,e2]⟩
  obtain⟨f,hf⟩:=Deep.choose_lt each
  refine⟨(List.range len).map f,by simp,fun hpos=>?_⟩
  obtain⟨bb,off,spot⟩:=b
  have hspot:spot=none:=by simpa[Addr.add] using World.cell?_spot (hf 0 hpos).1
  subst hspot
  refine⟨bb,off,rfl,fun i hi=>?_⟩
  have hadd:∀ j,(⟨bb,off,none⟩:Addr).add j=⟨bb,off+j,none⟩:=fun j=>by unfold Addr.add;split <;> simp_all
  have h1:=hf i hi
  rw[hadd,hadd] at h1
  rw[←Nat.add_assoc] at h1
  simpa[hi] using h1
end Go.Proofs.YtpikejjiignchaaGreatDoor.Lf
namespace Go.Proofs.YtpikejjiignchaaGreatDoor
open Go.ChangeShapes Go.WideShapes Go.ChangeAt Go.RowKit
theorem Px{P:Program}{w:World}{l:List (String×DataW Unit)}(fuel M:Nat)
  (h:((DataW.laidRun P w fuel (l.map (·.1))).bind fun x=>if nodupBits M x.2 0 && laidRowsB P w x.2 then some x.1 else none)=some l):laidMet P l w:=by
 simp only[Option.bind_eq_some_iff] at h
 obtain⟨x,hx,d⟩:=h
 split at d
 ·rename_i hb
  simp only[Bool.and_eq_true] at hb
  cases d
  exact laidMet_of_run (ps:=x.2) fuel (by rw[hx]) (decide_eq_true (nodupBits_sound hb.1).1) hb.2
 ·cases d
open Go.ChangeShapes Go.WideShapes Go.ChangeAt Go.RowKit
theorem Tryz.tSpc:(Tryz.prog.globals[0]?).map (·.type)=some 256:=by kernel_rfl
theorem Tryz.cellsSpc:Tryz.prog.cellsOf 256=256:=by kernel_rfl
theorem Tryz.cells5:Tryz.prog.cellsOf 5=1:=by kernel_rfl
theorem Fw{H:Type}:(Rows.laid_strings_asciiSpace:DataW H)=Lib.tabData .u8 Lib.asciiSpaceTab:=by kernel_rfl
theorem Kd{H:Type}{enc:TypeId×Value→H}{w:World}{base:Nat}{sp:Nat→Bool}{held:Bool}{fuel:Nat}{cs:Array Value}{p:List MemPlace}(hv:w.var? Tryz.prog "strings.asciiSpace" = some cs)
  (h:DataW.trod enc Tryz.prog w base sp held fuel 256 cs.toList=some (Rows.laid_strings_asciiSpace,p)):Lib.TabIs Tryz.prog w "strings.asciiSpace" .u8 Lib.asciiSpaceTab:=by
 rw[Fw] at h
 have e:=Lib.cells_of_tab (zs:=Lib.asciiSpaceTab) Tryz.underlying256 Tryz.underlying5 Tryz.cells5 Tryz.cellsSpc h
 unfold Lib.TabIs
 rw[hv]
 congr 1
 obtain⟨l⟩:=cs
 have e':l=Lib.asciiSpaceTab.map fun z=>Value.int .u8 z:=e
 rw[e']
end Go.Proofs.YtpikejjiignchaaGreatDoor
namespace Go.Proofs.YtpikejjiignchaaGreatDoor.Tr
open Go.ChangeShapes Go.WideShapes Go.ChangeAt Go.RowKit
theorem own:ownKnob Tryz.prog.godebug=none:=by kernel_rfl
theorem Qj:laidOutB Tryz.prog=true:=by kernel_rfl
theorem Tryz.cells4:Tryz.prog.cellsOf 4=1:=by kernel_rfl
theorem Tryz.cellsOp:Tryz.prog.cellsOf 122=2:=by kernel_rfl
theorem Tryz.cells3:Tryz.prog.cellsOf 3=1:=by kernel_rfl
theorem Td{H:Type}{enc:TypeId×Value→H}{W:World}{sp:Nat→Bool}{held:Bool}{fuel:Nat}{a:Option Addr}{len cap:Nat}{x:DataW H×List MemPlace}
  (h:DataW.trod enc Tryz.prog W 0 sp held fuel 66 [.slice a len cap]=some x):(∃ l,OpsAt W a len l)∧(a=none→len=0∧cap=0):=by
 rcases Deep.open_slice_pairs Tryz.underlying66 Tryz.underlying122 Tryz.cellsOp rfl rfl Tryz.cells3 Tryz.cells3 h with ⟨hcs,_⟩|⟨b,l,c,m,n,V0,V1,D0,D1,P0,P1,hcs,_,hl,_,hm,_,hel⟩
 ·simp at hcs
  obtain⟨rfl,rfl,rfl⟩:=hcs
  exact⟨⟨[],rfl,fun h=>absurd h (by omega)⟩,fun _=>⟨rfl,rfl⟩⟩
 ·simp at hcs
  obtain⟨rfl,rfl,rfl⟩:=hcs
  refine⟨?_,fun h=>by cases h⟩
  have hlm:len≤m:=by rw[hm];split <;> omega
  have each:∀ i,i<len→∃ q:Int×Int,W.cell? (b.add (i*2))=some (.int .i64 q.1)∧W.cell? (b.add (i*2+1))=some (.int .i64 q.2):=fun i hi=>by
   obtain⟨h1,h2,t1,t2⟩:=hel i (by omega)
   obtain⟨z1,e1,_,_⟩:=DataW.trod_int Tryz.underlying3 t1
   obtain⟨z2,e2,_,_⟩:=DataW.trod_int Tryz.underlying3 t2
   simp only[List.cons.injEq,and_true] at e1 e2
   exact⟨(z1,z2),by rw[h1,e1],by rw[h2,e2]⟩
  obtain⟨f,hf⟩:=Deep.choose_lt each
  refine⟨(List.range len).map f,by simp,fun hpos=>?_⟩
  obtain⟨bb,off,spot⟩:=b
  have hspot:spot=none:=by simpa[Addr.add] using World.cell?_spot (hf 0 hpos).1
  subst hspot
  refine⟨bb,off,rfl,fun i hi=>?_⟩
  have hadd:∀ j,(⟨bb,off,none⟩:Addr).add j=⟨bb,off+j,none⟩:=fun j=>by unfold Addr.add;split <;> simp_all
  have h1:=hf i hi
  rw[hadd,hadd] at h1
  rw[←Nat.add_assoc] at h1
  simpa[hi] using h1
theorem Tryz.cellsTx:Tryz.prog.cellsOf 52=3:=by kernel_rfl
theorem Tryz.cellsIn:Tryz.prog.cellsOf 124=3:=by kernel_rfl
theorem Tryz.cellsOut:Tryz.prog.cellsOf 101=2:=by kernel_rfl
theorem Tryz.cellsPoint:Tryz.prog.cellsOf 99=2:=by kernel_rfl
theorem Tryz.cellsOps:Tryz.prog.cellsOf 66=1:=by kernel_rfl
theorem Tryz.cellsIns:Tryz.prog.cellsOf 49=1:=by kernel_rfl
theorem Tryz.cellsOuts:Tryz.prog.cellsOf 50=1:=by kernel_rfl
theorem G6{cs:List Value}(h:cs.length=2):∃ a b,cs=[a,b]:=by
 match cs,h with
 | [a,b],_=>exact⟨a,b,rfl⟩
theorem Qh{cs:List Value}(h:cs.length=3):∃ a b c,cs=[a,b,c]:=by
 match cs,h with
 | [a,b,c],_=>exact⟨a,b,c,rfl⟩
section
variable {H : Type} {enc : TypeId × Value → H} {W : World} {sp : Nat → Bool} {held : Bool} {fuel : Nat}
theorem ops_full{v:Value}{x:DataW H×List MemPlace}(h:DataW.trod enc Tryz.prog W 0 sp held fuel 66 [v]=some x):∃ a n c l,v = .slice a n c∧OpsAt W a n l∧SlOk a n c:=by
 have h':=h
 rcases Deep.open_slice Tryz.underlying66 h with ⟨hcs,_⟩|⟨b,l,c,m,n,D,Pl,hcs,_,hl,hm,_⟩
 ·simp at hcs
  subst hcs
  exact⟨none,0,0,[],rfl,⟨rfl,fun h=>absurd h (by omega)⟩,Nat.le_refl _,Nat.zero_le _,fun _=>⟨rfl,rfl⟩⟩
 ·simp at hcs
  subst hcs
  obtain⟨⟨L,hO⟩,_⟩:=Td h'
  exact⟨some b,l,c,L,rfl,hO,hl,hm,fun h=>by cases h⟩
theorem Cg{cs:List Value}{x:DataW H×List MemPlace}(h:DataW.trod enc Tryz.prog W 0 sp held fuel 124 cs=some x):∃ x1 x2 a n c l,cs=[.int .i64 x1,.int .i64 x2,.slice a n c]∧OpsAt W a n l∧SlOk a n c:=by
 obtain⟨y0,y1,k,_,hl,h0,h1⟩:=trod_struct2 Tryz.underlying124 h
 rw[Tryz.cellsIn] at hl
 obtain⟨c0,c1,c2,rfl⟩:=Qh hl
 simp[Tryz.cellsPoint,Tryz.cellsOps] at h0 h1
 obtain⟨z0,z1,k2,_,_,g0,g1⟩:=trod_struct2 Tryz.underlying99 h0
 simp[Tryz.cells3] at g0 g1
 obtain⟨x1,e1,_,_⟩:=DataW.trod_int Tryz.underlying3 g0
 obtain⟨x2,e2,_,_⟩:=DataW.trod_int Tryz.underlying3 g1
 obtain⟨a,n,c,l,rfl,hO,hS⟩:=ops_full h1
 simp only[List.cons.injEq,and_true] at e1 e2
 subst e1 e2
 exact⟨x1,x2,a,n,c,l,rfl,hO,hS⟩
theorem G1{cs:List Value}{x:DataW H×List MemPlace}(h:DataW.trod enc Tryz.prog W 0 sp held fuel 101 cs=some x):∃ x1 a n c l,cs=[.int .i64 x1,.slice a n c]∧OpsAt W a n l∧SlOk a n c:=by
 obtain⟨y0,y1,k,_,hl,h0,h1⟩:=trod_struct2 Tryz.underlying101 h
 rw[Tryz.cellsOut] at hl
 obtain⟨c0,c1,rfl⟩:=G6 hl
 simp[Tryz.cells3,Tryz.cellsOps] at h0 h1
 obtain⟨x1,e1,_,_⟩:=DataW.trod_int Tryz.underlying3 h0
 obtain⟨a,n,c,l,rfl,hO,hS⟩:=ops_full h1
 simp only[List.cons.injEq,and_true] at e1
 subst e1
 exact⟨x1,a,n,c,l,rfl,hO,hS⟩
end
end Go.Proofs.YtpikejjiignchaaGreatDoor.Tr
namespace Go.Proofs.YtpikejjiignchaaGreatDoor
open Go.ChangeShapes Go.WideShapes Go.ChangeAt Go.RowKit
theorem Tryz.bytesOp:Tryz.prog.bytesOf 122=16:=by kernel_rfl
theorem E7{H:Type}{enc:TypeId×Value→H}{W:World}{sp:Nat→Bool}{held:Bool}{fuel:Nat}{v:Value}{x:DataW H×List MemPlace}(h:DataW.trod enc Tryz.prog W 0 sp held fuel 66 [v]=some x) :
  ∃ a n c l,v = .slice a n c∧OpsAt W a n l∧SlOk a n c∧(n=0∨∃ elems spare,x.1 = .slice elems spare∧elems.length=n):=by
 obtain⟨a,n,c,l,hv,hO,hs⟩:=Tr.ops_full h
 refine⟨a,n,c,l,hv,hO,hs,?_⟩
 rcases Deep.open_slice Tryz.underlying66 h with ⟨hcs,_⟩|⟨b,l,c,m,k,D,Pl,hcs,_,hl,hm,_,hx,_⟩
 ·simp at hcs
  rw[hv] at hcs
  injection hcs with _ e _
  exact .inl e
 ·simp at hcs
  rw[hv] at hcs
  injection hcs with _ e _
  subst e
  exact .inr ⟨_,_,by rw[hx],by simp⟩
end Go.Proofs.YtpikejjiignchaaGreatDoor
