import Derived.Deep.SlicePairs
import Derived.LaidMore
import Derived.Stop.Joined
import Derived.HandedShaped
import Derived.LaidOnce
import Derived.Test.YtpikejjiignchaaGreatDoorG39
namespace Go.Proofs.YtpikejjiignchaaGreatDoor.Lf
open Go.ChangeShapes Go.WideShapes Go.ChangeAt Go.RowKit
theorem own:ownKnob Tryz.prog.godebug=none:=by kernel_rfl
theorem Sm:laidOutB Tryz.prog=true:=by kernel_rfl
theorem Dq{H:Type}{enc:TypeId×Value→H}{w:World}{base:Nat}{sp:Nat→Bool}{held:Bool}{fuel:Nat}{t:TypeId}{n:Nat}{cs:List Value}{ss:List (List UInt8)}{p:List MemPlace}
  (ht:Tryz.prog.underlying t=some (.array n 9)) (hct:Tryz.prog.cellsOf t=n) (h9:Tryz.prog.cellsOf 9=1)
  (h:DataW.trod enc Tryz.prog w base sp held fuel t cs=some (.agg (ss.map fun b=>.lit (.string b)),p)):cs=ss.map fun b=>Value.string ⟨b.toArray⟩:=by
 obtain⟨xs,m,rfl,hx,hl,hn,hel⟩:=DataW.trod_array ht h
 rw[hct] at hl
 simp only[Prod.mk.injEq,DataW.agg.injEq] at hx
 have hsl:ss.length=n:=by
  have:=congrArg List.length hx.1
  simp at this
  omega
 apply List.ext_getElem?
 intro i
 by_cases hi:i<n
 ·have hi':=hel i hi
  rw[h9,Nat.mul_one] at hi'
  have hxi:i<xs.length:=by omega
  rw[List.getElem?_eq_getElem hxi] at hi'
  obtain⟨s,hc,hy,_⟩:=DataW.trod_string Tryz.underlying9 hi'
  have h1:cs[i]? = some (.string s):=by
   have:=congrArg (·[0]?) hc
   simpa[List.getElem?_take,List.getElem?_drop] using this
  have h2:(xs.map (·.1))[i]? = some (.lit (.string s.data.toList)):=by
   rw[List.getElem?_map,List.getElem?_eq_getElem hxi,hy];rfl
  rw[←hx.1] at h2
  have hsi:i<ss.length:=by omega
  simp only[List.getElem?_map,List.getElem?_eq_getElem hsi,Option.map_some,Option.some.injEq,DataW.lit.injEq,Lit.string.injEq] at h2
  rw[h1,List.getElem?_map,List.getElem?_eq_getElem hsi,h2]
  rfl
 ·rw[List.getElem?_eq_none (by omega),List.getElem?_eq_none (by simp;omega)]
def namesBytes:List (List UInt8):=namesL.map (·.data.toList)
theorem Tryz.tNam:(Tryz.prog.globals[2]?).map (·.type)=some 313:=by kernel_rfl
theorem Tryz.tTab:(Tryz.prog.globals[3]?).map (·.type)=some 325:=by kernel_rfl
theorem Tryz.cellsNam:Tryz.prog.cellsOf 313=14:=by kernel_rfl
theorem Tryz.cellsTab:Tryz.prog.cellsOf 325=20:=by kernel_rfl
theorem Tryz.cells9:Tryz.prog.cellsOf 9=1:=by kernel_rfl
theorem Tryz.cellsU64:Tryz.prog.cellsOf 286=1:=by kernel_rfl
theorem names_of_laid{H:Type}{enc:TypeId×Value→H}{w:World}{base:Nat}{sp:Nat→Bool}{held:Bool}{fuel:Nat}{cs:Array Value}{p:List MemPlace}(hv:w.var? Tryz.prog "cairn/lock.names" = some cs)
  (h:DataW.trod enc Tryz.prog w base sp held fuel 313 cs.toList=some (Rows.laid_cairn_lock_names,p)):w.var? Tryz.prog "cairn/lock.names" = some E9:=by
 have e:=Dq (ss:=namesBytes) Tryz.underlying313 Tryz.cellsNam Tryz.cells9 h
 rw[hv]
 congr 1
 obtain⟨l⟩:=cs
 have e':l=namesBytes.map fun b=>Value.string ⟨b.toArray⟩:=e
 rw[e']
 rfl
theorem tab_of_laid{H:Type}{enc:TypeId×Value→H}{w:World}{base:Nat}{sp:Nat→Bool}{held:Bool}{fuel:Nat}{cs:Array Value}{p:List MemPlace}(hv:w.var? Tryz.prog "internal/strconv.uint64pow10" = some cs)
  (h:DataW.trod enc Tryz.prog w base sp held fuel 325 cs.toList=some (Rows.laid_internal_strconv_uint64pow10,p)):Lib.TabIs Tryz.prog w "internal/strconv.uint64pow10" .u64 Lib.pow10Tab:=by
 have e:=Lib.cells_of_tab (zs:=Lib.pow10Tab) Tryz.underlying325 Tryz.underlying286 Tryz.cellsU64 Tryz.cellsTab h
 unfold Lib.TabIs
 rw[hv]
 congr 1
 obtain⟨l⟩:=cs
 have e':l=Lib.pow10Tab.map fun z=>Value.int .u64 z:=e
 rw[e']
theorem Tryz.cellsOp:Tryz.prog.cellsOf 122=2:=by kernel_rfl
theorem Tryz.cells3:Tryz.prog.cellsOf 3=1:=by kernel_rfl
theorem Sg{H:Type}{enc:TypeId×Value→H}{W:World}{sp:Nat→Bool}{held:Bool}{fuel:Nat}{a:Option Addr}{len cap:Nat}{x:DataW H×List MemPlace}
  (h:DataW.trod enc Tryz.prog W 0 sp held fuel 66 [.slice a len cap]=some x):(∃ l,OpsAt W a len l)∧(a=none→len=0∧cap=0):=by
 rcases Deep.open_slice_pairs Tryz.underlying66 Tryz.underlying122 Tryz.cellsOp rfl rfl Tryz.cells3 Tryz.cells3 h with ⟨hcs,_⟩|⟨b,l,c,m,n,V0,V1,D0,D1,P0,P1,hcs,_,hl,_,hm,_,hel⟩
 ·simp at hcs
  obtain⟨rfl,rfl,rfl⟩:=hcs
  exact⟨⟨[],rfl,fun h=>absurd h (by omega)⟩,fun _=>⟨rfl,rfl⟩⟩
 ·simp at hcs
  obtain⟨rfl,rfl,rfl⟩:=hcs
  refine⟨?_,fun h=>by cases h⟩
  have hlm:len≤m:=by rw[hm];split <;> omega
  have each:∀ i,i<len→∃ q:Int×Int,W.cell? (b.add (i*2))=some (.int .i64 q.1)∧W.cell? (b.add (i*2+1))=some (.int .i64 q.2):=fun i hi=>by
   obtain⟨h1,h2,t1,t2⟩:=hel i (by omega)
   obtain⟨z1,e1,_,_⟩:=DataW.trod_int Tryz.underlying3 t1
   obtain⟨z2,e2,_,_⟩:=DataW.trod_int Tryz.underlying3 t2
   simp only[List.cons.injEq,and_true] at e1 e2
   exact⟨(z1,z2),by rw[h1,e1],by rw[h2,e2]⟩
  obtain⟨f,hf⟩:=Deep.choose_lt each
  refine⟨(List.range len).map f,by simp,fun hpos=>?_⟩
  obtain⟨bb,off,spot⟩:=b
  have hspot:spot=none:=by simpa[Addr.add] using World.cell?_spot (hf 0 hpos).1
  subst hspot
  refine⟨bb,off,rfl,fun i hi=>?_⟩
  have hadd:∀ j,(⟨bb,off,none⟩:Addr).add j=⟨bb,off+j,none⟩:=fun j=>by unfold Addr.add;split <;> simp_all
  have h1:=hf i hi
  rw[hadd,hadd] at h1
  rw[←Nat.add_assoc] at h1
  simpa[hi] using h1
end Go.Proofs.YtpikejjiignchaaGreatDoor.Lf
namespace Go.Proofs.YtpikejjiignchaaGreatDoor
open Go.ChangeShapes Go.WideShapes Go.ChangeAt Go.RowKit
theorem Hc{P:Program}{w:World}{l:List (String×DataW Unit)}(fuel M:Nat)
  (h:((DataW.laidRun P w fuel (l.map (·.1))).bind fun x=>if nodupBits M x.2 0 && laidRowsB P w x.2 then some x.1 else none)=some l):laidMet P l w:=by
 simp only[Option.bind_eq_some_iff] at h
 obtain⟨x,hx,d⟩:=h
 split at d
 ·rename_i hb
  simp only[Bool.and_eq_true] at hb
  cases d
  exact laidMet_of_run (ps:=x.2) fuel (by rw[hx]) (decide_eq_true (nodupBits_sound hb.1).1) hb.2
 ·cases d
open Go.ChangeShapes Go.WideShapes Go.ChangeAt Go.RowKit
theorem Tryz.tSpc:(Tryz.prog.globals[0]?).map (·.type)=some 256:=by kernel_rfl
theorem Tryz.cellsSpc:Tryz.prog.cellsOf 256=256:=by kernel_rfl
theorem Tryz.cells5:Tryz.prog.cellsOf 5=1:=by kernel_rfl
theorem Eh{H:Type}:(Rows.laid_strings_asciiSpace:DataW H)=Lib.tabData .u8 Lib.asciiSpaceTab:=by kernel_rfl
theorem Mk{H:Type}{enc:TypeId×Value→H}{w:World}{base:Nat}{sp:Nat→Bool}{held:Bool}{fuel:Nat}{cs:Array Value}{p:List MemPlace}(hv:w.var? Tryz.prog "strings.asciiSpace" = some cs)
  (h:DataW.trod enc Tryz.prog w base sp held fuel 256 cs.toList=some (Rows.laid_strings_asciiSpace,p)):Lib.TabIs Tryz.prog w "strings.asciiSpace" .u8 Lib.asciiSpaceTab:=by
 rw[Eh] at h
 have e:=Lib.cells_of_tab (zs:=Lib.asciiSpaceTab) Tryz.underlying256 Tryz.underlying5 Tryz.cells5 Tryz.cellsSpc h
 unfold Lib.TabIs
 rw[hv]
 congr 1
 obtain⟨l⟩:=cs
 have e':l=Lib.asciiSpaceTab.map fun z=>Value.int .u8 z:=e
 rw[e']
end Go.Proofs.YtpikejjiignchaaGreatDoor
namespace Go.Proofs.YtpikejjiignchaaGreatDoor.Tr
open Go.ChangeShapes Go.WideShapes Go.ChangeAt Go.RowKit
theorem own:ownKnob Tryz.prog.godebug=none:=by kernel_rfl
theorem Sm:laidOutB Tryz.prog=true:=by kernel_rfl
theorem Tryz.cellsOp:Tryz.prog.cellsOf 122=2:=by kernel_rfl
theorem Tryz.cells3:Tryz.prog.cellsOf 3=1:=by kernel_rfl
theorem Sg{H:Type}{enc:TypeId×Value→H}{W:World}{sp:Nat→Bool}{held:Bool}{fuel:Nat}{a:Option Addr}{len cap:Nat}{x:DataW H×List MemPlace}
  (h:DataW.trod enc Tryz.prog W 0 sp held fuel 66 [.slice a len cap]=some x):(∃ l,OpsAt W a len l)∧(a=none→len=0∧cap=0):=by
 rcases Deep.open_slice_pairs Tryz.underlying66 Tryz.underlying122 Tryz.cellsOp rfl rfl Tryz.cells3 Tryz.cells3 h with ⟨hcs,_⟩|⟨b,l,c,m,n,V0,V1,D0,D1,P0,P1,hcs,_,hl,_,hm,_,hel⟩
 ·simp at hcs
  obtain⟨rfl,rfl,rfl⟩:=hcs
  exact⟨⟨[],rfl,fun h=>absurd h (by omega)⟩,fun _=>⟨rfl,rfl⟩⟩
 ·simp at hcs
  obtain⟨rfl,rfl,rfl⟩:=hcs
  refine⟨?_,fun h=>by cases h⟩
  have hlm:len≤m:=by rw[hm];split <;> omega
  have each:∀ i,i<len→∃ q:Int×Int,W.cell? (b.add (i*2))=some (.int .i64 q.1)∧W.cell? (b.add (i*2+1))=some (.int .i64 q.2):=fun i hi=>by
   obtain⟨h1,h2,t1,t2⟩:=hel i (by omega)
   obtain⟨z1,e1,_,_⟩:=DataW.trod_int Tryz.underlying3 t1
   obtain⟨z2,e2,_,_⟩:=DataW.trod_int Tryz.underlying3 t2
   simp only[List.cons.injEq,and_true] at e1 e2
   exact⟨(z1,z2),by rw[h1,e1],by rw[h2,e2]⟩
  obtain⟨f,hf⟩:=Deep.choose_lt each
  refine⟨(List.range len).map f,by simp,fun hpos=>?_⟩
  obtain⟨bb,off,spot⟩:=b
  have hspot:spot=none:=by simpa[Addr.add] using World.cell?_spot (hf 0 hpos).1
  subst hspot
  refine⟨bb,off,rfl,fun i hi=>?_⟩
  have hadd:∀ j,(⟨bb,off,none⟩:Addr).add j=⟨bb,off+j,none⟩:=fun j=>by unfold Addr.add;split <;> simp_all
  have h1:=hf i hi
  rw[hadd,hadd] at h1
  rw[←Nat.add_assoc] at h1
  simpa[hi] using h1
theorem Tryz.cellsTx:Tryz.prog.cellsOf 52=3:=by kernel_rfl
theorem Tryz.cellsIn:Tryz.prog.cellsOf 124=3:=by kernel_rfl
theorem Tryz.cellsOut:Tryz.prog.cellsOf 101=2:=by kernel_rfl
theorem Tryz.cellsPoint:Tryz.prog.cellsOf 99=2:=by kernel_rfl
theorem Tryz.cellsOps:Tryz.prog.cellsOf 66=1:=by kernel_rfl
theorem Tryz.cellsIns:Tryz.prog.cellsOf 49=1:=by kernel_rfl
theorem Tryz.cellsOuts:Tryz.prog.cellsOf 50=1:=by kernel_rfl
theorem Sl{cs:List Value}(h:cs.length=2):∃ a b,cs=[a,b]:=by
 match cs,h with
 | [a,b],_=>exact⟨a,b,rfl⟩
theorem Jd{cs:List Value}(h:cs.length=3):∃ a b c,cs=[a,b,c]:=by
 match cs,h with
 | [a,b,c],_=>exact⟨a,b,c,rfl⟩
theorem Tryz.cellsBlk:Tryz.prog.cellsOf 68=5:=by kernel_rfl
theorem Tryz.cellsTree:Tryz.prog.cellsOf 28=2:=by kernel_rfl
theorem Tryz.cellsTxs:Tryz.prog.cellsOf 48=1:=by kernel_rfl
theorem Tryz.cellsBlks:Tryz.prog.cellsOf 26=1:=by kernel_rfl
theorem Tryz.cellsInts:Tryz.prog.cellsOf 25=1:=by kernel_rfl
theorem Ns{cs:List Value}(h:cs.length=5):∃ a b c d e,cs=[a,b,c,d,e]:=by
 match cs,h with
 | [a,b,c,d,e],_=>exact⟨a,b,c,d,e,rfl⟩
section
variable {H : Type} {enc : TypeId × Value → H} {W : World} {sp : Nat → Bool} {held : Bool} {fuel : Nat}
theorem J2{v:Value}{x:DataW H×List MemPlace}(h:DataW.trod enc Tryz.prog W 0 sp held fuel 66 [v]=some x):∃ a n c l,v = .slice a n c∧OpsAt W a n l∧SlOk a n c:=by
 have h':=h
 rcases Deep.open_slice Tryz.underlying66 h with ⟨hcs,_⟩|⟨b,l,c,m,n,D,Pl,hcs,_,hl,hm,_⟩
 ·simp at hcs
  subst hcs
  exact⟨none,0,0,[],rfl,⟨rfl,fun h=>absurd h (by omega)⟩,Nat.le_refl _,Nat.zero_le _,fun _=>⟨rfl,rfl⟩⟩
 ·simp at hcs
  subst hcs
  obtain⟨⟨L,hO⟩,_⟩:=Sg h'
  exact⟨some b,l,c,L,rfl,hO,hl,hm,fun h=>by cases h⟩
theorem Zcb{cs:List Value}{x:DataW H×List MemPlace}(h:DataW.trod enc Tryz.prog W 0 sp held fuel 124 cs=some x):∃ x1 x2 a n c l,cs=[.int .i64 x1,.int .i64 x2,.slice a n c]∧OpsAt W a n l∧SlOk a n c:=by
 obtain⟨y0,y1,k,_,hl,h0,h1⟩:=trod_struct2 Tryz.underlying124 h
 rw[Tryz.cellsIn] at hl
 obtain⟨c0,c1,c2,rfl⟩:=Jd hl
 simp[Tryz.cellsPoint,Tryz.cellsOps] at h0 h1
 obtain⟨z0,z1,k2,_,_,g0,g1⟩:=trod_struct2 Tryz.underlying99 h0
 simp[Tryz.cells3] at g0 g1
 obtain⟨x1,e1,_,_⟩:=DataW.trod_int Tryz.underlying3 g0
 obtain⟨x2,e2,_,_⟩:=DataW.trod_int Tryz.underlying3 g1
 obtain⟨a,n,c,l,rfl,hO,hS⟩:=J2 h1
 simp only[List.cons.injEq,and_true] at e1 e2
 subst e1 e2
 exact⟨x1,x2,a,n,c,l,rfl,hO,hS⟩
theorem Bo{cs:List Value}{x:DataW H×List MemPlace}(h:DataW.trod enc Tryz.prog W 0 sp held fuel 101 cs=some x):∃ x1 a n c l,cs=[.int .i64 x1,.slice a n c]∧OpsAt W a n l∧SlOk a n c:=by
 obtain⟨y0,y1,k,_,hl,h0,h1⟩:=trod_struct2 Tryz.underlying101 h
 rw[Tryz.cellsOut] at hl
 obtain⟨c0,c1,rfl⟩:=Sl hl
 simp[Tryz.cells3,Tryz.cellsOps] at h0 h1
 obtain⟨x1,e1,_,_⟩:=DataW.trod_int Tryz.underlying3 h0
 obtain⟨a,n,c,l,rfl,hO,hS⟩:=J2 h1
 simp only[List.cons.injEq,and_true] at e1
 subst e1
 exact⟨x1,a,n,c,l,rfl,hO,hS⟩
theorem Ri{α : Type}[Inhabited α](Z:Rec α){ts t:TypeId}(hu:Tryz.prog.underlying ts=some (.slice t))(hc:Tryz.prog.cellsOf t=Z.sz)(hpos:0<Z.sz)
  (hel:∀ (fuel:Nat) (cs:List Value) (x:DataW H×List MemPlace),DataW.trod enc Tryz.prog W 0 sp held fuel t cs=some x→∃ y,Z.C W cs y)
  {v:Value} {x:DataW H×List MemPlace} (h:DataW.trod enc Tryz.prog W 0 sp held fuel ts [v]=some x):∃ a n c l,v = .slice a n c∧RowsAt Z.R Z.sz W a n l∧SlOk a n c:=by
 rcases Deep.open_slice hu h with ⟨hcs,_⟩|⟨b,l,c,m,n,D,Pl,hcs,_,hl,hm,hmm,_,hee⟩
 ·simp at hcs
  subst hcs
  exact⟨none,0,0,[],rfl,RowsAt.nil _ _,Nat.le_refl _,Nat.zero_le _,fun _=>⟨rfl,rfl⟩⟩
 ·simp at hcs
  subst hcs
  have hlm:l≤m:=by rw[hmm];split <;> omega
  have each:∀ i,i<l→∃ q : α,∃ cs,(∀ j,j<Z.sz→W.cell? (b.add (i*Z.sz+j))=cs[j]?)∧Z.C W cs q:=fun i hi=>by
   obtain⟨cs',h1,h2⟩:=hee i (by omega)
   rw[hc] at h1
   obtain⟨_,_,hcell⟩:=World.cells?_some h1
   obtain⟨y,hy⟩:=hel _ _ _ h2
   exact⟨y,cs',fun j hj=>by rw[←hcell j hj,Deep.add_add],hy⟩
  obtain⟨f,hf⟩:=Deep.choose_lt each
  refine⟨some b,l,c,(List.range l).map f,rfl,⟨by simp,fun hpos2=>?_⟩,hl,hm,fun h=>by cases h⟩
  obtain⟨bb,off,spot⟩:=b
  have hadd:∀ j,(⟨bb,off,none⟩:Addr).add j=⟨bb,off+j,none⟩:=fun j=>by unfold Addr.add;split <;> simp_all
  obtain⟨cs0,hc0,hC0⟩:=hf 0 hpos2
  have hw0:=Z.wide _ _ _ hC0
  have z0:=hc0 0 hpos
  have e0:cs0[0]? = some (cs0[0]'(by omega)):=by simp[hw0,hpos]
  rw[e0] at z0
  have hspot:spot=none:=by simpa[Addr.add] using World.cell?_spot z0
  subst hspot
  refine⟨bb,off,rfl,by rw[hadd] at z0;exact World.block_lt_of_cell? _ _ z0,fun i hi=>?_⟩
  have hi':i<l:=by simpa using hi
  obtain⟨cs,hcs,hC⟩:=hf i hi'
  rw[List.getElem_map,List.getElem_range]
  refine Z.cr _ _ _ cs _ (fun j u hj=>?_) hC
  have hjl:j<Z.sz:=by rw[←Z.wide _ _ _ hC];exact (List.getElem?_eq_some_iff.1 hj).1
  have:=hcs j hjl
  rw[hadd,←Nat.add_assoc,hj] at this
  exact this
theorem Ziu{cs:List Value}{x:DataW H×List MemPlace}(h:DataW.trod enc Tryz.prog W 0 sp held fuel 52 cs=some x):∃ y,txR.C W cs y:=by
 obtain⟨y0,y1,y2,k,_,hl,h0,h1,h2⟩:=Deep.trod_struct3 Tryz.underlying52 h
 rw[Tryz.cellsTx] at hl
 obtain⟨c0,c1,c2,rfl⟩:=Jd hl
 simp[Tryz.cells3,Tryz.cellsIns,Tryz.cellsOuts] at h0 h1 h2
 obtain⟨hh,e0,_,_⟩:=DataW.trod_int Tryz.underlying3 h0
 obtain⟨ai,ni,ci,I,rfl,hI,sI⟩:=Ri inR Tryz.underlying49 Tryz.cellsIn (by decide) (fun _ _ _ q=>by
  obtain⟨x1,x2,a,n,c,l,rfl,hO,hS⟩:=Zcb q
  exact⟨(x1,x2,l),a,n,c,rfl,hO,hS⟩) h1
 obtain⟨ao,no,co,O,rfl,hO,sO⟩:=Ri outR Tryz.underlying50 Tryz.cellsOut (by decide) (fun _ _ _ q=>by
  obtain⟨x1,a,n,c,l,rfl,hO,hS⟩:=Bo q
  exact⟨(x1,l),a,n,c,rfl,hO,hS⟩) h2
 simp only[List.cons.injEq,and_true] at e0
 subst e0
 exact⟨(hh,I,O),ai,ni,ci,ao,no,co,rfl,hI,sI,hO,sO⟩
theorem Tx{t:TypeId}{f0 f1 f2 f3 f4:Field}{cs:List Value}{x:DataW H×List MemPlace}(ht:Tryz.prog.underlying t=some (.struct #[f0,f1,f2,f3,f4]))(h:DataW.trod enc Tryz.prog W 0 sp held fuel t cs=some x) :
  ∃ y0 y1 y2 y3 y4 n,cs.length=Tryz.prog.cellsOf t∧DataW.trod enc Tryz.prog W 0 sp held n f0.type ((cs.drop f0.offset).take (Tryz.prog.cellsOf f0.type))=some y0 ∧
   DataW.trod enc Tryz.prog W 0 sp held n f1.type ((cs.drop f1.offset).take (Tryz.prog.cellsOf f1.type))=some y1∧DataW.trod enc Tryz.prog W 0 sp held n f2.type ((cs.drop f2.offset).take (Tryz.prog.cellsOf f2.type))=some y2 ∧
   DataW.trod enc Tryz.prog W 0 sp held n f3.type ((cs.drop f3.offset).take (Tryz.prog.cellsOf f3.type))=some y3∧DataW.trod enc Tryz.prog W 0 sp held n f4.type ((cs.drop f4.offset).take (Tryz.prog.cellsOf f4.type))=some y4:=by
 obtain⟨xs,n,_,rfl,hl,hlen,hf⟩:=DataW.trod_struct ht h
 match xs,hlen with
 | [y0,y1,y2,y3,y4],_=>exact⟨y0,y1,y2,y3,y4,n,hl,by simpa using hf 0 f0 rfl,by simpa using hf 1 f1 rfl,by simpa using hf 2 f2 rfl,by simpa using hf 3 f3 rfl,by simpa using hf 4 f4 rfl⟩
theorem Zij{cs:List Value}{x:DataW H×List MemPlace}(h:DataW.trod enc Tryz.prog W 0 sp held fuel 68 cs=some x):∃ y,blkR.C W cs y:=by
 obtain⟨y0,y1,y2,y3,y4,k,hl,h0,h1,h2,h3,h4⟩:=Tx Tryz.underlying68 h
 rw[Tryz.cellsBlk] at hl
 obtain⟨c0,c1,c2,c3,c4,rfl⟩:=Ns hl
 simp[Tryz.cells3,Tryz.cellsTxs] at h0 h1 h2 h3 h4
 obtain⟨x0,e0,_,_⟩:=DataW.trod_int Tryz.underlying3 h0
 obtain⟨x1,e1,_,_⟩:=DataW.trod_int Tryz.underlying3 h1
 obtain⟨x2,e2,_,_⟩:=DataW.trod_int Tryz.underlying3 h2
 obtain⟨x3,e3,_,_⟩:=DataW.trod_int Tryz.underlying3 h3
 obtain⟨a,n,c,T,rfl,hT,sT⟩:=Ri txR Tryz.underlying48 Tryz.cellsTx (by decide) (fun _ _ _ q=>Ziu q) h4
 simp only[List.cons.injEq,and_true] at e0 e1 e2 e3
 subst e0 e1 e2 e3
 exact⟨(x0,x1,x2,x3,T),a,n,c,rfl,hT,sT⟩
theorem Zeb{v:Value}{x:DataW H×List MemPlace}(h:DataW.trod enc Tryz.prog W 0 sp held fuel 25 [v]=some x):∃ a n c l,v = .slice a n c∧IntsAt W a n l∧SlOk a n c:=by
 rcases open_ints Tryz.underlying25 Tryz.underlying3 (by kernel_rfl) h with ⟨hcs,_⟩|⟨b,l,c,zs,hcs,_,hl,hm,hz,_,hcell,_⟩
 ·simp at hcs
  subst hcs
  exact⟨none,0,0,[],rfl,IntsAt.nil _ _,Nat.le_refl _,Nat.zero_le _,fun _=>⟨rfl,rfl⟩⟩
 ·simp at hcs
  subst hcs
  have hlz:l≤zs.length:=by rw[hz];split <;> omega
  refine⟨some b,l,c,zs.take l,rfl,⟨by rw[List.length_take];omega,fun hpos=>?_⟩,hl,hm,fun h=>by cases h⟩
  obtain⟨bb,off,spot⟩:=b
  have z0:=hcell 0 (by omega)
  have hspot:spot=none:=by simpa[Addr.add] using World.cell?_spot z0
  subst hspot
  have hadd:∀ j,(⟨bb,off,none⟩:Addr).add j=⟨bb,off+j,none⟩:=fun j=>by unfold Addr.add;split <;> simp_all
  refine⟨bb,off,rfl,by rw[hadd] at z0;exact World.block_lt_of_cell? _ _ z0,fun i hi=>?_⟩
  rw[List.length_take] at hi
  have:=hcell i (by omega)
  rw[hadd] at this
  rw[this,List.getElem_take]
  simp[List.getD,(by omega:i<zs.length)]
theorem tree_full{cs:List Value}{x:DataW H×List MemPlace}(h:DataW.trod enc Tryz.prog W 0 sp held fuel 28 cs=some x):∃ a n c b m d N T,cs=[.slice a n c,.slice b m d]∧IntsAt W a n N∧SlOk a n c∧BlksAt W b m T∧SlOk b m d:=by
 obtain⟨y0,y1,k,_,hl,h0,h1⟩:=trod_struct2 Tryz.underlying28 h
 rw[Tryz.cellsTree] at hl
 obtain⟨c0,c1,rfl⟩:=Sl hl
 simp[Tryz.cellsInts,Tryz.cellsBlks] at h0 h1
 obtain⟨a,n,c,N,rfl,hN,sN⟩:=Zeb h0
 obtain⟨b,m,d,T,rfl,hT,sT⟩:=Ri blkR Tryz.underlying26 Tryz.cellsBlk (by decide) (fun _ _ _ q=>Zij q) h1
 exact⟨a,n,c,b,m,d,N,T,rfl,hN,sN,hT,sT⟩
end
end Go.Proofs.YtpikejjiignchaaGreatDoor.Tr
