import Derived.Deep.SlicePairs
import Derived.HandedShaped
import Derived.LaidMore
import Derived.Stop.Joined
import Derived.Test.YtmomfkikogbdeaaGreatDoorG38
open Go.Proofs.Tryz
open Go renaming TypeId->cF,DataW->cQ,MemPlace->bV
open Go.DataW renaming trod->aW,trod_int->aY
open Go.Ending renaming returned->dF
open Go.Proofs.Tryz renaming prog->aB,underlying48->cV,underlying3->aP
open Go.Value renaming slice->F
open Go.World renaming block_lt_of_cell?->aE
open List renaming getElem?_eq_getElem->aZ,getElem?_eq_some_iff->aX,length_take->bI,mem_append->bL,mem_cons->aO,map_cons->bY,mem_map->bN
open List.cons renaming injEq->bC
open Nat renaming le_refl->aF,zero_le->aI
namespace Go.Proofs.YtmomfkikogbdeaaGreatDoor
open Go.ChangeShapes Go.WideShapes Go.ChangeAt Go.RowKit
theorem own:ownKnob Tryz.prog.godebug=none:=by kernel_rfl
theorem G9:laidOutB aB=true:=by kernel_rfl
theorem Tryz.cellsOp:Tryz.prog.cellsOf 164=2:=by kernel_rfl
theorem Tryz.cells3:Tryz.prog.cellsOf 3=1:=by kernel_rfl
theorem Sf{H:Type}{enc:cF×Value->H}{W}{sp:Nat->Bool}{held:Bool}{fuel:Nat}{a len cap}{x:cQ H×List bV}
  (h:aW enc aB W 0 sp held fuel 48 [F a len cap]=some x):(∃ l,OpsAt W a len l)/\(a=none->len=0/\cap=0):=by
 rcases Deep.open_slice_pairs cV underlying164 Tryz.cellsOp rfl rfl Tryz.cells3 Tryz.cells3 h with ⟨aa,_⟩|⟨b,l,c,m,n,V0,V1,D0,D1,P0,P1,aa,_,hl,_,hm,_,ag⟩
 ·simp at aa;obtain⟨rfl,rfl,rfl⟩:=aa;exact⟨⟨[],rfl,λh=>absurd h (by omega)⟩,λ_=>⟨rfl,rfl⟩⟩
 ·simp at aa;obtain⟨rfl,rfl,rfl⟩:=aa;refine⟨?_,λh=>by cases h⟩;have bb:len<=m:=by rw[hm];split <;> omega
  have each:∀ i,i<len->∃ q:Int×Int,W.cell? (b.add (i*2))=some (.int .i64 q.1)/\W.cell? (b.add (i*2+1))=some (.int .i64 q.2):=λi hi=>by
   obtain⟨h1,h2,t1,t2⟩:=ag i (by omega);obtain⟨z1,e1,_,_⟩:=aY aP t1;obtain⟨z2,e2,_,_⟩:=aY aP t2;simp only[bC,and_true] at e1 e2;exact⟨(z1,z2),by rw[h1,e1],by rw[h2,e2]⟩
  obtain⟨f,hf⟩:=Deep.choose_lt each;refine⟨(List.range len).map f,by simp,λaj=>?_⟩;obtain⟨bd,off,am⟩:=b;have ak:am=none:=by simpa[Addr.add] using World.cell?_spot (hf 0 aj).1
  subst ak;refine⟨bd,off,rfl,λi hi=>?_⟩;have ae:∀ j,(⟨bd,off,none⟩:Addr).add j=⟨bd,off+j,none⟩:=λj=>by unfold Addr.add;split <;> simp_all
  have h1:=hf i hi;rw[ae,ae] at h1;rw[<-Nat.add_assoc] at h1;simpa[hi] using h1
theorem Tryz.cellsTx:Tryz.prog.cellsOf 59=3:=by kernel_rfl
theorem Tryz.cellsIn:Tryz.prog.cellsOf 119=3:=by kernel_rfl
theorem Tryz.cellsOut:Tryz.prog.cellsOf 122=2:=by kernel_rfl
theorem Tryz.cellsPoint:Tryz.prog.cellsOf 117=2:=by kernel_rfl
theorem Tryz.cellsOps:Tryz.prog.cellsOf 48=1:=by kernel_rfl
theorem Tryz.cellsIns:Tryz.prog.cellsOf 56=1:=by kernel_rfl
theorem Tryz.cellsOuts:Tryz.prog.cellsOf 57=1:=by kernel_rfl
theorem list_two{cs:List Value}(h:cs.length=2):∃ a b,cs=[a,b]:=by
 match cs,h with
 | [a,b],_=>exact⟨a,b,rfl⟩
theorem list_three{cs:List Value}(h:cs.length=3):∃ a b c,cs=[a,b,c]:=by
 match cs,h with
 | [a,b,c],_=>exact⟨a,b,c,rfl⟩
section
variable {H : Type} {enc : TypeId × Value -> H} {W : World} {sp : Nat -> Bool} {held : Bool} {fuel : Nat}
theorem ops_full{v}{x:cQ H×List bV}(h:aW enc aB W 0 sp held fuel 48 [v]=some x):∃ a n c l,v = F a n c/\OpsAt W a n l/\SlOk a n c:=by
 have h':=h
 rcases Deep.open_slice cV h with ⟨aa,_⟩|⟨b,l,c,m,n,D,Pl,aa,_,hl,hm,_⟩
 ·simp at aa;subst aa;exact⟨none,0,0,[],rfl,⟨rfl,λh=>absurd h (by omega)⟩,aF _,aI _,λ_=>⟨rfl,rfl⟩⟩
 ·simp at aa;subst aa;obtain⟨⟨L,hO⟩,_⟩:=Sf h';exact⟨some b,l,c,L,rfl,hO,hl,hm,λh=>by cases h⟩
theorem Zdz{cs}{x:cQ H×List bV}(h:aW enc aB W 0 sp held fuel 119 cs=some x):∃ x1 x2 a n c l,cs=[.int .i64 x1,.int .i64 x2,F a n c]/\OpsAt W a n l/\SlOk a n c:=by
 obtain⟨y0,y1,k,_,hl,h0,h1⟩:=trod_struct2 underlying119 h;rw[Tryz.cellsIn] at hl;obtain⟨c0,c1,c2,rfl⟩:=list_three hl;simp[Tryz.cellsPoint,Tryz.cellsOps] at h0 h1;obtain⟨z0,z1,k2,_,_,g0,g1⟩:=trod_struct2 underlying117 h0;simp[Tryz.cells3] at g0 g1;obtain⟨x1,e1,_,_⟩:=aY aP g0;obtain⟨x2,e2,_,_⟩:=aY aP g1;obtain⟨a,n,c,l,rfl,hO,hS⟩:=ops_full h1;simp only[bC,and_true] at e1 e2;subst e1 e2;exact⟨x1,x2,a,n,c,l,rfl,hO,hS⟩
theorem Bt{cs}{x:cQ H×List bV}(h:aW enc aB W 0 sp held fuel 122 cs=some x):∃ x1 a n c l,cs=[.int .i64 x1,F a n c]/\OpsAt W a n l/\SlOk a n c:=by
 obtain⟨y0,y1,k,_,hl,h0,h1⟩:=trod_struct2 underlying122 h;rw[Tryz.cellsOut] at hl;obtain⟨c0,c1,rfl⟩:=list_two hl;simp[Tryz.cells3,Tryz.cellsOps] at h0 h1;obtain⟨x1,e1,_,_⟩:=aY aP h0;obtain⟨a,n,c,l,rfl,hO,hS⟩:=ops_full h1;simp only[bC,and_true] at e1;subst e1;exact⟨x1,a,n,c,l,rfl,hO,hS⟩
end
namespace Bk
open Go.ChangeShapes Go.WideShapes Go.ChangeAt Go.RowKit
theorem own:ownKnob Tryz.prog.godebug=none:=by kernel_rfl
theorem G9:laidOutB aB=true:=by kernel_rfl
theorem Tryz.cells9:Tryz.prog.cellsOf 9=1:=by kernel_rfl
theorem Tryz.cellsStrs:Tryz.prog.cellsOf 22=1:=by kernel_rfl
theorem Tryz.cellsBook:Tryz.prog.cellsOf 24=1:=by kernel_rfl
section
variable {H : Type} {enc : TypeId × Value -> H} {W : World} {sp : Nat -> Bool} {held : Bool} {fuel : Nat}
theorem Zey{v}{x:cQ H×List bV}(h:aW enc aB W 0 sp held fuel 22 [v]=some x) :
  ∃ a n c L,v = F a n c/\TextsAt W a n L/\SlOk a n c/\(n=0\/∃ ac am,x.1 = .slice ac am/\ac.length=n):=by
 rcases Deep.open_strs underlying22 underlying9 Tryz.cells9 h with ⟨aa,_⟩|⟨b,l,c,m,Sx,aa,_,hl,hm,aj,hx,ad⟩
 ·simp at aa;subst aa;exact⟨none,0,0,[],rfl,TextsAt.nil _ _,SlOk.nil,Or.inl rfl⟩
 ·simp at aa;subst aa;have ar:l<=m:=by rw[aj];split <;> omega
  refine⟨some b,l,c,(List.range l).map Sx,rfl,⟨by simp,λau=>?_⟩,⟨hl,hm,λh=>by cases h⟩,Or.inr ⟨_,_,by rw[hx],by simp⟩⟩;obtain⟨bb,off,an⟩:=b;have z0:=(ad 0 (by omega)).1;have ak:an=none:=by simpa[Addr.add] using World.cell?_spot z0
  subst ak;have af:∀ j,(⟨bb,off,none⟩:Addr).add j=⟨bb,off+j,none⟩:=λj=>by unfold Addr.add;split <;> simp_all
  refine⟨bb,off,rfl,λi hi=>?_⟩;have aq:i<l:=by simpa using hi
  have q:=(ad i (by omega)).1;rw[af] at q;rw[List.getElem_map,List.getElem_range];exact q
theorem book_full{cs}{x:cQ H×List bV}(h:aW enc aB W 0 sp held fuel 24 cs=some x):∃ a n c L,cs=[F a n c]/\TextsAt W a n L/\SlOk a n c:=by
 obtain⟨y0,k,_,hl,h0⟩:=trod_struct1 underlying24 h;rw[Tryz.cellsBook] at hl;obtain⟨c0,rfl⟩:=List.length_eq_one_iff.1 hl;simp[Tryz.cellsStrs] at h0;obtain⟨a,n,c,L,rfl,hT,hS,_⟩:=Zey h0;exact⟨a,n,c,L,rfl,hT,hS⟩
end
end Bk
open Go.ChangeShapes Go.WideShapes Go.ChangeAt Go.RowKit
theorem Tryz.cellsBlk:Tryz.prog.cellsOf 39=5:=by kernel_rfl
theorem Tryz.cellsTxs:Tryz.prog.cellsOf 37=1:=by kernel_rfl
theorem list_five{cs:List Value}(h:cs.length=5):∃ a b c d e,cs=[a,b,c,d,e]:=by
 match cs,h with
 | [a,b,c,d,e],_=>exact⟨a,b,c,d,e,rfl⟩
section
variable {H : Type} {enc : TypeId × Value -> H} {W : World} {sp : Nat -> Bool} {held : Bool} {fuel : Nat}
theorem Tz{t:cF}{f0 f1 f2 f3 f4:Field}{cs:List Value}{x:cQ H×List bV}(ht:Tryz.prog.underlying t=some (.struct #[f0,f1,f2,f3,f4]))(h:aW enc aB W 0 sp held fuel t cs=some x) :
  ∃ y0 y1 y2 y3 y4 n,cs.length=Tryz.prog.cellsOf t/\aW enc aB W 0 sp held n f0.type ((cs.drop f0.offset).take (Tryz.prog.cellsOf f0.type))=some y0 /\
   aW enc aB W 0 sp held n f1.type ((cs.drop f1.offset).take (Tryz.prog.cellsOf f1.type))=some y1/\aW enc aB W 0 sp held n f2.type ((cs.drop f2.offset).take (Tryz.prog.cellsOf f2.type))=some y2 /\
   aW enc aB W 0 sp held n f3.type ((cs.drop f3.offset).take (Tryz.prog.cellsOf f3.type))=some y3/\aW enc aB W 0 sp held n f4.type ((cs.drop f4.offset).take (Tryz.prog.cellsOf f4.type))=some y4:=by
 obtain⟨xs,n,_,rfl,hl,ap,hf⟩:=DataW.trod_struct ht h
 match xs,ap with
 | [y0,y1,y2,y3,y4],_=>exact⟨y0,y1,y2,y3,y4,n,hl,by simpa using hf 0 f0 rfl,by simpa using hf 1 f1 rfl,by simpa using hf 2 f2 rfl,by simpa using hf 3 f3 rfl,by simpa using hf 4 f4 rfl⟩
end
set_option maxRecDepth 100000 in
theorem Fr{H:Type}{enc:cF×Value->H}{os:Os}{f:FuncId}{fn:Func}{s:ChangeSpec}{X:World->Prop}(hX:∀ w w':World,w.heap=w'.heap->X w->X w')
  (au:os.Started) (ar:Tryz.checked.prog.inits.idxOf? f=none) (aj:Tryz.checked.prog.funcs[f]? = some fn)
  (av:∃ (w:World) (tape:Tape) (i:Input),w.os=os/\(w.forCall tape i).Shaped Tryz.checked.prog/\i.vars=[]/\Input.okWide Tryz.checked.prog (w.forCall tape i) .any w.heap.size f i /\
   ((s.pre enc Tryz.checked.prog fn [] false (w.forCall tape i).memory i.args/\X (w.forCall tape i).memory)/\sizedMet enc Tryz.checked.prog fn (OpenSpec.ofChange s) false (w.forCall tape i).memory i.args)/\({}:Assume).holds Tryz.checked.prog (lone (Frame.enter Tryz.checked.prog f i.args .normal) [] (w.forCall tape i)))
  (ae:∀ (W:World) (base:Nat) (args:Array Value) (ds gs:List (cQ H)) (ac:List bV),
   (∀ (j:Nat) t v,fn.params[j]? = some t->args[j]? = some v->Value.okWide Tryz.checked.prog W .any base t v) ->
   DataW.Whole enc Tryz.checked.prog fn.params.toList s.vars false W args.toList ds gs ac->X W->(DataW.weightsEach Tryz.checked.prog (fn.params.toList++s.plain.varTypes Tryz.checked.prog) (ds++gs)).all (·<=reachBytes)=true ->
   Calls Tryz.checked.prog f args W λe W'=>∃ v,e = dF v/\s.post enc Tryz.checked.prog fn false true false false W args v W') :
  ReturnsInHanded {} Tryz.checked os f .any (λw args=>(s.pre enc Tryz.checked.prog fn [] false w args/\X w)/\sizedMet enc Tryz.checked.prog fn (OpenSpec.ofChange s) false w args) (s.post enc Tryz.checked.prog fn false true false false):=by
 refine returnsInHanded_of_calls own au ar av ?_;intro w tape i _ _ _ am an _;obtain⟨_,_,_,af,ak,_,_,_,_,ap⟩:=am;obtain rfl:af=fn:=Option.some.inj (ak.symm.trans aj);obtain⟨⟨⟨ds,gs,ac,hw,_⟩,hx⟩,hz⟩:=an;refine (ae (w.forCall tape i) w.heap.size i.args ds gs ac ap (DataW.Whole.of_heap (w':=w.forCall tape i) (by rfl) hw) (hX _ _ (by rfl) hx) (hz.weights hw)).mono λe W' ⟨v,he,hp⟩=>?_;subst he;exact ChangeSpec.post_blind hp
namespace Lf
open Go.ChangeShapes Go.WideShapes Go.ChangeAt Go.RowKit
theorem own:ownKnob Tryz.prog.godebug=none:=by kernel_rfl
theorem G9:laidOutB aB=true:=by kernel_rfl
theorem Dy{H:Type}{enc:cF×Value->H}{w}{base:Nat}{sp:Nat->Bool}{held:Bool}{fuel:Nat}{t:cF}{n:Nat}{cs}{ss:List (List UInt8)}{p}
  (ht:Tryz.prog.underlying t=some (.array n 9)) (ae:Tryz.prog.cellsOf t=n) (h9:Tryz.prog.cellsOf 9=1)
  (h:aW enc aB w base sp held fuel t cs=some (.agg (ss.map λb=>.lit (.string b)),p)):cs=ss.map λb=>Value.string ⟨b.toArray⟩:=by
 obtain⟨xs,m,rfl,hx,hl,hn,af⟩:=DataW.trod_array ht h;rw[ae] at hl;simp only[Prod.mk.injEq,DataW.agg.injEq] at hx
 have am:ss.length=n:=by
  have:=congrArg List.length hx.1;simp at this;omega
 apply List.ext_getElem?
 intro i;by_cases hi:i<n
 ·have aa:=af i hi;rw[h9,Nat.mul_one] at aa;have ac:i<xs.length:=by omega
  rw[aZ ac] at aa;obtain⟨s,hc,hy,_⟩:=DataW.trod_string underlying9 aa
  have h1:cs[i]? = some (.string s):=by
   have:=congrArg (·[0]?) hc;simpa[List.getElem?_take,List.getElem?_drop] using this
  have h2:(xs.map (·.1))[i]? = some (.lit (.string s.data.toList)):=by
   rw[List.getElem?_map,aZ ac,hy];rfl
  rw[<-hx.1] at h2;have ab:i<ss.length:=by omega
  simp only[List.getElem?_map,aZ ab,Option.map_some,Option.some.injEq,DataW.lit.injEq,Lit.string.injEq] at h2;rw[h1,List.getElem?_map,aZ ab,h2];rfl
 ·rw[List.getElem?_eq_none (by omega),List.getElem?_eq_none (by simp;omega)]
def namesBytes:List (List UInt8):=namesL.map (·.data.toList)
theorem Tryz.tNam:(Tryz.prog.globals[1]?).map (·.type)=some 378:=by kernel_rfl
theorem Tryz.tTab:(Tryz.prog.globals[2]?).map (·.type)=some 381:=by kernel_rfl
theorem Tryz.cellsNam:Tryz.prog.cellsOf 378=14:=by kernel_rfl
theorem Tryz.cellsTab:Tryz.prog.cellsOf 381=20:=by kernel_rfl
theorem Tryz.cells9:Tryz.prog.cellsOf 9=1:=by kernel_rfl
theorem Tryz.cellsU64:Tryz.prog.cellsOf 284=1:=by kernel_rfl
theorem names_of_laid{H:Type}{enc:cF×Value->H}{w:World}{base:Nat}{sp:Nat->Bool}{held:Bool}{fuel:Nat}{cs:Array Value}{p}(hv:w.var? aB "cairn/lock.names" = some cs)
  (h:aW enc aB w base sp held fuel 378 cs.toList=some (Rows.laid_cairn_lock_names,p)):w.var? aB "cairn/lock.names" = some Zbk:=by
 have e:=Dy (ss:=namesBytes) underlying378 Tryz.cellsNam Tryz.cells9 h;rw[hv]
 congr 1
 obtain⟨l⟩:=cs;have e':l=namesBytes.map λb=>Value.string ⟨b.toArray⟩:=e;rw[e'];rfl
theorem tab_of_laid{H:Type}{enc:cF×Value->H}{w:World}{base:Nat}{sp:Nat->Bool}{held:Bool}{fuel:Nat}{cs:Array Value}{p}(hv:w.var? aB "internal/strconv.uint64pow10" = some cs)
  (h:aW enc aB w base sp held fuel 381 cs.toList=some (Rows.laid_internal_strconv_uint64pow10,p)):Lib.TabIs aB w "internal/strconv.uint64pow10" .u64 Lib.pow10Tab:=by
 have e:=Lib.cells_of_tab (zs:=Lib.pow10Tab) underlying381 underlying284 Tryz.cellsU64 Tryz.cellsTab h;unfold Lib.TabIs;rw[hv]
 congr 1
 obtain⟨l⟩:=cs;have e':l=Lib.pow10Tab.map λz=>Value.int .u64 z:=e;rw[e']
theorem Tryz.cellsOp:Tryz.prog.cellsOf 164=2:=by kernel_rfl
theorem Tryz.cells3:Tryz.prog.cellsOf 3=1:=by kernel_rfl
theorem Sf{H:Type}{enc:cF×Value->H}{W}{sp:Nat->Bool}{held:Bool}{fuel:Nat}{a len cap}{x:cQ H×List bV}
  (h:aW enc aB W 0 sp held fuel 48 [F a len cap]=some x):(∃ l,OpsAt W a len l)/\(a=none->len=0/\cap=0):=by
 rcases Deep.open_slice_pairs cV underlying164 Tryz.cellsOp rfl rfl Tryz.cells3 Tryz.cells3 h with ⟨aa,_⟩|⟨b,l,c,m,n,V0,V1,D0,D1,P0,P1,aa,_,hl,_,hm,_,ag⟩
 ·simp at aa;obtain⟨rfl,rfl,rfl⟩:=aa;exact⟨⟨[],rfl,λh=>absurd h (by omega)⟩,λ_=>⟨rfl,rfl⟩⟩
 ·simp at aa;obtain⟨rfl,rfl,rfl⟩:=aa;refine⟨?_,λh=>by cases h⟩;have bb:len<=m:=by rw[hm];split <;> omega
  have each:∀ i,i<len->∃ q:Int×Int,W.cell? (b.add (i*2))=some (.int .i64 q.1)/\W.cell? (b.add (i*2+1))=some (.int .i64 q.2):=λi hi=>by
   obtain⟨h1,h2,t1,t2⟩:=ag i (by omega);obtain⟨z1,e1,_,_⟩:=aY aP t1;obtain⟨z2,e2,_,_⟩:=aY aP t2;simp only[bC,and_true] at e1 e2;exact⟨(z1,z2),by rw[h1,e1],by rw[h2,e2]⟩
  obtain⟨f,hf⟩:=Deep.choose_lt each;refine⟨(List.range len).map f,by simp,λaj=>?_⟩;obtain⟨bd,off,am⟩:=b;have ak:am=none:=by simpa[Addr.add] using World.cell?_spot (hf 0 aj).1
  subst ak;refine⟨bd,off,rfl,λi hi=>?_⟩;have ae:∀ j,(⟨bd,off,none⟩:Addr).add j=⟨bd,off+j,none⟩:=λj=>by unfold Addr.add;split <;> simp_all
  have h1:=hf i hi;rw[ae,ae] at h1;rw[<-Nat.add_assoc] at h1;simpa[hi] using h1
end Go.Proofs.YtmomfkikogbdeaaGreatDoor.Lf
namespace Go.Proofs.YtmomfkikogbdeaaGreatDoor.Tr
open Go.ChangeShapes Go.WideShapes Go.ChangeAt Go.RowKit
theorem own:ownKnob Tryz.prog.godebug=none:=by kernel_rfl
theorem G9:laidOutB aB=true:=by kernel_rfl
theorem Tryz.cellsOp:Tryz.prog.cellsOf 164=2:=by kernel_rfl
theorem Tryz.cells3:Tryz.prog.cellsOf 3=1:=by kernel_rfl
theorem Sf{H:Type}{enc:cF×Value->H}{W}{sp:Nat->Bool}{held:Bool}{fuel:Nat}{a len cap}{x:cQ H×List bV}
  (h:aW enc aB W 0 sp held fuel 48 [F a len cap]=some x):(∃ l,OpsAt W a len l)/\(a=none->len=0/\cap=0):=by
 rcases Deep.open_slice_pairs cV underlying164 Tryz.cellsOp rfl rfl Tryz.cells3 Tryz.cells3 h with ⟨aa,_⟩|⟨b,l,c,m,n,V0,V1,D0,D1,P0,P1,aa,_,hl,_,hm,_,ag⟩
 ·simp at aa;obtain⟨rfl,rfl,rfl⟩:=aa;exact⟨⟨[],rfl,λh=>absurd h (by omega)⟩,λ_=>⟨rfl,rfl⟩⟩
 ·simp at aa;obtain⟨rfl,rfl,rfl⟩:=aa;refine⟨?_,λh=>by cases h⟩;have bb:len<=m:=by rw[hm];split <;> omega
  have each:∀ i,i<len->∃ q:Int×Int,W.cell? (b.add (i*2))=some (.int .i64 q.1)/\W.cell? (b.add (i*2+1))=some (.int .i64 q.2):=λi hi=>by
   obtain⟨h1,h2,t1,t2⟩:=ag i (by omega);obtain⟨z1,e1,_,_⟩:=aY aP t1;obtain⟨z2,e2,_,_⟩:=aY aP t2;simp only[bC,and_true] at e1 e2;exact⟨(z1,z2),by rw[h1,e1],by rw[h2,e2]⟩
  obtain⟨f,hf⟩:=Deep.choose_lt each;refine⟨(List.range len).map f,by simp,λaj=>?_⟩;obtain⟨bd,off,am⟩:=b;have ak:am=none:=by simpa[Addr.add] using World.cell?_spot (hf 0 aj).1
  subst ak;refine⟨bd,off,rfl,λi hi=>?_⟩;have ae:∀ j,(⟨bd,off,none⟩:Addr).add j=⟨bd,off+j,none⟩:=λj=>by unfold Addr.add;split <;> simp_all
  have h1:=hf i hi;rw[ae,ae] at h1;rw[<-Nat.add_assoc] at h1;simpa[hi] using h1
theorem Tryz.cellsTx:Tryz.prog.cellsOf 59=3:=by kernel_rfl
theorem Tryz.cellsIn:Tryz.prog.cellsOf 119=3:=by kernel_rfl
theorem Tryz.cellsOut:Tryz.prog.cellsOf 122=2:=by kernel_rfl
theorem Tryz.cellsPoint:Tryz.prog.cellsOf 117=2:=by kernel_rfl
theorem Tryz.cellsOps:Tryz.prog.cellsOf 48=1:=by kernel_rfl
theorem Tryz.cellsIns:Tryz.prog.cellsOf 56=1:=by kernel_rfl
theorem Tryz.cellsOuts:Tryz.prog.cellsOf 57=1:=by kernel_rfl
theorem list_two{cs:List Value}(h:cs.length=2):∃ a b,cs=[a,b]:=by
 match cs,h with
 | [a,b],_=>exact⟨a,b,rfl⟩
theorem list_three{cs:List Value}(h:cs.length=3):∃ a b c,cs=[a,b,c]:=by
 match cs,h with
 | [a,b,c],_=>exact⟨a,b,c,rfl⟩
theorem Tryz.cellsBlk:Tryz.prog.cellsOf 39=5:=by kernel_rfl
theorem Tryz.cellsTree:Tryz.prog.cellsOf 28=2:=by kernel_rfl
theorem Tryz.cellsTxs:Tryz.prog.cellsOf 37=1:=by kernel_rfl
theorem Tryz.cellsBlks:Tryz.prog.cellsOf 26=1:=by kernel_rfl
theorem Tryz.cellsInts:Tryz.prog.cellsOf 25=1:=by kernel_rfl
theorem list_five{cs:List Value}(h:cs.length=5):∃ a b c d e,cs=[a,b,c,d,e]:=by
 match cs,h with
 | [a,b,c,d,e],_=>exact⟨a,b,c,d,e,rfl⟩
section
variable {H : Type} {enc : TypeId × Value -> H} {W : World} {sp : Nat -> Bool} {held : Bool} {fuel : Nat}
theorem ops_full{v}{x:cQ H×List bV}(h:aW enc aB W 0 sp held fuel 48 [v]=some x):∃ a n c l,v = F a n c/\OpsAt W a n l/\SlOk a n c:=by
 have h':=h
 rcases Deep.open_slice cV h with ⟨aa,_⟩|⟨b,l,c,m,n,D,Pl,aa,_,hl,hm,_⟩
 ·simp at aa;subst aa;exact⟨none,0,0,[],rfl,⟨rfl,λh=>absurd h (by omega)⟩,aF _,aI _,λ_=>⟨rfl,rfl⟩⟩
 ·simp at aa;subst aa;obtain⟨⟨L,hO⟩,_⟩:=Sf h';exact⟨some b,l,c,L,rfl,hO,hl,hm,λh=>by cases h⟩
theorem Zdz{cs}{x:cQ H×List bV}(h:aW enc aB W 0 sp held fuel 119 cs=some x):∃ x1 x2 a n c l,cs=[.int .i64 x1,.int .i64 x2,F a n c]/\OpsAt W a n l/\SlOk a n c:=by
 obtain⟨y0,y1,k,_,hl,h0,h1⟩:=trod_struct2 underlying119 h;rw[Tryz.cellsIn] at hl;obtain⟨c0,c1,c2,rfl⟩:=list_three hl;simp[Tryz.cellsPoint,Tryz.cellsOps] at h0 h1;obtain⟨z0,z1,k2,_,_,g0,g1⟩:=trod_struct2 underlying117 h0;simp[Tryz.cells3] at g0 g1;obtain⟨x1,e1,_,_⟩:=aY aP g0;obtain⟨x2,e2,_,_⟩:=aY aP g1;obtain⟨a,n,c,l,rfl,hO,hS⟩:=ops_full h1;simp only[bC,and_true] at e1 e2;subst e1 e2;exact⟨x1,x2,a,n,c,l,rfl,hO,hS⟩
theorem Bt{cs}{x:cQ H×List bV}(h:aW enc aB W 0 sp held fuel 122 cs=some x):∃ x1 a n c l,cs=[.int .i64 x1,F a n c]/\OpsAt W a n l/\SlOk a n c:=by
 obtain⟨y0,y1,k,_,hl,h0,h1⟩:=trod_struct2 underlying122 h;rw[Tryz.cellsOut] at hl;obtain⟨c0,c1,rfl⟩:=list_two hl;simp[Tryz.cells3,Tryz.cellsOps] at h0 h1;obtain⟨x1,e1,_,_⟩:=aY aP h0;obtain⟨a,n,c,l,rfl,hO,hS⟩:=ops_full h1;simp only[bC,and_true] at e1;subst e1;exact⟨x1,a,n,c,l,rfl,hO,hS⟩
theorem J9{α : Type}[Inhabited α](Z:Rec α){ts t:cF}(hu:Tryz.prog.underlying ts=some (.slice t))(hc:Tryz.prog.cellsOf t=Z.sz)(aj:0<Z.sz)
  (aw:∀ (fuel:Nat) (cs:List Value) (x:cQ H×List bV),aW enc aB W 0 sp held fuel t cs=some x->∃ y,Z.C W cs y)
  {v} {x:cQ H×List bV} (h:aW enc aB W 0 sp held fuel ts [v]=some x):∃ a n c l,v = F a n c/\RowsAt Z.R Z.sz W a n l/\SlOk a n c:=by
 rcases Deep.open_slice hu h with ⟨aa,_⟩|⟨b,l,c,m,n,D,Pl,aa,_,hl,hm,bd,_,av⟩
 ·simp at aa;subst aa;exact⟨none,0,0,[],rfl,RowsAt.nil _ _,aF _,aI _,λ_=>⟨rfl,rfl⟩⟩
 ·simp at aa;subst aa;have bo:l<=m:=by rw[bd];split <;> omega
  have each:∀ i,i<l->∃ q : α,∃ cs,(∀ j,j<Z.sz->W.cell? (b.add (i*Z.sz+j))=cs[j]?)/\Z.C W cs q:=λi hi=>by
   obtain⟨am,h1,h2⟩:=av i (by omega);rw[hc] at h1;obtain⟨_,_,au⟩:=World.cells?_some h1;obtain⟨y,hy⟩:=aw _ _ _ h2;exact⟨y,am,λj hj=>by rw[<-au j hj,Deep.add_add],hy⟩
  obtain⟨f,hf⟩:=Deep.choose_lt each;refine⟨some b,l,c,(List.range l).map f,rfl,⟨by simp,λbe=>?_⟩,hl,hm,λh=>by cases h⟩;obtain⟨bb,off,bj⟩:=b;have ag:∀ j,(⟨bb,off,none⟩:Addr).add j=⟨bb,off+j,none⟩:=λj=>by unfold Addr.add;split <;> simp_all
  obtain⟨ae,ar,ap⟩:=hf 0 be;have bh:=Z.wide _ _ _ ap;have z0:=ar 0 aj;have e0:ae[0]? = some (ae[0]'(by omega)):=by simp[bh,aj]
  rw[e0] at z0;have bf:bj=none:=by simpa[Addr.add] using World.cell?_spot z0
  subst bf;refine⟨bb,off,rfl,by rw[ag] at z0;exact aE _ _ z0,λi hi=>?_⟩;have ax:i<l:=by simpa using hi
  obtain⟨cs,aa,hC⟩:=hf i ax;rw[List.getElem_map,List.getElem_range];refine Z.cr _ _ _ cs _ (λj u hj=>?_) hC;have ay:j<Z.sz:=by rw[<-Z.wide _ _ _ hC];exact (aX.1 hj).1
  have:=aa j ay;rw[ag,<-Nat.add_assoc,hj] at this;exact this
theorem Zml{cs}{x:cQ H×List bV}(h:aW enc aB W 0 sp held fuel 59 cs=some x):∃ y,txR.C W cs y:=by
 obtain⟨y0,y1,y2,k,_,hl,h0,h1,h2⟩:=Deep.trod_struct3 underlying59 h;rw[Tryz.cellsTx] at hl;obtain⟨c0,c1,c2,rfl⟩:=list_three hl;simp[Tryz.cells3,Tryz.cellsIns,Tryz.cellsOuts] at h0 h1 h2;obtain⟨hh,e0,_,_⟩:=aY aP h0
 obtain⟨ai,ni,ci,I,rfl,hI,sI⟩:=J9 inR underlying56 Tryz.cellsIn (by decide) (λ_ _ _ q=>by
  obtain⟨x1,x2,a,n,c,l,rfl,hO,hS⟩:=Zdz q;exact⟨(x1,x2,l),a,n,c,rfl,hO,hS⟩) h1
 obtain⟨ao,no,co,O,rfl,hO,sO⟩:=J9 outR underlying57 Tryz.cellsOut (by decide) (λ_ _ _ q=>by
  obtain⟨x1,a,n,c,l,rfl,hO,hS⟩:=Bt q;exact⟨(x1,l),a,n,c,rfl,hO,hS⟩) h2
 simp only[bC,and_true] at e0;subst e0;exact⟨(hh,I,O),ai,ni,ci,ao,no,co,rfl,hI,sI,hO,sO⟩
theorem Tz{t:cF}{f0 f1 f2 f3 f4:Field}{cs:List Value}{x:cQ H×List bV}(ht:Tryz.prog.underlying t=some (.struct #[f0,f1,f2,f3,f4]))(h:aW enc aB W 0 sp held fuel t cs=some x) :
  ∃ y0 y1 y2 y3 y4 n,cs.length=Tryz.prog.cellsOf t/\aW enc aB W 0 sp held n f0.type ((cs.drop f0.offset).take (Tryz.prog.cellsOf f0.type))=some y0 /\
   aW enc aB W 0 sp held n f1.type ((cs.drop f1.offset).take (Tryz.prog.cellsOf f1.type))=some y1/\aW enc aB W 0 sp held n f2.type ((cs.drop f2.offset).take (Tryz.prog.cellsOf f2.type))=some y2 /\
   aW enc aB W 0 sp held n f3.type ((cs.drop f3.offset).take (Tryz.prog.cellsOf f3.type))=some y3/\aW enc aB W 0 sp held n f4.type ((cs.drop f4.offset).take (Tryz.prog.cellsOf f4.type))=some y4:=by
 obtain⟨xs,n,_,rfl,hl,ap,hf⟩:=DataW.trod_struct ht h
 match xs,ap with
 | [y0,y1,y2,y3,y4],_=>exact⟨y0,y1,y2,y3,y4,n,hl,by simpa using hf 0 f0 rfl,by simpa using hf 1 f1 rfl,by simpa using hf 2 f2 rfl,by simpa using hf 3 f3 rfl,by simpa using hf 4 f4 rfl⟩
theorem Zlr{cs}{x:cQ H×List bV}(h:aW enc aB W 0 sp held fuel 39 cs=some x):∃ y,blkR.C W cs y:=by
 obtain⟨y0,y1,y2,y3,y4,k,hl,h0,h1,h2,h3,h4⟩:=Tz underlying39 h;rw[Tryz.cellsBlk] at hl;obtain⟨c0,c1,c2,c3,c4,rfl⟩:=list_five hl;simp[Tryz.cells3,Tryz.cellsTxs] at h0 h1 h2 h3 h4;obtain⟨x0,e0,_,_⟩:=aY aP h0;obtain⟨x1,e1,_,_⟩:=aY aP h1;obtain⟨x2,e2,_,_⟩:=aY aP h2;obtain⟨x3,e3,_,_⟩:=aY aP h3;obtain⟨a,n,c,T,rfl,hT,sT⟩:=J9 txR underlying37 Tryz.cellsTx (by decide) (λ_ _ _ q=>Zml q) h4;simp only[bC,and_true] at e0 e1 e2 e3;subst e0 e1 e2 e3;exact⟨(x0,x1,x2,x3,T),a,n,c,rfl,hT,sT⟩
theorem Zgn{v}{x:cQ H×List bV}(h:aW enc aB W 0 sp held fuel 25 [v]=some x):∃ a n c l,v = F a n c/\IntsAt W a n l/\SlOk a n c:=by
 rcases open_ints underlying25 aP (by kernel_rfl) h with ⟨aa,_⟩|⟨b,l,c,zs,aa,_,hl,hm,hz,_,ae,_⟩
 ·simp at aa;subst aa;exact⟨none,0,0,[],rfl,IntsAt.nil _ _,aF _,aI _,λ_=>⟨rfl,rfl⟩⟩
 ·simp at aa;subst aa;have am:l<=zs.length:=by rw[hz];split <;> omega
  refine⟨some b,l,c,zs.take l,rfl,⟨by rw[bI];omega,λan=>?_⟩,hl,hm,λh=>by cases h⟩;obtain⟨bb,off,ak⟩:=b;have z0:=ae 0 (by omega);have ah:ak=none:=by simpa[Addr.add] using World.cell?_spot z0
  subst ah;have ad:∀ j,(⟨bb,off,none⟩:Addr).add j=⟨bb,off+j,none⟩:=λj=>by unfold Addr.add;split <;> simp_all
  refine⟨bb,off,rfl,by rw[ad] at z0;exact aE _ _ z0,λi hi=>?_⟩;rw[bI] at hi;have:=ae i (by omega);rw[ad] at this;rw[this,List.getElem_take];simp[List.getD,(by omega:i<zs.length)]
theorem tree_full{cs}{x:cQ H×List bV}(h:aW enc aB W 0 sp held fuel 28 cs=some x):∃ a n c b m d N T,cs=[F a n c,F b m d]/\IntsAt W a n N/\SlOk a n c/\BlksAt W b m T/\SlOk b m d:=by
 obtain⟨y0,y1,k,_,hl,h0,h1⟩:=trod_struct2 underlying28 h;rw[Tryz.cellsTree] at hl;obtain⟨c0,c1,rfl⟩:=list_two hl;simp[Tryz.cellsInts,Tryz.cellsBlks] at h0 h1;obtain⟨a,n,c,N,rfl,hN,sN⟩:=Zgn h0;obtain⟨b,m,d,T,rfl,hT,sT⟩:=J9 blkR underlying26 Tryz.cellsBlk (by decide) (λ_ _ _ q=>Zlr q) h1;exact⟨a,n,c,b,m,d,N,T,rfl,hN,sN,hT,sT⟩
end
end Tr
open Go.ChangeShapes Go.WideShapes Go.ChangeAt Go.RowKit
theorem Tryz.bytesOp:Tryz.prog.bytesOf 164=16:=by kernel_rfl
theorem Zft{H:Type}{enc:cF×Value->H}{W}{sp:Nat->Bool}{held:Bool}{fuel:Nat}{v}{x:cQ H×List bV}(h:aW enc aB W 0 sp held fuel 48 [v]=some x) :
  ∃ a n c l,v = F a n c/\OpsAt W a n l/\SlOk a n c/\(n=0\/∃ ac af,x.1 = .slice ac af/\ac.length=n):=by
 obtain⟨a,n,c,l,hv,hO,hs⟩:=Tr.ops_full h;refine⟨a,n,c,l,hv,hO,hs,?_⟩
 rcases Deep.open_slice cV h with ⟨aa,_⟩|⟨b,l,c,m,k,D,Pl,aa,_,hl,hm,_,hx,_⟩
 ·simp at aa;rw[hv] at aa;injection aa with _ e _;exact .inl e
 ·simp at aa;rw[hv] at aa;injection aa with _ e _;subst e;exact .inr ⟨_,_,by rw[hx],by simp⟩
open Go.ChangeShapes Go.WideShapes Go.ChangeAt Go.RowKit
def Fits{H:Type}(t:cF)(d:cQ H):Prop:=∀ x∈d.weights aB t,x<=reachBytes
theorem Tryz.bytesIn:Tryz.prog.bytesOf 119=40:=by kernel_rfl
theorem Tryz.bytesOut:Tryz.prog.bytesOf 122=32:=by kernel_rfl
theorem Tryz.bytesTx:Tryz.prog.bytesOf 59=56:=by kernel_rfl
theorem Tryz.cellsNode:Tryz.prog.cellsOf 67=4:=by kernel_rfl
theorem Zgj{cs:List Value}(h:cs.length=4):∃ a b c d,cs=[a,b,c,d]:=by
 match cs,h with
 | [a,b,c,d],_=>exact⟨a,b,c,d,rfl⟩
section
variable {H : Type} {enc : TypeId × Value -> H} {W : World} {sp : Nat -> Bool} {held : Bool} {fuel : Nat}
theorem Zel{e:cF}:∀ {ds:List (cQ H)} {d:cQ H},d∈ds->∀ x∈d.weights aB e,x∈DataW.weightsAll aB e ds
 | d0 :: ds,d,h,x,hx=>by
  rw[DataW.weightsAll,bL]
  rcases aO.1 h with rfl|h
  ·exact .inl hx
  ·exact .inr (Zel h x hx)
theorem Fits.rows{t e:cF}{es sp:List (cQ H)}(h:Fits t (.slice es sp))(hu:Tryz.prog.underlying t=some (.slice e)):es.length*Tryz.prog.bytesOf e<=reachBytes/\∀ d∈es,Fits e d:=by
 unfold Fits at h;simp only[DataW.weights,hu,aO,bL] at h;refine⟨Nat.le_trans (Nat.mul_le_mul_right _ (Nat.le_add_right _ _)) (h _ (.inl rfl)),λd hd x hx=>h x (.inr (.inl (Zel hd x hx)))⟩
theorem Fits.two{t:cF}{f0 f1:Field}{d0 d1:cQ H}(h:Fits t (.agg [d0,d1]))(hu:Tryz.prog.underlying t=some (.struct #[f0,f1])):Fits f0.type d0/\Fits f1.type d1:=by
 unfold Fits at h;simp only[DataW.weights,hu,DataW.weightsEach,bY,List.map_nil,bL] at h;exact⟨λx hx=>h x (.inl hx),λx hx=>h x (.inr (.inl hx))⟩
theorem Fits.three{t:cF}{f0 f1 f2:Field}{d0 d1 d2:cQ H}(h:Fits t (.agg [d0,d1,d2]))(hu:Tryz.prog.underlying t=some (.struct #[f0,f1,f2])):Fits f0.type d0/\Fits f1.type d1/\Fits f2.type d2:=by
 unfold Fits at h;simp only[DataW.weights,hu,DataW.weightsEach,bY,List.map_nil,bL] at h;exact⟨λx hx=>h x (.inl hx),λx hx=>h x (.inr (.inl hx)),λx hx=>h x (.inr (.inr (.inl hx)))⟩
theorem Bv{v}{x:cQ H×List bV}(h:aW enc aB W 0 sp held fuel 48 [v]=some x)(hf:Fits 48 x.1) :
  ∃ a n c l,v = F a n c/\OpsAt W a n l/\SlOk a n c/\l.length<=8796093022208:=by
 obtain⟨a,n,c,l,hv,hO,hs,hd⟩:=Zft h;refine⟨a,n,c,l,hv,hO,hs,?_⟩;rw[hO.1]
 rcases hd with e|⟨es,sp,hx,hn⟩
 ·omega
 ·rw[hx] at hf;have:=(hf.rows cV).1;rw[hn,Tryz.bytesOp] at this;unfold reachBytes at this;omega
theorem Zoj{cs}{x:cQ H×List bV}(h:aW enc aB W 0 sp held fuel 119 cs=some x)(hf:Fits 119 x.1):∃ y,Tr.inR.C W cs y/\y.2.2.length<=8796093022208:=by
 obtain⟨y0,y1,k,hx,hl,h0,h1⟩:=trod_struct2 underlying119 h;rw[hx] at hf;have ah:=(hf.two underlying119).2;rw[Tr.Tryz.cellsIn] at hl;obtain⟨c0,c1,c2,rfl⟩:=Tr.list_three hl;simp[Tr.Tryz.cellsPoint,Tr.Tryz.cellsOps] at h0 h1;obtain⟨z0,z1,k2,_,_,g0,g1⟩:=trod_struct2 underlying117 h0;simp[Tr.Tryz.cells3] at g0 g1;obtain⟨x1,e1,_,_⟩:=aY aP g0;obtain⟨x2,e2,_,_⟩:=aY aP g1;obtain⟨a,n,c,l,rfl,hO,hS,hn⟩:=Bv h1 ah;simp only[bC,and_true] at e1 e2;subst e1 e2;exact⟨(x1,x2,l),⟨a,n,c,rfl,hO,hS⟩,hn⟩
theorem Zjq{cs}{x:cQ H×List bV}(h:aW enc aB W 0 sp held fuel 122 cs=some x)(hf:Fits 122 x.1):∃ y,Tr.outR.C W cs y/\y.2.length<=8796093022208:=by
 obtain⟨y0,y1,k,hx,hl,h0,h1⟩:=trod_struct2 underlying122 h;rw[hx] at hf;have af:=(hf.two underlying122).2;rw[Tr.Tryz.cellsOut] at hl;obtain⟨c0,c1,rfl⟩:=Tr.list_two hl;simp[Tr.Tryz.cells3,Tr.Tryz.cellsOps] at h0 h1;obtain⟨x1,e1,_,_⟩:=aY aP h0;obtain⟨a,n,c,l,rfl,hO,hS,hn⟩:=Bv h1 af;simp only[bC,and_true] at e1;subst e1;exact⟨(x1,l),⟨a,n,c,rfl,hO,hS⟩,hn⟩
theorem Qd{α : Type}[Inhabited α](Z:Tr.Rec α)(Q : α->Prop){ts t:cF}(hu:Tryz.prog.underlying ts=some (.slice t))(hc:Tryz.prog.cellsOf t=Z.sz)(ap:0<Z.sz)
  (bd:∀ (fuel:Nat) (cs:List Value) (x:cQ H×List bV),aW enc aB W 0 sp held fuel t cs=some x->Fits t x.1->∃ y,Z.C W cs y/\Q y)
  {v} {x:cQ H×List bV} (h:aW enc aB W 0 sp held fuel ts [v]=some x) (am:Fits ts x.1):∃ a n c l,v = F a n c/\RowsAt Z.R Z.sz W a n l/\SlOk a n c/\n*Tryz.prog.bytesOf t<=reachBytes/\∀ y∈l,Q y:=by
 rcases Deep.open_slice hu h with ⟨aa,_⟩|⟨b,l,c,m,n,D,Pl,aa,_,hl,hm,bj,br,bb⟩
 ·simp at aa;subst aa;exact⟨none,0,0,[],rfl,RowsAt.nil _ _,⟨aF _,aI _,λ_=>⟨rfl,rfl⟩⟩,by simp,λy h=>by cases h⟩
 ·simp at aa;subst aa;rw[br] at am;have an:=am.rows hu;have be:l*Tryz.prog.bytesOf t<=reachBytes:=by simpa using an.1
  have bu:l<=m:=by rw[bj];split <;> omega
  have each:∀ i,i<l->∃ q : α,∃ cs,(∀ j,j<Z.sz->W.cell? (b.add (i*Z.sz+j))=cs[j]?)/\Z.C W cs q/\Q q:=λi hi=>by
   obtain⟨ar,h1,h2⟩:=bb i (by omega);rw[hc] at h1;obtain⟨_,_,az⟩:=World.cells?_some h1;obtain⟨y,hy,hQ⟩:=bd _ _ _ h2 (an.2 _ (bN.2 ⟨i,List.mem_range.2 hi,rfl⟩));exact⟨y,ar,λj hj=>by rw[<-az j hj,Deep.add_add],hy,hQ⟩
  obtain⟨f,hf⟩:=Deep.choose_lt each
  refine⟨some b,l,c,(List.range l).map f,rfl,⟨by simp,λbk=>?_⟩,⟨hl,hm,λh=>by cases h⟩,be,λy hy=>by
   obtain⟨i,hi,rfl⟩:=bN.1 hy;obtain⟨_,_,_,hq⟩:=hf i (List.mem_range.1 hi);exact hq⟩
  obtain⟨bv,off,bs⟩:=b;have ak:∀ j,(⟨bv,off,none⟩:Addr).add j=⟨bv,off+j,none⟩:=λj=>by unfold Addr.add;split <;> simp_all
  obtain⟨ah,ay,av,_⟩:=hf 0 bk;have bq:=Z.wide _ _ _ av;have z0:=ay 0 ap;have e0:ah[0]? = some (ah[0]'(by omega)):=by simp[bq,ap]
  rw[e0] at z0;have bo:bs=none:=by simpa[Addr.add] using World.cell?_spot z0
  subst bo;refine⟨bv,off,rfl,by rw[ak] at z0;exact aE _ _ z0,λi hi=>?_⟩;have bf:i<l:=by simpa using hi
  obtain⟨cs,aa,hC,_⟩:=hf i bf;rw[List.getElem_map,List.getElem_range];refine Z.cr _ _ _ cs _ (λj u hj=>?_) hC;have bg:j<Z.sz:=by rw[<-Z.wide _ _ _ hC];exact (aX.1 hj).1
  have:=aa j bg;rw[ak,<-Nat.add_assoc,hj] at this;exact this
theorem Zde{cs}{x:cQ H×List bV}(h:aW enc aB W 0 sp held fuel 59 cs=some x)(hf:Fits 59 x.1):∃ y,Tr.txR.C W cs y/\Tr.TxSmall y:=by
 obtain⟨y0,y1,y2,k,hx,hl,h0,h1,h2⟩:=Deep.trod_struct3 underlying59 h;rw[hx] at hf;obtain⟨_,aj,ak⟩:=hf.three underlying59;rw[Tr.Tryz.cellsTx] at hl;obtain⟨c0,c1,c2,rfl⟩:=Tr.list_three hl;simp[Tr.Tryz.cells3,Tr.Tryz.cellsIns,Tr.Tryz.cellsOuts] at h0 h1 h2;obtain⟨hh,e0,_,_⟩:=aY aP h0;obtain⟨ai,ni,ci,I,rfl,hI,sI,nI,qI⟩:=Qd Tr.inR (λy=>y.2.2.length<=8796093022208) underlying56 Tr.Tryz.cellsIn (by decide) (λ_ _ _ q qf=>Zoj q qf) h1 aj;obtain⟨ao,no,co,O,rfl,hO,sO,nO,qO⟩:=Qd Tr.outR (λy=>y.2.length<=8796093022208) underlying57 Tr.Tryz.cellsOut (by decide) (λ_ _ _ q qf=>Zjq q qf) h2 ak;simp only[bC,and_true] at e0;subst e0;rw[Tryz.bytesIn] at nI;rw[Tryz.bytesOut] at nO;unfold reachBytes at nI nO;have lI:I.length=ni:=hI.1;have lO:O.length=no:=hO.1;exact⟨(hh,I,O),⟨ai,ni,ci,ao,no,co,rfl,hI,sI,hO,sO⟩,by simp only;omega,by simp only;omega,qI,qO⟩
theorem Aq{v}{x:cQ H×List bV}(h:aW enc aB W 0 sp held fuel 37 [v]=some x)(hf:Fits 37 x.1):∃ a n c l,v = F a n c/\TxsAt W a n l/\SlOk a n c/\n<=2513169434916/\∀ t∈l,Tr.TxSmall t:=by
 obtain⟨a,n,c,l,hv,hT,sT,hn,hq⟩:=Qd Tr.txR Tr.TxSmall underlying37 Tr.Tryz.cellsTx (by decide) (λ_ _ _ q qf=>Zde q qf) h hf;rw[Tryz.bytesTx] at hn;unfold reachBytes at hn;exact⟨a,n,c,l,hv,hT,sT,by omega,hq⟩
theorem Zfx{cs}{x:cQ H×List bV}(h:aW enc aB W 0 sp held fuel 67 cs=some x)(hf:Fits 67 x.1):∃ a n c b m d p q r tip N T P,cs=[F a n c,F b m d,F p q r,.int .i64 tip]/\Tr.IntsAt W a n N/\SlOk a n c/\Tr.BlksAt W b m T/\SlOk b m d/\TxsAt W p q P/\SlOk p q r/\q<=2513169434916/\∀ t∈P,Tr.TxSmall t:=by
 obtain⟨y0,y1,y2,k,hx,hl,h0,h1,h2⟩:=Deep.trod_struct3 underlying67 h;rw[hx] at hf;obtain⟨_,ae,_⟩:=hf.three underlying67;rw[Tryz.cellsNode] at hl;obtain⟨c0,c1,c2,c3,rfl⟩:=Zgj hl;simp[Tr.Tryz.cells3,Tr.Tryz.cellsTree,Tr.Tryz.cellsTxs] at h0 h1 h2;obtain⟨tip,e0,_,_⟩:=aY aP h2;obtain⟨a,n,c,b,m,d,N,T,ab,hN,sN,hT,sT⟩:=Tr.tree_full h0;obtain⟨p,q,r,P,hv,hP,sP,hq,hs⟩:=Aq h1 ae;simp only[bC,and_true] at e0 ab;obtain⟨rfl,rfl⟩:=ab;subst e0 hv;exact⟨a,n,c,b,m,d,p,q,r,tip,N,T,P,rfl,hN,sN,hT,sT,hP,sP,hq,hs⟩
end
open Go.ChangeShapes Go.WideShapes Go.ChangeAt Go.RowKit
theorem Tryz.cellsMsg:Tryz.prog.cellsOf 106=12:=by kernel_rfl
theorem Tryz.cellsWorld:Tryz.prog.cellsOf 90=3:=by kernel_rfl
theorem Tryz.cellsNods:Tryz.prog.cellsOf 87=1:=by kernel_rfl
theorem Tryz.cellsMsgs:Tryz.prog.cellsOf 88=1:=by kernel_rfl
theorem Tryz.cellsBookF:Tryz.prog.cellsOf 24=1:=by kernel_rfl
theorem Ci{cs:List Value}(h:cs.length=12):∃ c0 c1 c2 c3 c4 c5 c6 c7 c8 c9 aa ab,cs=[c0,c1,c2,c3,c4,c5,c6,c7,c8,c9,aa,ab]:=by
 match cs,h with
 | [c0,c1,c2,c3,c4,c5,c6,c7,c8,c9,aa,ab],_=>exact⟨c0,c1,c2,c3,c4,c5,c6,c7,c8,c9,aa,ab,rfl⟩
section
variable {H : Type} {enc : TypeId × Value -> H} {W : World} {sp : Nat -> Bool} {held : Bool} {fuel : Nat}
theorem Fits.each{t:cF}{fs:Array Field}{ds}(h:Fits t (.agg ds))(hu:Tryz.prog.underlying t=some (.struct fs)){j:Nat}{f:Field}{d:cQ H}(hf:fs[j]? = some f)(hd:ds[j]? = some d):Fits f.type d:=λz hz=>by
 refine h z ?_;simp only[DataW.weights,hu];exact DataW.weights_mem_each (j:=j) (t:=f.type) (d:=d) (by simp[hf]) hd z hz
set_option maxRecDepth 10000 in
theorem Du{t:cF}{f0 f1 f2 f3 f4 f5:Field}{cs:List Value}{x:cQ H×List bV}(ht:Tryz.prog.underlying t=some (.struct #[f0,f1,f2,f3,f4,f5]))(h:aW enc aB W 0 sp held fuel t cs=some x)(hf:Fits t x.1) :
  ∃ y0 y1 y2 y3 y4 y5 n,cs.length=Tryz.prog.cellsOf t/\aW enc aB W 0 sp held n f0.type ((cs.drop f0.offset).take (Tryz.prog.cellsOf f0.type))=some y0 /\
   aW enc aB W 0 sp held n f1.type ((cs.drop f1.offset).take (Tryz.prog.cellsOf f1.type))=some y1/\aW enc aB W 0 sp held n f2.type ((cs.drop f2.offset).take (Tryz.prog.cellsOf f2.type))=some y2 /\
   aW enc aB W 0 sp held n f3.type ((cs.drop f3.offset).take (Tryz.prog.cellsOf f3.type))=some y3/\aW enc aB W 0 sp held n f4.type ((cs.drop f4.offset).take (Tryz.prog.cellsOf f4.type))=some y4/\aW enc aB W 0 sp held n f5.type ((cs.drop f5.offset).take (Tryz.prog.cellsOf f5.type))=some y5/\Fits f4.type y4.1/\Fits f5.type y5.1:=by
 obtain⟨xs,n,_,rfl,hl,au,hq⟩:=DataW.trod_struct ht h
 match xs,au with
 | [y0,y1,y2,y3,y4,y5],_=>exact⟨y0,y1,y2,y3,y4,y5,n,hl,by simpa using hq 0 f0 rfl,by simpa using hq 1 f1 rfl,by simpa using hq 2 f2 rfl,by simpa using hq 3 f3 rfl,by simpa using hq 4 f4 rfl,by simpa using hq 5 f5 rfl,hf.each ht (j:=4) rfl rfl,hf.each ht (j:=5) rfl rfl⟩
set_option maxRecDepth 10000 in
theorem Zls{cs}{x:cQ H×List bV}(h:aW enc aB W 0 sp held fuel 39 cs=some x)(hf:Fits 39 x.1):∃ y,Tr.blkR.C W cs y/\Tr.BlkSmall y:=by
 obtain⟨xs,n,_,rfl,hl,ah,hq⟩:=DataW.trod_struct underlying39 h
 match xs,ah with
 | [y0,y1,y2,y3,y4],_=>
  have ag:=hf.each underlying39 (j:=4) rfl rfl;have h0:=hq 0 _ rfl;have h1:=hq 1 _ rfl;have h2:=hq 2 _ rfl;have h3:=hq 3 _ rfl;have h4:=hq 4 _ rfl;rw[Tr.Tryz.cellsBlk] at hl;obtain⟨c0,c1,c2,c3,c4,rfl⟩:=Tr.list_five hl;simp[Tr.Tryz.cells3,Tr.Tryz.cellsTxs] at h0 h1 h2 h3 h4;obtain⟨x0,e0,_,_⟩:=aY aP h0;obtain⟨x1,e1,_,_⟩:=aY aP h1;obtain⟨x2,e2,_,_⟩:=aY aP h2;obtain⟨x3,e3,_,_⟩:=aY aP h3;obtain⟨a,n,c,T,rfl,hT,sT,hn,hs⟩:=Aq h4 ag;simp only[bC,and_true] at e0 e1 e2 e3;subst e0 e1 e2 e3;exact⟨(x0,x1,x2,x3,T),⟨a,n,c,rfl,hT,sT⟩,by show T.length<=_;rw[hT.1];exact hn,hs⟩
set_option maxRecDepth 10000 in
theorem Zki{cs}{x:cQ H×List bV}(h:aW enc aB W 0 sp held fuel 106 cs=some x)(hf:Fits 106 x.1):∃ y,Tr.msgR.C W cs y/\J3 y:=by
 obtain⟨y0,y1,y2,y3,y4,y5,k,hl,h0,h1,h2,h3,h4,h5,f4,f5⟩:=Du underlying106 h hf;rw[Tryz.cellsMsg] at hl;obtain⟨c0,c1,c2,c3,c4,c5,c6,c7,c8,c9,bb,bd,rfl⟩:=Ci hl;simp[Tr.Tryz.cells3,Tr.Tryz.cellsBlk,Tr.Tryz.cellsTx] at h0 h1 h2 h3 h4 h5;obtain⟨x0,e0,_,_⟩:=aY aP h0;obtain⟨x1,e1,_,_⟩:=aY aP h1;obtain⟨x2,e2,_,_⟩:=aY aP h2;obtain⟨x3,e3,_,_⟩:=aY aP h3;obtain⟨b,hb,sb⟩:=Zls h4 f4;obtain⟨t,ht,st⟩:=Zde h5 f5;obtain⟨a,n,c,eb,hT,sT⟩:=hb;obtain⟨ai,ni,ci,ao,no,co,et,hI,sI,hO,sO⟩:=ht;simp only[bC,and_true] at e0 e1 e2 e3 eb et;obtain⟨rfl,rfl,rfl,rfl,rfl⟩:=eb;obtain⟨rfl,rfl,rfl⟩:=et;subst e0 e1 e2 e3;exact⟨(x0,x1,x2,x3,b,t),⟨a,n,c,ai,ni,ci,ao,no,co,rfl,hT,sT,hI,sI,hO,sO⟩,sb,st⟩
set_option maxRecDepth 10000 in
theorem Zah{cs}{x:cQ H×List bV}(h:aW enc aB W 0 sp held fuel 90 cs=some x)(hf:Fits 90 x.1):∃ ka kn kc na nn nc ma mn mc K L M,cs=[F ka kn kc,F na nn nc,F ma mn mc]/\Bk.TextsAt W ka kn K/\NodsAt W na nn L/\MsgsAt W ma mn M/\SlOk ka kn kc/\SlOk na nn nc/\SlOk ma mn mc/\(∀ y∈L,Qo y)/\∀ m∈M,J3 m:=by
 obtain⟨y0,y1,y2,k,hx,hl,h0,h1,h2⟩:=Deep.trod_struct3 underlying90 h;rw[hx] at hf;obtain⟨_,f1,f2⟩:=hf.three underlying90;rw[Tryz.cellsWorld] at hl;obtain⟨c0,c1,c2,rfl⟩:=Tr.list_three hl;simp[Tryz.cellsBookF,Tryz.cellsNods,Tryz.cellsMsgs] at h0 h1 h2;obtain⟨ka,kn,kc,K,ab,hK,sK⟩:=Bk.book_full h0
 obtain⟨na,nn,nc,L,rfl,hN,sN,_,qN⟩:=Qd Tr.nodR Qo underlying87 Tryz.cellsNode (by decide) (λ_ _ _ q qf=>by
  obtain⟨a,n,c,b,m,d,p,q',r,tip,N,T,P,e,hN,sN,hT,sT,hP,sP,hq,hs⟩:=Zfx q qf;exact⟨(N,T,P,tip),⟨a,n,c,b,m,d,p,q',r,e,hN,hT,hP,sN,sT,sP⟩,by show P.length<=_;rw[hP.1];exact hq,hs⟩) h1 f1
 obtain⟨ma,mn,mc,M,rfl,hM,sM,_,qM⟩:=Qd Tr.msgR J3 underlying88 Tryz.cellsMsg (by decide) (λ_ _ _ q qf=>Zki q qf) h2 f2;simp only[bC,and_true] at ab;subst ab;exact⟨ka,kn,kc,na,nn,nc,ma,mn,mc,K,L,M,rfl,hK,hN,hM,sK,sN,sM,qN,qM⟩
end
