import Derived.LaidMore
import Derived.Stop.Joined
import Derived.Test.YtmomfkikogbdeaaGreatDoorG47
open Go.Proofs.Tryz
open Go renaming TypeId->bO,DataW->cI,MemPlace->bL
open Go.DataW renaming trod->aU,trod_int->aS
open Go.Proofs.Tryz renaming prog->aA,underlying3->aK
open Go.Value renaming slice->F
open Go.World renaming block_lt_of_cell?->aD
open List renaming getElem?_eq_getElem->cM,getElem?_eq_some_iff->bZ,length_take->bJ,mem_cons->bB
open List.cons renaming injEq->bC
open Nat renaming le_refl->aF,zero_le->aM
set_option maxRecDepth 10000
namespace Go.Proofs.YtmomfkikogbdeaaGreatDoor.Lf
open Go.ChangeShapes Go.WideShapes Go.ChangeAt Go.RowKit
theorem own:ownKnob Tryz.prog.godebug=none:=by kernel_rfl
theorem Tu:laidOutB aA=true:=by kernel_rfl
theorem Nb{H:Type}{enc:bO×Value->H}{w}{base:Nat}{sp:Nat->Bool}{held:Bool}{fuel:Nat}{t:bO}{n:Nat}{cs}{ss:List (List UInt8)}{p}
  (ht:Tryz.prog.underlying t=some (.array n 9)) (ac:Tryz.prog.cellsOf t=n) (h9:Tryz.prog.cellsOf 9=1)
  (h:aU enc aA w base sp held fuel t cs=some (.agg (ss.map λb=>.lit (.string b)),p)):cs=ss.map λb=>Value.string ⟨b.toArray⟩:=by
 obtain⟨xs,m,rfl,hx,hl,hn,ad⟩:=DataW.trod_array ht h;rw[ac] at hl;simp only[Prod.mk.injEq,DataW.agg.injEq] at hx
 have aj:ss.length=n:=by
  have:=congrArg List.length hx.1;simp at this;omega
 apply List.ext_getElem?
 intro i;by_cases hi:i<n
 ·have z:=ad i hi;rw[h9,Nat.mul_one] at z;have aa:i<xs.length:=by omega
  rw[cM aa] at z;obtain⟨s,hc,hy,_⟩:=DataW.trod_string underlying9 z
  have h1:cs[i]? = some (.string s):=by
   have:=congrArg (·[0]?) hc;simpa[List.getElem?_take,List.getElem?_drop] using this
  have h2:(xs.map (·.1))[i]? = some (.lit (.string s.data.toList)):=by
   rw[List.getElem?_map,cM aa,hy];rfl
  rw[<-hx.1] at h2;have Q:i<ss.length:=by omega
  simp only[List.getElem?_map,cM Q,Option.map_some,Option.some.injEq,DataW.lit.injEq,Lit.string.injEq] at h2;rw[h1,List.getElem?_map,cM Q,h2];rfl
 ·rw[List.getElem?_eq_none (by omega),List.getElem?_eq_none (by simp;omega)]
def namesBytes:List (List UInt8):=namesL.map (·.data.toList)
theorem Tryz.tNam:(Tryz.prog.globals[1]?).map (·.type)=some 378:=by kernel_rfl
theorem Tryz.tTab:(Tryz.prog.globals[2]?).map (·.type)=some 381:=by kernel_rfl
theorem Tryz.cellsNam:Tryz.prog.cellsOf 378=14:=by kernel_rfl
theorem Tryz.cellsTab:Tryz.prog.cellsOf 381=20:=by kernel_rfl
theorem Tryz.cells9:Tryz.prog.cellsOf 9=1:=by kernel_rfl
theorem Tryz.cellsU64:Tryz.prog.cellsOf 284=1:=by kernel_rfl
theorem names_of_laid{H:Type}{enc:bO×Value->H}{w:World}{base:Nat}{sp:Nat->Bool}{held:Bool}{fuel:Nat}{cs:Array Value}{p}(Q:w.var? aA "cairn/lock.names" = some cs)
  (h:aU enc aA w base sp held fuel 378 cs.toList=some (Rows.laid_cairn_lock_names,p)):w.var? aA "cairn/lock.names" = some Cu:=by
 have e:=Nb (ss:=namesBytes) underlying378 Tryz.cellsNam Tryz.cells9 h;rw[Q]
 congr 1
 obtain⟨l⟩:=cs;have z:l=namesBytes.map λb=>Value.string ⟨b.toArray⟩:=e;rw[z];rfl
theorem tab_of_laid{H:Type}{enc:bO×Value->H}{w:World}{base:Nat}{sp:Nat->Bool}{held:Bool}{fuel:Nat}{cs:Array Value}{p}(Q:w.var? aA "internal/strconv.uint64pow10" = some cs)
  (h:aU enc aA w base sp held fuel 381 cs.toList=some (Rows.laid_internal_strconv_uint64pow10,p)):Lib.TabIs aA w "internal/strconv.uint64pow10" .u64 Lib.pow10Tab:=by
 have e:=Lib.cells_of_tab (zs:=Lib.pow10Tab) underlying381 underlying284 Tryz.cellsU64 Tryz.cellsTab h;unfold Lib.TabIs;rw[Q]
 congr 1
 obtain⟨l⟩:=cs;have z:l=Lib.pow10Tab.map λab=>Value.int .u64 ab:=e;rw[z]
theorem Tryz.cellsOp:Tryz.prog.cellsOf 164=2:=by kernel_rfl
theorem Tryz.cells3:Tryz.prog.cellsOf 3=1:=by kernel_rfl
theorem Tp{H:Type}{enc:bO×Value->H}{W}{sp:Nat->Bool}{held:Bool}{fuel:Nat}{a len cap}{x:cI H×List bL}
  (h:aU enc aA W 0 sp held fuel 48 [F a len cap]=some x):(∃ l,OpsAt W a len l)/\(a=none->len=0/\cap=0):=by
 rcases Deep.open_slice_pairs underlying48 underlying164 Tryz.cellsOp rfl rfl Tryz.cells3 Tryz.cells3 h with ⟨z,_⟩|⟨b,l,c,m,n,V0,V1,D0,D1,P0,P1,z,_,hl,_,hm,_,ae⟩
 ·simp at z;obtain⟨rfl,rfl,rfl⟩:=z;exact⟨⟨[],rfl,λh=>absurd h (by omega)⟩,λ_=>⟨rfl,rfl⟩⟩
 ·simp at z;obtain⟨rfl,rfl,rfl⟩:=z;refine⟨?_,λh=>by cases h⟩;have ax:len<=m:=by rw[hm];split <;> omega
  have each:∀ i,i<len->∃ q:Int×Int,W.cell? (b.add (i*2))=some (.int .i64 q.1)/\W.cell? (b.add (i*2+1))=some (.int .i64 q.2):=λi hi=>by
   obtain⟨h1,h2,t1,t2⟩:=ae i (by omega);obtain⟨z1,e1,_,_⟩:=aS aK t1;obtain⟨z2,e2,_,_⟩:=aS aK t2;simp only[bC,and_true] at e1 e2;exact⟨(z1,z2),by rw[h1,e1],by rw[h2,e2]⟩
  obtain⟨f,hf⟩:=Deep.choose_lt each;refine⟨(List.range len).map f,by simp,λag=>?_⟩;obtain⟨Q,off,aj⟩:=b;have ah:aj=none:=by simpa[Addr.add] using World.cell?_spot (hf 0 ag).1
  subst ah;refine⟨Q,off,rfl,λi hi=>?_⟩;have ac:∀ j,(⟨Q,off,none⟩:Addr).add j=⟨Q,off+j,none⟩:=λj=>by unfold Addr.add;split <;> simp_all
  have h1:=hf i hi;rw[ac,ac] at h1;rw[<-Nat.add_assoc] at h1;simpa[hi] using h1
end Go.Proofs.YtmomfkikogbdeaaGreatDoor.Lf
namespace Go.Proofs.YtmomfkikogbdeaaGreatDoor.Tr
open Go.ChangeShapes Go.WideShapes Go.ChangeAt Go.RowKit
theorem own:ownKnob Tryz.prog.godebug=none:=by kernel_rfl
theorem Tu:laidOutB aA=true:=by kernel_rfl
theorem Tryz.cellsOp:Tryz.prog.cellsOf 164=2:=by kernel_rfl
theorem Tryz.cells3:Tryz.prog.cellsOf 3=1:=by kernel_rfl
theorem Tp{H:Type}{enc:bO×Value->H}{W}{sp:Nat->Bool}{held:Bool}{fuel:Nat}{a len cap}{x:cI H×List bL}
  (h:aU enc aA W 0 sp held fuel 48 [F a len cap]=some x):(∃ l,OpsAt W a len l)/\(a=none->len=0/\cap=0):=by
 rcases Deep.open_slice_pairs underlying48 underlying164 Tryz.cellsOp rfl rfl Tryz.cells3 Tryz.cells3 h with ⟨z,_⟩|⟨b,l,c,m,n,V0,V1,D0,D1,P0,P1,z,_,hl,_,hm,_,ae⟩
 ·simp at z;obtain⟨rfl,rfl,rfl⟩:=z;exact⟨⟨[],rfl,λh=>absurd h (by omega)⟩,λ_=>⟨rfl,rfl⟩⟩
 ·simp at z;obtain⟨rfl,rfl,rfl⟩:=z;refine⟨?_,λh=>by cases h⟩;have ax:len<=m:=by rw[hm];split <;> omega
  have each:∀ i,i<len->∃ q:Int×Int,W.cell? (b.add (i*2))=some (.int .i64 q.1)/\W.cell? (b.add (i*2+1))=some (.int .i64 q.2):=λi hi=>by
   obtain⟨h1,h2,t1,t2⟩:=ae i (by omega);obtain⟨z1,e1,_,_⟩:=aS aK t1;obtain⟨z2,e2,_,_⟩:=aS aK t2;simp only[bC,and_true] at e1 e2;exact⟨(z1,z2),by rw[h1,e1],by rw[h2,e2]⟩
  obtain⟨f,hf⟩:=Deep.choose_lt each;refine⟨(List.range len).map f,by simp,λag=>?_⟩;obtain⟨Q,off,aj⟩:=b;have ah:aj=none:=by simpa[Addr.add] using World.cell?_spot (hf 0 ag).1
  subst ah;refine⟨Q,off,rfl,λi hi=>?_⟩;have ac:∀ j,(⟨Q,off,none⟩:Addr).add j=⟨Q,off+j,none⟩:=λj=>by unfold Addr.add;split <;> simp_all
  have h1:=hf i hi;rw[ac,ac] at h1;rw[<-Nat.add_assoc] at h1;simpa[hi] using h1
theorem Tryz.cellsTx:Tryz.prog.cellsOf 59=3:=by kernel_rfl
theorem Tryz.cellsIn:Tryz.prog.cellsOf 119=3:=by kernel_rfl
theorem Tryz.cellsOut:Tryz.prog.cellsOf 122=2:=by kernel_rfl
theorem Tryz.cellsPoint:Tryz.prog.cellsOf 117=2:=by kernel_rfl
theorem Tryz.cellsOps:Tryz.prog.cellsOf 48=1:=by kernel_rfl
theorem Tryz.cellsIns:Tryz.prog.cellsOf 56=1:=by kernel_rfl
theorem Tryz.cellsOuts:Tryz.prog.cellsOf 57=1:=by kernel_rfl
theorem list_two{cs:List Value}(h:cs.length=2):∃ a b,cs=[a,b]:=by
 match cs,h with
 | [a,b],_=>exact⟨a,b,rfl⟩
theorem list_three{cs:List Value}(h:cs.length=3):∃ a b c,cs=[a,b,c]:=by
 match cs,h with
 | [a,b,c],_=>exact⟨a,b,c,rfl⟩
theorem Tryz.cellsBlk:Tryz.prog.cellsOf 39=5:=by kernel_rfl
theorem Tryz.cellsTree:Tryz.prog.cellsOf 28=2:=by kernel_rfl
theorem Tryz.cellsTxs:Tryz.prog.cellsOf 37=1:=by kernel_rfl
theorem Tryz.cellsBlks:Tryz.prog.cellsOf 26=1:=by kernel_rfl
theorem Tryz.cellsInts:Tryz.prog.cellsOf 25=1:=by kernel_rfl
theorem list_five{cs:List Value}(h:cs.length=5):∃ a b c d e,cs=[a,b,c,d,e]:=by
 match cs,h with
 | [a,b,c,d,e],_=>exact⟨a,b,c,d,e,rfl⟩
section
variable {H : Type} {enc : TypeId × Value -> H} {W : World} {sp : Nat -> Bool} {held : Bool} {fuel : Nat}
theorem ops_full{v}{x:cI H×List bL}(h:aU enc aA W 0 sp held fuel 48 [v]=some x):∃ a n c l,v = F a n c/\OpsAt W a n l/\SlOk a n c:=by
 have h':=h
 rcases Deep.open_slice underlying48 h with ⟨z,_⟩|⟨b,l,c,m,n,D,Pl,z,_,hl,hm,_⟩
 ·simp at z;subst z;exact⟨none,0,0,[],rfl,⟨rfl,λh=>absurd h (by omega)⟩,aF _,aM _,λ_=>⟨rfl,rfl⟩⟩
 ·simp at z;subst z;obtain⟨⟨L,Q⟩,_⟩:=Tp h';exact⟨some b,l,c,L,rfl,Q,hl,hm,λh=>by cases h⟩
theorem Zau{cs}{x:cI H×List bL}(h:aU enc aA W 0 sp held fuel 119 cs=some x):∃ z Q a n c l,cs=[.int .i64 z,.int .i64 Q,F a n c]/\OpsAt W a n l/\SlOk a n c:=by
 obtain⟨y0,y1,k,_,hl,h0,h1⟩:=trod_struct2 underlying119 h;rw[Tryz.cellsIn] at hl;obtain⟨c0,c1,c2,rfl⟩:=list_three hl;simp[Tryz.cellsPoint,Tryz.cellsOps] at h0 h1;obtain⟨z0,z1,k2,_,_,g0,g1⟩:=trod_struct2 underlying117 h0;simp[Tryz.cells3] at g0 g1;obtain⟨z,e1,_,_⟩:=aS aK g0;obtain⟨Q,e2,_,_⟩:=aS aK g1;obtain⟨a,n,c,l,rfl,hO,hS⟩:=ops_full h1;simp only[bC,and_true] at e1 e2;subst e1 e2;exact⟨z,Q,a,n,c,l,rfl,hO,hS⟩
theorem Fp{cs}{x:cI H×List bL}(h:aU enc aA W 0 sp held fuel 122 cs=some x):∃ z a n c l,cs=[.int .i64 z,F a n c]/\OpsAt W a n l/\SlOk a n c:=by
 obtain⟨y0,y1,k,_,hl,h0,h1⟩:=trod_struct2 underlying122 h;rw[Tryz.cellsOut] at hl;obtain⟨c0,c1,rfl⟩:=list_two hl;simp[Tryz.cells3,Tryz.cellsOps] at h0 h1;obtain⟨z,Q,_,_⟩:=aS aK h0;obtain⟨a,n,c,l,rfl,hO,hS⟩:=ops_full h1;simp only[bC,and_true] at Q;subst Q;exact⟨z,a,n,c,l,rfl,hO,hS⟩
theorem J4{α : Type}[Inhabited α](Z:Rec α){ts t:bO}(hu:Tryz.prog.underlying ts=some (.slice t))(hc:Tryz.prog.cellsOf t=Z.sz)(ag:0<Z.sz)
  (ar:∀ (fuel:Nat) (cs:List Value) (x:cI H×List bL),aU enc aA W 0 sp held fuel t cs=some x->∃ y,Z.C W cs y)
  {v} {x:cI H×List bL} (h:aU enc aA W 0 sp held fuel ts [v]=some x):∃ a n c l,v = F a n c/\RowsAt Z.R Z.sz W a n l/\SlOk a n c:=by
 rcases Deep.open_slice hu h with ⟨z,_⟩|⟨b,l,c,m,n,D,Pl,z,_,hl,hm,ay,_,aq⟩
 ·simp at z;subst z;exact⟨none,0,0,[],rfl,RowsAt.nil _ _,aF _,aM _,λ_=>⟨rfl,rfl⟩⟩
 ·simp at z;subst z;have bi:l<=m:=by rw[ay];split <;> omega
  have each:∀ i,i<l->∃ q : α,∃ cs,(∀ j,j<Z.sz->W.cell? (b.add (i*Z.sz+j))=cs[j]?)/\Z.C W cs q:=λi hi=>by
   obtain⟨aj,h1,h2⟩:=aq i (by omega);rw[hc] at h1;obtain⟨_,_,ap⟩:=World.cells?_some h1;obtain⟨y,hy⟩:=ar _ _ _ h2;exact⟨y,aj,λj Q=>by rw[<-ap j Q,Deep.add_add],hy⟩
  obtain⟨f,hf⟩:=Deep.choose_lt each;refine⟨some b,l,c,(List.range l).map f,rfl,⟨by simp,λaz=>?_⟩,hl,hm,λh=>by cases h⟩;obtain⟨bj,off,bg⟩:=b;have ae:∀ j,(⟨bj,off,none⟩:Addr).add j=⟨bj,off+j,none⟩:=λj=>by unfold Addr.add;split <;> simp_all
  obtain⟨ac,an,al⟩:=hf 0 az;have be:=Z.wide _ _ _ al;have z0:=an 0 ag;have e0:ac[0]? = some (ac[0]'(by omega)):=by simp[be,ag]
  rw[e0] at z0;have bb:bg=none:=by simpa[Addr.add] using World.cell?_spot z0
  subst bb;refine⟨bj,off,rfl,by rw[ae] at z0;exact aD _ _ z0,λi hi=>?_⟩;have au:i<l:=by simpa using hi
  obtain⟨cs,z,hC⟩:=hf i au;rw[List.getElem_map,List.getElem_range];refine Z.cr _ _ _ cs _ (λj u Q=>?_) hC;have av:j<Z.sz:=by rw[<-Z.wide _ _ _ hC];exact (bZ.1 Q).1
  have:=z j av;rw[ae,<-Nat.add_assoc,Q] at this;exact this
theorem Zjf{cs}{x:cI H×List bL}(h:aU enc aA W 0 sp held fuel 59 cs=some x):∃ y,txR.C W cs y:=by
 obtain⟨y0,y1,y2,k,_,hl,h0,h1,h2⟩:=Deep.trod_struct3 underlying59 h;rw[Tryz.cellsTx] at hl;obtain⟨c0,c1,c2,rfl⟩:=list_three hl;simp[Tryz.cells3,Tryz.cellsIns,Tryz.cellsOuts] at h0 h1 h2;obtain⟨hh,e0,_,_⟩:=aS aK h0
 obtain⟨ai,ni,ci,I,rfl,hI,sI⟩:=J4 inR underlying56 Tryz.cellsIn (by decide) (λ_ _ _ q=>by
  obtain⟨x1,x2,a,n,c,l,rfl,z,Q⟩:=Zau q;exact⟨(x1,x2,l),a,n,c,rfl,z,Q⟩) h1
 obtain⟨ao,no,co,O,rfl,z,sO⟩:=J4 outR underlying57 Tryz.cellsOut (by decide) (λ_ _ _ q=>by
  obtain⟨x1,a,n,c,l,rfl,z,Q⟩:=Fp q;exact⟨(x1,l),a,n,c,rfl,z,Q⟩) h2
 simp only[bC,and_true] at e0;subst e0;exact⟨(hh,I,O),ai,ni,ci,ao,no,co,rfl,hI,sI,z,sO⟩
theorem Tf{t:bO}{z Q f2 f3 f4:Field}{cs:List Value}{x:cI H×List bL}(ht:Tryz.prog.underlying t=some (.struct #[z,Q,f2,f3,f4]))(h:aU enc aA W 0 sp held fuel t cs=some x) :
  ∃ y0 y1 y2 y3 y4 n,cs.length=Tryz.prog.cellsOf t/\aU enc aA W 0 sp held n z.type ((cs.drop z.offset).take (Tryz.prog.cellsOf z.type))=some y0 /\
   aU enc aA W 0 sp held n Q.type ((cs.drop Q.offset).take (Tryz.prog.cellsOf Q.type))=some y1/\aU enc aA W 0 sp held n f2.type ((cs.drop f2.offset).take (Tryz.prog.cellsOf f2.type))=some y2 /\
   aU enc aA W 0 sp held n f3.type ((cs.drop f3.offset).take (Tryz.prog.cellsOf f3.type))=some y3/\aU enc aA W 0 sp held n f4.type ((cs.drop f4.offset).take (Tryz.prog.cellsOf f4.type))=some y4:=by
 obtain⟨xs,n,_,rfl,hl,al,hf⟩:=DataW.trod_struct ht h
 match xs,al with
 | [y0,y1,y2,y3,y4],_=>exact⟨y0,y1,y2,y3,y4,n,hl,by simpa using hf 0 z rfl,by simpa using hf 1 Q rfl,by simpa using hf 2 f2 rfl,by simpa using hf 3 f3 rfl,by simpa using hf 4 f4 rfl⟩
theorem Zik{cs}{x:cI H×List bL}(h:aU enc aA W 0 sp held fuel 39 cs=some x):∃ y,blkR.C W cs y:=by
 obtain⟨y0,y1,y2,y3,y4,k,hl,h0,h1,h2,h3,h4⟩:=Tf underlying39 h;rw[Tryz.cellsBlk] at hl;obtain⟨c0,c1,c2,c3,c4,rfl⟩:=list_five hl;simp[Tryz.cells3,Tryz.cellsTxs] at h0 h1 h2 h3 h4;obtain⟨x0,z,_,_⟩:=aS aK h0;obtain⟨x1,Q,_,_⟩:=aS aK h1;obtain⟨x2,e2,_,_⟩:=aS aK h2;obtain⟨x3,e3,_,_⟩:=aS aK h3;obtain⟨a,n,c,T,rfl,hT,sT⟩:=J4 txR underlying37 Tryz.cellsTx (by decide) (λ_ _ _ q=>Zjf q) h4;simp only[bC,and_true] at z Q e2 e3;subst z Q e2 e3;exact⟨(x0,x1,x2,x3,T),a,n,c,rfl,hT,sT⟩
theorem Zdd{v}{x:cI H×List bL}(h:aU enc aA W 0 sp held fuel 25 [v]=some x):∃ a n c l,v = F a n c/\IntsAt W a n l/\SlOk a n c:=by
 rcases open_ints underlying25 aK (by kernel_rfl) h with ⟨z,_⟩|⟨b,l,c,zs,z,_,hl,hm,hz,_,ac,_⟩
 ·simp at z;subst z;exact⟨none,0,0,[],rfl,IntsAt.nil _ _,aF _,aM _,λ_=>⟨rfl,rfl⟩⟩
 ·simp at z;subst z;have aj:l<=zs.length:=by rw[hz];split <;> omega
  refine⟨some b,l,c,zs.take l,rfl,⟨by rw[bJ];omega,λak=>?_⟩,hl,hm,λh=>by cases h⟩;obtain⟨Q,off,ah⟩:=b;have z0:=ac 0 (by omega);have af:ah=none:=by simpa[Addr.add] using World.cell?_spot z0
  subst af;have ab:∀ j,(⟨Q,off,none⟩:Addr).add j=⟨Q,off+j,none⟩:=λj=>by unfold Addr.add;split <;> simp_all
  refine⟨Q,off,rfl,by rw[ab] at z0;exact aD _ _ z0,λi hi=>?_⟩;rw[bJ] at hi;have:=ac i (by omega);rw[ab] at this;rw[this,List.getElem_take];simp[List.getD,(by omega:i<zs.length)]
theorem tree_full{cs}{x:cI H×List bL}(h:aU enc aA W 0 sp held fuel 28 cs=some x):∃ a n c b m d N T,cs=[F a n c,F b m d]/\IntsAt W a n N/\SlOk a n c/\BlksAt W b m T/\SlOk b m d:=by
 obtain⟨Q,y1,k,_,z,h0,h1⟩:=trod_struct2 underlying28 h;rw[Tryz.cellsTree] at z;obtain⟨c0,c1,rfl⟩:=list_two z;simp[Tryz.cellsInts,Tryz.cellsBlks] at h0 h1;obtain⟨a,n,c,N,rfl,hN,sN⟩:=Zdd h0;obtain⟨b,m,d,T,rfl,hT,sT⟩:=J4 blkR underlying26 Tryz.cellsBlk (by decide) (λ_ _ _ q=>Zik q) h1;exact⟨a,n,c,b,m,d,N,T,rfl,hN,sN,hT,sT⟩
end
end Tr
open Go.ChangeShapes Go.WideShapes Go.ChangeAt Go.RowKit
theorem Tryz.bytesOp:Tryz.prog.bytesOf 164=16:=by kernel_rfl
theorem Zcf{H:Type}{enc:bO×Value->H}{W}{sp:Nat->Bool}{held:Bool}{fuel:Nat}{v}{x:cI H×List bL}(h:aU enc aA W 0 sp held fuel 48 [v]=some x) :
  ∃ a n c l,v = F a n c/\OpsAt W a n l/\SlOk a n c/\(n=0\/∃ aa ad,x.1 = .slice aa ad/\aa.length=n):=by
 obtain⟨a,n,c,l,Q,hO,hs⟩:=Tr.ops_full h;refine⟨a,n,c,l,Q,hO,hs,?_⟩
 rcases Deep.open_slice underlying48 h with ⟨z,_⟩|⟨b,l,c,m,k,D,Pl,z,_,hl,hm,_,hx,_⟩
 ·simp at z;rw[Q] at z;injection z with _ e _;exact .inl e
 ·simp at z;rw[Q] at z;injection z with _ e _;subst e;exact .inr ⟨_,_,by rw[hx],by simp⟩
open Go.ChangeShapes Go.WideShapes Go.ChangeAt Go.RowKit
def Fits{H:Type}(t:bO)(d:cI H):Prop:=∀ x∈d.weights aA t,x<=reachBytes
theorem Tryz.bytesIn:Tryz.prog.bytesOf 119=40:=by kernel_rfl
theorem Tryz.bytesOut:Tryz.prog.bytesOf 122=32:=by kernel_rfl
theorem Tryz.bytesTx:Tryz.prog.bytesOf 59=56:=by kernel_rfl
theorem Tryz.cellsNode:Tryz.prog.cellsOf 67=4:=by kernel_rfl
theorem Zcw{cs:List Value}(h:cs.length=4):∃ a b c d,cs=[a,b,c,d]:=by
 match cs,h with
 | [a,b,c,d],_=>exact⟨a,b,c,d,rfl⟩
section
variable {H : Type} {enc : TypeId × Value -> H} {W : World} {sp : Nat -> Bool} {held : Bool} {fuel : Nat}
theorem Zbc{e:bO}:∀ {z:List (cI H)} {d:cI H},d∈z->∀ x∈d.weights aA e,x∈DataW.weightsAll aA e z
 | d0 :: z,d,h,x,hx=>by
  rw[DataW.weightsAll,List.mem_append]
  rcases bB.1 h with rfl|h
  ·exact .inl hx
  ·exact .inr (Zbc h x hx)
theorem Fits.rows{t e:bO}{z sp:List (cI H)}(h:Fits t (.slice z sp))(hu:Tryz.prog.underlying t=some (.slice e)):z.length*Tryz.prog.bytesOf e<=reachBytes/\∀ d∈z,Fits e d:=by
 unfold Fits at h;simp only[DataW.weights,hu,bB,List.mem_append] at h;refine⟨Nat.le_trans (Nat.mul_le_mul_right _ (Nat.le_add_right _ _)) (h _ (.inl rfl)),λd Q x hx=>h x (.inr (.inl (Zbc Q x hx)))⟩
theorem Fits.two{t:bO}{f0 f1:Field}{z Q:cI H}(h:Fits t (.agg [z,Q]))(hu:Tryz.prog.underlying t=some (.struct #[f0,f1])):Fits f0.type z/\Fits f1.type Q:=by
 unfold Fits at h;simp only[DataW.weights,hu,DataW.weightsEach,List.map_cons,List.map_nil,List.mem_append] at h;exact⟨λx hx=>h x (.inl hx),λx hx=>h x (.inr (.inl hx))⟩
theorem Fits.three{t:bO}{f0 f1 f2:Field}{z Q d2:cI H}(h:Fits t (.agg [z,Q,d2]))(hu:Tryz.prog.underlying t=some (.struct #[f0,f1,f2])):Fits f0.type z/\Fits f1.type Q/\Fits f2.type d2:=by
 unfold Fits at h;simp only[DataW.weights,hu,DataW.weightsEach,List.map_cons,List.map_nil,List.mem_append] at h;exact⟨λx hx=>h x (.inl hx),λx hx=>h x (.inr (.inl hx)),λx hx=>h x (.inr (.inr (.inl hx)))⟩
theorem Fr{v}{x:cI H×List bL}(h:aU enc aA W 0 sp held fuel 48 [v]=some x)(Q:Fits 48 x.1) :
  ∃ a n c l,v = F a n c/\OpsAt W a n l/\SlOk a n c/\l.length<=8796093022208:=by
 obtain⟨a,n,c,l,hv,z,hs,hd⟩:=Zcf h;refine⟨a,n,c,l,hv,z,hs,?_⟩;rw[z.1]
 rcases hd with e|⟨es,sp,hx,hn⟩
 ·omega
 ·rw[hx] at Q;have:=(Q.rows underlying48).1;rw[hn,Tryz.bytesOp] at this;unfold reachBytes at this;omega
theorem Zkq{cs}{x:cI H×List bL}(h:aU enc aA W 0 sp held fuel 119 cs=some x)(hf:Fits 119 x.1):∃ y,Tr.inR.C W cs y/\y.2.2.length<=8796093022208:=by
 obtain⟨y0,y1,k,hx,hl,h0,h1⟩:=trod_struct2 underlying119 h;rw[hx] at hf;have af:=(hf.two underlying119).2;rw[Tr.Tryz.cellsIn] at hl;obtain⟨c0,c1,c2,rfl⟩:=Tr.list_three hl;simp[Tr.Tryz.cellsPoint,Tr.Tryz.cellsOps] at h0 h1;obtain⟨z0,z1,k2,_,_,g0,g1⟩:=trod_struct2 underlying117 h0;simp[Tr.Tryz.cells3] at g0 g1;obtain⟨x1,z,_,_⟩:=aS aK g0;obtain⟨x2,Q,_,_⟩:=aS aK g1;obtain⟨a,n,c,l,rfl,hO,hS,hn⟩:=Fr h1 af;simp only[bC,and_true] at z Q;subst z Q;exact⟨(x1,x2,l),⟨a,n,c,rfl,hO,hS⟩,hn⟩
theorem Zgg{cs}{x:cI H×List bL}(h:aU enc aA W 0 sp held fuel 122 cs=some x)(Q:Fits 122 x.1):∃ y,Tr.outR.C W cs y/\y.2.length<=8796093022208:=by
 obtain⟨y0,y1,k,hx,hl,h0,h1⟩:=trod_struct2 underlying122 h;rw[hx] at Q;have ad:=(Q.two underlying122).2;rw[Tr.Tryz.cellsOut] at hl;obtain⟨c0,c1,rfl⟩:=Tr.list_two hl;simp[Tr.Tryz.cells3,Tr.Tryz.cellsOps] at h0 h1;obtain⟨x1,z,_,_⟩:=aS aK h0;obtain⟨a,n,c,l,rfl,hO,hS,hn⟩:=Fr h1 ad;simp only[bC,and_true] at z;subst z;exact⟨(x1,l),⟨a,n,c,rfl,hO,hS⟩,hn⟩
theorem U9{α : Type}[Inhabited α](Z:Tr.Rec α)(Q : α->Prop){ts t:bO}(hu:Tryz.prog.underlying ts=some (.slice t))(hc:Tryz.prog.cellsOf t=Z.sz)(am:0<Z.sz)
  (az:∀ (fuel:Nat) (cs:List Value) (x:cI H×List bL),aU enc aA W 0 sp held fuel t cs=some x->Fits t x.1->∃ y,Z.C W cs y/\Q y)
  {v} {x:cI H×List bL} (h:aU enc aA W 0 sp held fuel ts [v]=some x) (ak:Fits ts x.1):∃ a n c l,v = F a n c/\RowsAt Z.R Z.sz W a n l/\SlOk a n c/\n*Tryz.prog.bytesOf t<=reachBytes/\∀ y∈l,Q y:=by
 rcases Deep.open_slice hu h with ⟨z,_⟩|⟨b,l,c,m,n,D,Pl,z,_,hl,hm,bh,bo,ay⟩
 ·simp at z;subst z;exact⟨none,0,0,[],rfl,RowsAt.nil _ _,⟨aF _,aM _,λ_=>⟨rfl,rfl⟩⟩,by simp,λy h=>by cases h⟩
 ·simp at z;subst z;rw[bo] at ak;have al:=ak.rows hu;have bb:l*Tryz.prog.bytesOf t<=reachBytes:=by simpa using al.1
  have bs:l<=m:=by rw[bh];split <;> omega
  have each:∀ i,i<l->∃ q : α,∃ cs,(∀ j,j<Z.sz->W.cell? (b.add (i*Z.sz+j))=cs[j]?)/\Z.C W cs q/\Q q:=λi hi=>by
   obtain⟨ap,h1,h2⟩:=ay i (by omega);rw[hc] at h1;obtain⟨_,_,ax⟩:=World.cells?_some h1;obtain⟨y,hy,hQ⟩:=az _ _ _ h2 (al.2 _ (List.mem_map.2 ⟨i,List.mem_range.2 hi,rfl⟩));exact⟨y,ap,λj hj=>by rw[<-ax j hj,Deep.add_add],hy,hQ⟩
  obtain⟨f,hf⟩:=Deep.choose_lt each
  refine⟨some b,l,c,(List.range l).map f,rfl,⟨by simp,λbi=>?_⟩,⟨hl,hm,λh=>by cases h⟩,bb,λy hy=>by
   obtain⟨i,hi,rfl⟩:=List.mem_map.1 hy;obtain⟨_,_,_,hq⟩:=hf i (List.mem_range.1 hi);exact hq⟩
  obtain⟨bt,off,bq⟩:=b;have aj:∀ j,(⟨bt,off,none⟩:Addr).add j=⟨bt,off+j,none⟩:=λj=>by unfold Addr.add;split <;> simp_all
  obtain⟨ag,aw,ar,_⟩:=hf 0 bi;have bk:=Z.wide _ _ _ ar;have z0:=aw 0 am;have e0:ag[0]? = some (ag[0]'(by omega)):=by simp[bk,am]
  rw[e0] at z0;have bj:bq=none:=by simpa[Addr.add] using World.cell?_spot z0
  subst bj;refine⟨bt,off,rfl,by rw[aj] at z0;exact aD _ _ z0,λi hi=>?_⟩;have bd:i<l:=by simpa using hi
  obtain⟨cs,z,hC,_⟩:=hf i bd;rw[List.getElem_map,List.getElem_range];refine Z.cr _ _ _ cs _ (λj u hj=>?_) hC;have be:j<Z.sz:=by rw[<-Z.wide _ _ _ hC];exact (bZ.1 hj).1
  have:=z j be;rw[aj,<-Nat.add_assoc,hj] at this;exact this
theorem M6{cs}{x:cI H×List bL}(h:aU enc aA W 0 sp held fuel 59 cs=some x)(hf:Fits 59 x.1):∃ y,Tr.txR.C W cs y/\Tr.TxSmall y:=by
 obtain⟨y0,y1,y2,k,hx,hl,h0,h1,h2⟩:=Deep.trod_struct3 underlying59 h;rw[hx] at hf;obtain⟨_,ag,ah⟩:=hf.three underlying59;rw[Tr.Tryz.cellsTx] at hl;obtain⟨c0,c1,c2,rfl⟩:=Tr.list_three hl;simp[Tr.Tryz.cells3,Tr.Tryz.cellsIns,Tr.Tryz.cellsOuts] at h0 h1 h2;obtain⟨hh,Q,_,_⟩:=aS aK h0;obtain⟨ai,ni,ci,I,rfl,hI,sI,nI,qI⟩:=U9 Tr.inR (λy=>y.2.2.length<=8796093022208) underlying56 Tr.Tryz.cellsIn (by decide) (λ_ _ _ q z=>Zkq q z) h1 ag;obtain⟨ao,no,co,O,rfl,hO,sO,nO,qO⟩:=U9 Tr.outR (λy=>y.2.length<=8796093022208) underlying57 Tr.Tryz.cellsOut (by decide) (λ_ _ _ q z=>Zgg q z) h2 ah;simp only[bC,and_true] at Q;subst Q;rw[Tryz.bytesIn] at nI;rw[Tryz.bytesOut] at nO;unfold reachBytes at nI nO;have lI:I.length=ni:=hI.1;have lO:O.length=no:=hO.1;exact⟨(hh,I,O),⟨ai,ni,ci,ao,no,co,rfl,hI,sI,hO,sO⟩,by simp only;omega,by simp only;omega,qI,qO⟩
theorem Do{v}{x:cI H×List bL}(h:aU enc aA W 0 sp held fuel 37 [v]=some x)(Q:Fits 37 x.1):∃ a n c l,v = F a n c/\TxsAt W a n l/\SlOk a n c/\n<=2513169434916/\∀ t∈l,Tr.TxSmall t:=by
 obtain⟨a,n,c,l,hv,hT,sT,z,hq⟩:=U9 Tr.txR Tr.TxSmall underlying37 Tr.Tryz.cellsTx (by decide) (λ_ _ _ q qf=>M6 q qf) h Q;rw[Tryz.bytesTx] at z;unfold reachBytes at z;exact⟨a,n,c,l,hv,hT,sT,by omega,hq⟩
theorem Zck{cs}{x:cI H×List bL}(h:aU enc aA W 0 sp held fuel 67 cs=some x)(hf:Fits 67 x.1):∃ a n c b m d p q r tip N T P,cs=[F a n c,F b m d,F p q r,.int .i64 tip]/\Tr.IntsAt W a n N/\SlOk a n c/\Tr.BlksAt W b m T/\SlOk b m d/\TxsAt W p q P/\SlOk p q r/\q<=2513169434916/\∀ t∈P,Tr.TxSmall t:=by
 obtain⟨y0,y1,y2,k,hx,hl,h0,h1,h2⟩:=Deep.trod_struct3 underlying67 h;rw[hx] at hf;obtain⟨_,ac,_⟩:=hf.three underlying67;rw[Tryz.cellsNode] at hl;obtain⟨c0,c1,c2,c3,rfl⟩:=Zcw hl;simp[Tr.Tryz.cells3,Tr.Tryz.cellsTree,Tr.Tryz.cellsTxs] at h0 h1 h2;obtain⟨tip,z,_,_⟩:=aS aK h2;obtain⟨a,n,c,b,m,d,N,T,Q,hN,sN,hT,sT⟩:=Tr.tree_full h0;obtain⟨p,q,r,P,hv,hP,sP,hq,hs⟩:=Do h1 ac;simp only[bC,and_true] at z Q;obtain⟨rfl,rfl⟩:=Q;subst z hv;exact⟨a,n,c,b,m,d,p,q,r,tip,N,T,P,rfl,hN,sN,hT,sT,hP,sP,hq,hs⟩
end
open Go.ChangeShapes Go.WideShapes Go.ChangeAt Go.RowKit
theorem Tryz.cellsMsg:Tryz.prog.cellsOf 106=12:=by kernel_rfl
theorem Tryz.cellsWorld:Tryz.prog.cellsOf 90=3:=by kernel_rfl
theorem Tryz.cellsNods:Tryz.prog.cellsOf 87=1:=by kernel_rfl
theorem Tryz.cellsMsgs:Tryz.prog.cellsOf 88=1:=by kernel_rfl
theorem Tryz.cellsBookF:Tryz.prog.cellsOf 24=1:=by kernel_rfl
theorem F6{cs:List Value}(h:cs.length=12):∃ c0 c1 c2 c3 c4 c5 c6 c7 c8 c9 z Q,cs=[c0,c1,c2,c3,c4,c5,c6,c7,c8,c9,z,Q]:=by
 match cs,h with
 | [c0,c1,c2,c3,c4,c5,c6,c7,c8,c9,z,Q],_=>exact⟨c0,c1,c2,c3,c4,c5,c6,c7,c8,c9,z,Q,rfl⟩
section
variable {H : Type} {enc : TypeId × Value -> H} {W : World} {sp : Nat -> Bool} {held : Bool} {fuel : Nat}
theorem Fits.each{t:bO}{Q:Array Field}{z}(h:Fits t (.agg z))(hu:Tryz.prog.underlying t=some (.struct Q)){j:Nat}{f:Field}{d:cI H}(hf:Q[j]? = some f)(hd:z[j]? = some d):Fits f.type d:=λaf hz=>by
 refine h af ?_;simp only[DataW.weights,hu];exact DataW.weights_mem_each (j:=j) (t:=f.type) (d:=d) (by simp[hf]) hd af hz
theorem M7{t:bO}{f0 f1 f2 f3 z Q:Field}{cs:List Value}{x:cI H×List bL}(ht:Tryz.prog.underlying t=some (.struct #[f0,f1,f2,f3,z,Q]))(h:aU enc aA W 0 sp held fuel t cs=some x)(hf:Fits t x.1) :
  ∃ y0 y1 y2 y3 y4 y5 n,cs.length=Tryz.prog.cellsOf t/\aU enc aA W 0 sp held n f0.type ((cs.drop f0.offset).take (Tryz.prog.cellsOf f0.type))=some y0 /\
   aU enc aA W 0 sp held n f1.type ((cs.drop f1.offset).take (Tryz.prog.cellsOf f1.type))=some y1/\aU enc aA W 0 sp held n f2.type ((cs.drop f2.offset).take (Tryz.prog.cellsOf f2.type))=some y2 /\
   aU enc aA W 0 sp held n f3.type ((cs.drop f3.offset).take (Tryz.prog.cellsOf f3.type))=some y3/\aU enc aA W 0 sp held n z.type ((cs.drop z.offset).take (Tryz.prog.cellsOf z.type))=some y4/\aU enc aA W 0 sp held n Q.type ((cs.drop Q.offset).take (Tryz.prog.cellsOf Q.type))=some y5/\Fits z.type y4.1/\Fits Q.type y5.1:=by
 obtain⟨xs,n,_,rfl,hl,ap,hq⟩:=DataW.trod_struct ht h
 match xs,ap with
 | [y0,y1,y2,y3,y4,y5],_=>exact⟨y0,y1,y2,y3,y4,y5,n,hl,by simpa using hq 0 f0 rfl,by simpa using hq 1 f1 rfl,by simpa using hq 2 f2 rfl,by simpa using hq 3 f3 rfl,by simpa using hq 4 z rfl,by simpa using hq 5 Q rfl,hf.each ht (j:=4) rfl rfl,hf.each ht (j:=5) rfl rfl⟩
theorem Zil{cs}{x:cI H×List bL}(h:aU enc aA W 0 sp held fuel 39 cs=some x)(hf:Fits 39 x.1):∃ y,Tr.blkR.C W cs y/\Tr.BlkSmall y:=by
 obtain⟨xs,n,_,rfl,hl,af,hq⟩:=DataW.trod_struct underlying39 h
 match xs,af with
 | [y0,y1,y2,y3,y4],_=>
  have ae:=hf.each underlying39 (j:=4) rfl rfl;have h0:=hq 0 _ rfl;have h1:=hq 1 _ rfl;have h2:=hq 2 _ rfl;have h3:=hq 3 _ rfl;have h4:=hq 4 _ rfl;rw[Tr.Tryz.cellsBlk] at hl;obtain⟨c0,c1,c2,c3,c4,rfl⟩:=Tr.list_five hl;simp[Tr.Tryz.cells3,Tr.Tryz.cellsTxs] at h0 h1 h2 h3 h4;obtain⟨x0,z,_,_⟩:=aS aK h0;obtain⟨x1,Q,_,_⟩:=aS aK h1;obtain⟨x2,e2,_,_⟩:=aS aK h2;obtain⟨x3,e3,_,_⟩:=aS aK h3;obtain⟨a,n,c,T,rfl,hT,sT,hn,hs⟩:=Do h4 ae;simp only[bC,and_true] at z Q e2 e3;subst z Q e2 e3;exact⟨(x0,x1,x2,x3,T),⟨a,n,c,rfl,hT,sT⟩,by show T.length<=_;rw[hT.1];exact hn,hs⟩
theorem Zgz{cs}{x:cI H×List bL}(h:aU enc aA W 0 sp held fuel 106 cs=some x)(hf:Fits 106 x.1):∃ y,Tr.msgR.C W cs y/\Uv y:=by
 obtain⟨y0,y1,y2,y3,y4,y5,k,hl,h0,h1,h2,h3,h4,h5,f4,f5⟩:=M7 underlying106 h hf;rw[Tryz.cellsMsg] at hl;obtain⟨c0,c1,c2,c3,c4,c5,c6,c7,c8,c9,ax,ay,rfl⟩:=F6 hl;simp[Tr.Tryz.cells3,Tr.Tryz.cellsBlk,Tr.Tryz.cellsTx] at h0 h1 h2 h3 h4 h5;obtain⟨x0,z,_,_⟩:=aS aK h0;obtain⟨x1,Q,_,_⟩:=aS aK h1;obtain⟨x2,e2,_,_⟩:=aS aK h2;obtain⟨x3,e3,_,_⟩:=aS aK h3;obtain⟨b,hb,sb⟩:=Zil h4 f4;obtain⟨t,ht,st⟩:=M6 h5 f5;obtain⟨a,n,c,eb,hT,sT⟩:=hb;obtain⟨ai,ni,ci,ao,no,co,et,hI,sI,hO,sO⟩:=ht;simp only[bC,and_true] at z Q e2 e3 eb et;obtain⟨rfl,rfl,rfl,rfl,rfl⟩:=eb;obtain⟨rfl,rfl,rfl⟩:=et;subst z Q e2 e3;exact⟨(x0,x1,x2,x3,b,t),⟨a,n,c,ai,ni,ci,ao,no,co,rfl,hT,sT,hI,sI,hO,sO⟩,sb,st⟩
theorem Bp{cs}{x:cI H×List bL}(h:aU enc aA W 0 sp held fuel 90 cs=some x)(hf:Fits 90 x.1):∃ ka kn kc na nn nc ma mn mc K L M,cs=[F ka kn kc,F na nn nc,F ma mn mc]/\Bk.TextsAt W ka kn K/\NodsAt W na nn L/\MsgsAt W ma mn M/\SlOk ka kn kc/\SlOk na nn nc/\SlOk ma mn mc/\(∀ y∈L,Vr y)/\∀ m∈M,Uv m:=by
 obtain⟨y0,y1,y2,k,hx,hl,h0,h1,h2⟩:=Deep.trod_struct3 underlying90 h;rw[hx] at hf;obtain⟨_,f1,f2⟩:=hf.three underlying90;rw[Tryz.cellsWorld] at hl;obtain⟨c0,c1,c2,rfl⟩:=Tr.list_three hl;simp[Tryz.cellsBookF,Tryz.cellsNods,Tryz.cellsMsgs] at h0 h1 h2;obtain⟨ka,kn,kc,K,Q,hK,sK⟩:=Bk.book_full h0
 obtain⟨na,nn,nc,L,rfl,hN,sN,_,qN⟩:=U9 Tr.nodR Vr underlying87 Tryz.cellsNode (by decide) (λ_ _ _ q z=>by
  obtain⟨a,n,c,b,m,d,p,q',r,tip,N,T,P,e,hN,sN,hT,sT,hP,sP,hq,hs⟩:=Zck q z;exact⟨(N,T,P,tip),⟨a,n,c,b,m,d,p,q',r,e,hN,hT,hP,sN,sT,sP⟩,by show P.length<=_;rw[hP.1];exact hq,hs⟩) h1 f1
 obtain⟨ma,mn,mc,M,rfl,hM,sM,_,qM⟩:=U9 Tr.msgR Uv underlying88 Tryz.cellsMsg (by decide) (λ_ _ _ q z=>Zgz q z) h2 f2;simp only[bC,and_true] at Q;subst Q;exact⟨ka,kn,kc,na,nn,nc,ma,mn,mc,K,L,M,rfl,hK,hN,hM,sK,sN,sM,qN,qM⟩
end
open Go.ChangeShapes Go.WideShapes Go.ChangeAt Go.RowKit
theorem Tryz.cellsHap:Tryz.prog.cellsOf 103=9:=by kernel_rfl
theorem Zcv{cs:List Value}(h:cs.length=9):∃ c0 c1 z Q c4 c5 c6 c7 c8,cs=[c0,c1,z,Q,c4,c5,c6,c7,c8]:=by
 match cs,h with
 | [c0,c1,z,Q,c4,c5,c6,c7,c8],_=>exact⟨c0,c1,z,Q,c4,c5,c6,c7,c8,rfl⟩
theorem Zhj{H:Type}{enc:bO×Value->H}{W}{sp:Nat->Bool}{held:Bool}{fuel:Nat}{cs}{x:cI H×List bL}(h:aU enc aA W 0 sp held fuel 103 cs=some x)(hf:Fits 103 x.1) :
  ∃ xk xn xt xi xw xN th ai ni ci ao no co I O,cs=[.int .i64 xk,.int .i64 xn,.int .i64 xt,.int .i64 xi,.int .i64 xw,.int .i64 xN,.int .i64 th,F ai ni ci,F ao no co]/\InsAt W ai ni I/\OutsAt W ao no O/\SlOk ai ni ci/\SlOk ao no co/\Tr.TxSmall (th,I,O):=by
 obtain⟨xs,n,_,rfl,hl,al,hq⟩:=DataW.trod_struct underlying103 h
 match xs,al with
 | [y0,y1,y2,y3,y4,y5,y6],_=>
  have f6:=hf.each underlying103 (j:=6) rfl rfl;have h0:=hq 0 _ rfl;have h1:=hq 1 _ rfl;have h2:=hq 2 _ rfl;have h3:=hq 3 _ rfl;have h4:=hq 4 _ rfl;have h5:=hq 5 _ rfl;have h6:=hq 6 _ rfl;rw[Tryz.cellsHap] at hl;obtain⟨c0,c1,c2,c3,c4,c5,c6,c7,c8,rfl⟩:=Zcv hl;simp[Tr.Tryz.cells3,Tr.Tryz.cellsTx] at h0 h1 h2 h3 h4 h5 h6;obtain⟨x0,z,_,_⟩:=aS aK h0;obtain⟨x1,Q,_,_⟩:=aS aK h1;obtain⟨x2,e2,_,_⟩:=aS aK h2;obtain⟨x3,e3,_,_⟩:=aS aK h3;obtain⟨x4,e4,_,_⟩:=aS aK h4;obtain⟨x5,e5,_,_⟩:=aS aK h5;obtain⟨t,ht,st⟩:=M6 h6 f6;obtain⟨ai,ni,ci,ao,no,co,et,hI,sI,hO,sO⟩:=ht;simp only[bC,and_true] at z Q e2 e3 e4 e5 et;obtain⟨rfl,rfl,rfl⟩:=et;subst z Q e2 e3 e4 e5;exact⟨x0,x1,x2,x3,x4,x5,t.1,ai,ni,ci,ao,no,co,t.2.1,t.2.2,rfl,hI,hO,sI,sO,st⟩
