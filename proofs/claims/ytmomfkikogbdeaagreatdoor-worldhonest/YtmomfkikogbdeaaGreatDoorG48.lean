import Derived.Test.YtmomfkikogbdeaaGreatDoorG47
import Derived.LaidMore
import Derived.Stop.Joined
open Go.Proofs.Tryz
open Go renaming TypeId->cR
open Go.DataW renaming trod_int->cB
open Go.Proofs.Tryz renaming prog->aB,underlying3->bC
open Go.Value renaming slice->F
open List renaming mem_append->bA,mem_cons->aU,map_cons->bO,mem_map->cP,getElem?_eq_getElem->cF
open List.cons renaming injEq->cS
namespace Go.Proofs.YtmomfkikogbdeaaGreatDoor
open Go.ChangeShapes Go.WideShapes Go.ChangeAt Go.RowKit
theorem Tryz.bytesOp:Tryz.prog.bytesOf 164=16:=by kernel_rfl
theorem Zgb{H:Type}{enc:cR×Value->H}{W}{sp:Nat->Bool}{held:Bool}{fuel:Nat}{v}{x:DataW H×List MemPlace}(h:DataW.trod enc aB W 0 sp held fuel 48 [v]=some x) :
  ∃ a n c l,v = F a n c/\OpsAt W a n l/\SlOk a n c/\(n=0\/∃ aa ad,x.1 = .slice aa ad/\aa.length=n):=by
 obtain⟨a,n,c,l,Q,hO,hs⟩:=Tr.ops_full h;refine⟨a,n,c,l,Q,hO,hs,?_⟩
 rcases Deep.open_slice underlying48 h with ⟨z,_⟩|⟨b,l,c,m,k,D,Pl,z,_,hl,hm,_,hx,_⟩
 ·simp at z;rw[Q] at z;injection z with _ e _;exact .inl e
 ·simp at z;rw[Q] at z;injection z with _ e _;subst e;exact .inr ⟨_,_,by rw[hx],by simp⟩
open Go.ChangeShapes Go.WideShapes Go.ChangeAt Go.RowKit
def Fits{H:Type}(t:cR)(d:DataW H):Prop:=∀ x∈d.weights aB t,x<=reachBytes
theorem Tryz.bytesIn:Tryz.prog.bytesOf 119=40:=by kernel_rfl
theorem Tryz.bytesOut:Tryz.prog.bytesOf 122=32:=by kernel_rfl
section
variable {H : Type} {enc : TypeId × Value -> H} {W : World} {sp : Nat -> Bool} {held : Bool} {fuel : Nat}
theorem Zen{e:cR}:∀ {z:List (DataW H)} {d:DataW H},d∈z->∀ x∈d.weights aB e,x∈DataW.weightsAll aB e z
 | d0 :: z,d,h,x,hx=>by
  rw[DataW.weightsAll,bA]
  rcases aU.1 h with rfl|h
  ·exact .inl hx
  ·exact .inr (Zen h x hx)
theorem Fits.rows{t e:cR}{z sp:List (DataW H)}(h:Fits t (.slice z sp))(hu:Tryz.prog.underlying t=some (.slice e)):z.length*Tryz.prog.bytesOf e<=reachBytes/\∀ d∈z,Fits e d:=by
 unfold Fits at h;simp only[DataW.weights,hu,aU,bA] at h;refine⟨Nat.le_trans (Nat.mul_le_mul_right _ (Nat.le_add_right _ _)) (h _ (.inl rfl)),λd Q x hx=>h x (.inr (.inl (Zen Q x hx)))⟩
theorem Fits.two{t:cR}{f0 f1:Field}{z Q:DataW H}(h:Fits t (.agg [z,Q]))(hu:Tryz.prog.underlying t=some (.struct #[f0,f1])):Fits f0.type z/\Fits f1.type Q:=by
 unfold Fits at h;simp only[DataW.weights,hu,DataW.weightsEach,bO,List.map_nil,bA] at h;exact⟨λx hx=>h x (.inl hx),λx hx=>h x (.inr (.inl hx))⟩
theorem Fits.three{t:cR}{f0 f1 f2:Field}{z Q d2:DataW H}(h:Fits t (.agg [z,Q,d2]))(hu:Tryz.prog.underlying t=some (.struct #[f0,f1,f2])):Fits f0.type z/\Fits f1.type Q/\Fits f2.type d2:=by
 unfold Fits at h;simp only[DataW.weights,hu,DataW.weightsEach,bO,List.map_nil,bA] at h;exact⟨λx hx=>h x (.inl hx),λx hx=>h x (.inr (.inl hx)),λx hx=>h x (.inr (.inr (.inl hx)))⟩
theorem Bm{v}{x:DataW H×List MemPlace}(h:DataW.trod enc aB W 0 sp held fuel 48 [v]=some x)(Q:Fits 48 x.1) :
  ∃ a n c l,v = F a n c/\OpsAt W a n l/\SlOk a n c/\l.length<=8796093022208:=by
 obtain⟨a,n,c,l,hv,z,hs,hd⟩:=Zgb h;refine⟨a,n,c,l,hv,z,hs,?_⟩;rw[z.1]
 rcases hd with e|⟨es,sp,hx,hn⟩
 ·omega
 ·rw[hx] at Q;have:=(Q.rows underlying48).1;rw[hn,Tryz.bytesOp] at this;unfold reachBytes at this;omega
theorem Zou{cs}{x:DataW H×List MemPlace}(h:DataW.trod enc aB W 0 sp held fuel 119 cs=some x)(hf:Fits 119 x.1):∃ y,Tr.inR.C W cs y/\y.2.2.length<=8796093022208:=by
 obtain⟨y0,y1,k,hx,hl,h0,h1⟩:=trod_struct2 underlying119 h;rw[hx] at hf;have af:=(hf.two underlying119).2;rw[Tr.Tryz.cellsIn] at hl;obtain⟨c0,c1,c2,rfl⟩:=Tr.list_three hl;simp[Tr.Tryz.cellsPoint,Tr.Tryz.cellsOps] at h0 h1;obtain⟨z0,z1,k2,_,_,g0,g1⟩:=trod_struct2 underlying117 h0;simp[Tr.Tryz.cells3] at g0 g1;obtain⟨x1,z,_,_⟩:=cB bC g0;obtain⟨x2,Q,_,_⟩:=cB bC g1;obtain⟨a,n,c,l,rfl,hO,hS,hn⟩:=Bm h1 af;simp only[cS,and_true] at z Q;subst z Q;exact⟨(x1,x2,l),⟨a,n,c,rfl,hO,hS⟩,hn⟩
theorem Zkb{cs}{x:DataW H×List MemPlace}(h:DataW.trod enc aB W 0 sp held fuel 122 cs=some x)(Q:Fits 122 x.1):∃ y,Tr.outR.C W cs y/\y.2.length<=8796093022208:=by
 obtain⟨y0,y1,k,hx,hl,h0,h1⟩:=trod_struct2 underlying122 h;rw[hx] at Q;have ad:=(Q.two underlying122).2;rw[Tr.Tryz.cellsOut] at hl;obtain⟨c0,c1,rfl⟩:=Tr.list_two hl;simp[Tr.Tryz.cells3,Tr.Tryz.cellsOps] at h0 h1;obtain⟨x1,z,_,_⟩:=cB bC h0;obtain⟨a,n,c,l,rfl,hO,hS,hn⟩:=Bm h1 ad;simp only[cS,and_true] at z;subst z;exact⟨(x1,l),⟨a,n,c,rfl,hO,hS⟩,hn⟩
theorem Pr{α : Type}[Inhabited α](Z:Tr.Rec α)(Q : α->Prop){ts t:cR}(hu:Tryz.prog.underlying ts=some (.slice t))(hc:Tryz.prog.cellsOf t=Z.sz)(am:0<Z.sz)
  (az:∀ (fuel:Nat) (cs:List Value) (x:DataW H×List MemPlace),DataW.trod enc aB W 0 sp held fuel t cs=some x->Fits t x.1->∃ y,Z.C W cs y/\Q y)
  {v} {x:DataW H×List MemPlace} (h:DataW.trod enc aB W 0 sp held fuel ts [v]=some x) (ak:Fits ts x.1):∃ a n c l,v = F a n c/\RowsAt Z.R Z.sz W a n l/\SlOk a n c/\n*Tryz.prog.bytesOf t<=reachBytes/\∀ y∈l,Q y:=by
 rcases Deep.open_slice hu h with ⟨z,_⟩|⟨b,l,c,m,n,D,Pl,z,_,hl,hm,bh,bo,ay⟩
 ·simp at z;subst z;exact⟨none,0,0,[],rfl,RowsAt.nil _ _,⟨Nat.le_refl _,Nat.zero_le _,λ_=>⟨rfl,rfl⟩⟩,by simp,λy h=>by cases h⟩
 ·simp at z;subst z;rw[bo] at ak;have al:=ak.rows hu;have bb:l*Tryz.prog.bytesOf t<=reachBytes:=by simpa using al.1
  have bs:l<=m:=by rw[bh];split <;> omega
  have each:∀ i,i<l->∃ q : α,∃ cs,(∀ j,j<Z.sz->W.cell? (b.add (i*Z.sz+j))=cs[j]?)/\Z.C W cs q/\Q q:=λi hi=>by
   obtain⟨ap,h1,h2⟩:=ay i (by omega);rw[hc] at h1;obtain⟨_,_,ax⟩:=World.cells?_some h1;obtain⟨y,hy,hQ⟩:=az _ _ _ h2 (al.2 _ (cP.2 ⟨i,List.mem_range.2 hi,rfl⟩));exact⟨y,ap,λj hj=>by rw[<-ax j hj,Deep.add_add],hy,hQ⟩
  obtain⟨f,hf⟩:=Deep.choose_lt each
  refine⟨some b,l,c,(List.range l).map f,rfl,⟨by simp,λbi=>?_⟩,⟨hl,hm,λh=>by cases h⟩,bb,λy hy=>by
   obtain⟨i,hi,rfl⟩:=cP.1 hy;obtain⟨_,_,_,hq⟩:=hf i (List.mem_range.1 hi);exact hq⟩
  obtain⟨bt,off,bq⟩:=b;have aj:∀ j,(⟨bt,off,none⟩:Addr).add j=⟨bt,off+j,none⟩:=λj=>by unfold Addr.add;split <;> simp_all
  obtain⟨ag,aw,ar,_⟩:=hf 0 bi;have bk:=Z.wide _ _ _ ar;have z0:=aw 0 am;have e0:ag[0]? = some (ag[0]'(by omega)):=by simp[bk,am]
  rw[e0] at z0;have bj:bq=none:=by simpa[Addr.add] using World.cell?_spot z0
  subst bj;refine⟨bt,off,rfl,by rw[aj] at z0;exact World.block_lt_of_cell? _ _ z0,λi hi=>?_⟩;have bd:i<l:=by simpa using hi
  obtain⟨cs,z,hC,_⟩:=hf i bd;rw[List.getElem_map,List.getElem_range];refine Z.cr _ _ _ cs _ (λj u hj=>?_) hC;have be:j<Z.sz:=by rw[<-Z.wide _ _ _ hC];exact (List.getElem?_eq_some_iff.1 hj).1
  have:=z j be;rw[aj,<-Nat.add_assoc,hj] at this;exact this
theorem Zne{cs}{x:DataW H×List MemPlace}(h:DataW.trod enc aB W 0 sp held fuel 59 cs=some x)(hf:Fits 59 x.1):∃ y,Tr.txR.C W cs y/\Tr.TxSmall y:=by
 obtain⟨y0,y1,y2,k,hx,hl,h0,h1,h2⟩:=Deep.trod_struct3 underlying59 h;rw[hx] at hf;obtain⟨_,ag,ah⟩:=hf.three underlying59;rw[Tr.Tryz.cellsTx] at hl;obtain⟨c0,c1,c2,rfl⟩:=Tr.list_three hl;simp[Tr.Tryz.cells3,Tr.Tryz.cellsIns,Tr.Tryz.cellsOuts] at h0 h1 h2;obtain⟨hh,Q,_,_⟩:=cB bC h0;obtain⟨ai,ni,ci,I,rfl,hI,sI,nI,qI⟩:=Pr Tr.inR (λy=>y.2.2.length<=8796093022208) underlying56 Tr.Tryz.cellsIn (by decide) (λ_ _ _ q z=>Zou q z) h1 ag;obtain⟨ao,no,co,O,rfl,hO,sO,nO,qO⟩:=Pr Tr.outR (λy=>y.2.length<=8796093022208) underlying57 Tr.Tryz.cellsOut (by decide) (λ_ _ _ q z=>Zkb q z) h2 ah;simp only[cS,and_true] at Q;subst Q;rw[Tryz.bytesIn] at nI;rw[Tryz.bytesOut] at nO;unfold reachBytes at nI nO;have lI:I.length=ni:=hI.1;have lO:O.length=no:=hO.1;exact⟨(hh,I,O),⟨ai,ni,ci,ao,no,co,rfl,hI,sI,hO,sO⟩,by simp only;omega,by simp only;omega,qI,qO⟩
end
open Go.ChangeShapes Go.WideShapes Go.ChangeAt Go.RowKit
section
variable {H : Type} {enc : TypeId × Value -> H} {W : World} {sp : Nat -> Bool} {held : Bool} {fuel : Nat}
theorem Fits.each{t:cR}{Q:Array Field}{z}(h:Fits t (.agg z))(hu:Tryz.prog.underlying t=some (.struct Q)){j:Nat}{f:Field}{d:DataW H}(hf:Q[j]? = some f)(hd:z[j]? = some d):Fits f.type d:=λaf hz=>by
 refine h af ?_;simp only[DataW.weights,hu];exact DataW.weights_mem_each (j:=j) (t:=f.type) (d:=d) (by simp[hf]) hd af hz
end
open Go.ChangeShapes Go.WideShapes Go.ChangeAt Go.RowKit
theorem Tryz.cellsHap:Tryz.prog.cellsOf 103=9:=by kernel_rfl
theorem Zgs{cs:List Value}(h:cs.length=9):∃ c0 c1 z Q c4 c5 c6 c7 c8,cs=[c0,c1,z,Q,c4,c5,c6,c7,c8]:=by
 match cs,h with
 | [c0,c1,z,Q,c4,c5,c6,c7,c8],_=>exact⟨c0,c1,z,Q,c4,c5,c6,c7,c8,rfl⟩
set_option maxRecDepth 10000 in
theorem Zlh{H:Type}{enc:cR×Value->H}{W}{sp:Nat->Bool}{held:Bool}{fuel:Nat}{cs}{x:DataW H×List MemPlace}(h:DataW.trod enc aB W 0 sp held fuel 103 cs=some x)(hf:Fits 103 x.1) :
  ∃ xk xn xt xi xw xN th ai ni ci ao no co I O,cs=[.int .i64 xk,.int .i64 xn,.int .i64 xt,.int .i64 xi,.int .i64 xw,.int .i64 xN,.int .i64 th,F ai ni ci,F ao no co]/\InsAt W ai ni I/\OutsAt W ao no O/\SlOk ai ni ci/\SlOk ao no co/\Tr.TxSmall (th,I,O):=by
 obtain⟨xs,n,_,rfl,hl,al,hq⟩:=DataW.trod_struct underlying103 h
 match xs,al with
 | [y0,y1,y2,y3,y4,y5,y6],_=>
  have f6:=hf.each underlying103 (j:=6) rfl rfl;have h0:=hq 0 _ rfl;have h1:=hq 1 _ rfl;have h2:=hq 2 _ rfl;have h3:=hq 3 _ rfl;have h4:=hq 4 _ rfl;have h5:=hq 5 _ rfl;have h6:=hq 6 _ rfl;rw[Tryz.cellsHap] at hl;obtain⟨c0,c1,c2,c3,c4,c5,c6,c7,c8,rfl⟩:=Zgs hl;simp[Tr.Tryz.cells3,Tr.Tryz.cellsTx] at h0 h1 h2 h3 h4 h5 h6;obtain⟨x0,z,_,_⟩:=cB bC h0;obtain⟨x1,Q,_,_⟩:=cB bC h1;obtain⟨x2,e2,_,_⟩:=cB bC h2;obtain⟨x3,e3,_,_⟩:=cB bC h3;obtain⟨x4,e4,_,_⟩:=cB bC h4;obtain⟨x5,e5,_,_⟩:=cB bC h5;obtain⟨t,ht,st⟩:=Zne h6 f6;obtain⟨ai,ni,ci,ao,no,co,et,hI,sI,hO,sO⟩:=ht;simp only[cS,and_true] at z Q e2 e3 e4 e5 et;obtain⟨rfl,rfl,rfl⟩:=et;subst z Q e2 e3 e4 e5;exact⟨x0,x1,x2,x3,x4,x5,t.1,ai,ni,ci,ao,no,co,t.2.1,t.2.2,rfl,hI,hO,sI,sO,st⟩
open Go.ChangeShapes Go.WideShapes Go.ChangeAt Go.RowKit
theorem Zgz{H:Type}{enc:cR×Value->H}{W}{sp:Nat->Bool}{held:Bool}{fuel:Nat}{v}{x:DataW H×List MemPlace}(h:DataW.trod enc aB W 0 sp held fuel 109 [v]=some x)(hf:Fits 109 x.1):∃ a n c l,v = F a n c/\RowsAt hapR.R 9 W a n l/\SlOk a n c/\∀ y∈l,Tr.TxSmall y.2.2.2.2.2.2:=by
 obtain⟨a,n,c,l,e,h1,h2,_,h3⟩:=Pr hapR (λy=>Tr.TxSmall y.2.2.2.2.2.2) underlying109 Tryz.cellsHap (by decide) (λ_ _ _ q qf=>by
  obtain⟨xk,xn,xt,xi,xw,xN,th,ai,ni,ci,ao,no,co,I,O,e,z,Q,sI,sO,sz⟩:=Zlh q qf;exact⟨(xk,xn,xt,xi,xw,xN,(th,I,O)),⟨ai,ni,ci,ao,no,co,e,z,Q,sI,sO⟩,sz⟩) h hf
 exact⟨a,n,c,l,e,h1,h2,h3⟩
namespace Lf
open Go.ChangeShapes Go.WideShapes Go.ChangeAt Go.RowKit
theorem own:ownKnob Tryz.prog.godebug=none:=by kernel_rfl
theorem Hs:laidOutB aB=true:=by kernel_rfl
theorem Dw{H:Type}{enc:cR×Value->H}{w}{base:Nat}{sp:Nat->Bool}{held:Bool}{fuel:Nat}{t:cR}{n:Nat}{cs}{ss:List (List UInt8)}{p}
  (ht:Tryz.prog.underlying t=some (.array n 9)) (ac:Tryz.prog.cellsOf t=n) (h9:Tryz.prog.cellsOf 9=1)
  (h:DataW.trod enc aB w base sp held fuel t cs=some (.agg (ss.map λb=>.lit (.string b)),p)):cs=ss.map λb=>Value.string ⟨b.toArray⟩:=by
 obtain⟨xs,m,rfl,hx,hl,hn,ad⟩:=DataW.trod_array ht h;rw[ac] at hl;simp only[Prod.mk.injEq,DataW.agg.injEq] at hx
 have aj:ss.length=n:=by
  have:=congrArg List.length hx.1;simp at this;omega
 apply List.ext_getElem?
 intro i;by_cases hi:i<n
 ·have z:=ad i hi;rw[h9,Nat.mul_one] at z;have aa:i<xs.length:=by omega
  rw[cF aa] at z;obtain⟨s,hc,hy,_⟩:=DataW.trod_string underlying9 z
  have h1:cs[i]? = some (.string s):=by
   have:=congrArg (·[0]?) hc;simpa[List.getElem?_take,List.getElem?_drop] using this
  have h2:(xs.map (·.1))[i]? = some (.lit (.string s.data.toList)):=by
   rw[List.getElem?_map,cF aa,hy];rfl
  rw[<-hx.1] at h2;have Q:i<ss.length:=by omega
  simp only[List.getElem?_map,cF Q,Option.map_some,Option.some.injEq,DataW.lit.injEq,Lit.string.injEq] at h2;rw[h1,List.getElem?_map,cF Q,h2];rfl
 ·rw[List.getElem?_eq_none (by omega),List.getElem?_eq_none (by simp;omega)]
def namesBytes:List (List UInt8):=namesL.map (·.data.toList)
theorem Tryz.tNam:(Tryz.prog.globals[1]?).map (·.type)=some 378:=by kernel_rfl
theorem Tryz.tTab:(Tryz.prog.globals[2]?).map (·.type)=some 381:=by kernel_rfl
theorem Tryz.cellsNam:Tryz.prog.cellsOf 378=14:=by kernel_rfl
theorem Tryz.cellsTab:Tryz.prog.cellsOf 381=20:=by kernel_rfl
theorem Tryz.cells9:Tryz.prog.cellsOf 9=1:=by kernel_rfl
theorem Tryz.cellsU64:Tryz.prog.cellsOf 284=1:=by kernel_rfl
theorem names_of_laid{H:Type}{enc:cR×Value->H}{w:World}{base:Nat}{sp:Nat->Bool}{held:Bool}{fuel:Nat}{cs:Array Value}{p}(Q:w.var? aB "cairn/lock.names" = some cs)
  (h:DataW.trod enc aB w base sp held fuel 378 cs.toList=some (Rows.laid_cairn_lock_names,p)):w.var? aB "cairn/lock.names" = some Zbd:=by
 have e:=Dw (ss:=namesBytes) underlying378 Tryz.cellsNam Tryz.cells9 h;rw[Q]
 congr 1
 obtain⟨l⟩:=cs;have z:l=namesBytes.map λb=>Value.string ⟨b.toArray⟩:=e;rw[z];rfl
theorem tab_of_laid{H:Type}{enc:cR×Value->H}{w:World}{base:Nat}{sp:Nat->Bool}{held:Bool}{fuel:Nat}{cs:Array Value}{p}(Q:w.var? aB "internal/strconv.uint64pow10" = some cs)
  (h:DataW.trod enc aB w base sp held fuel 381 cs.toList=some (Rows.laid_internal_strconv_uint64pow10,p)):Lib.TabIs aB w "internal/strconv.uint64pow10" .u64 Lib.pow10Tab:=by
 have e:=Lib.cells_of_tab (zs:=Lib.pow10Tab) underlying381 underlying284 Tryz.cellsU64 Tryz.cellsTab h;unfold Lib.TabIs;rw[Q]
 congr 1
 obtain⟨l⟩:=cs;have z:l=Lib.pow10Tab.map λab=>Value.int .u64 ab:=e;rw[z]
theorem Tryz.cellsOp:Tryz.prog.cellsOf 164=2:=by kernel_rfl
theorem Tryz.cells3:Tryz.prog.cellsOf 3=1:=by kernel_rfl
theorem Sl{H:Type}{enc:cR×Value->H}{W}{sp:Nat->Bool}{held:Bool}{fuel:Nat}{a len cap}{x:DataW H×List MemPlace}
  (h:DataW.trod enc aB W 0 sp held fuel 48 [F a len cap]=some x):(∃ l,OpsAt W a len l)/\(a=none->len=0/\cap=0):=by
 rcases Deep.open_slice_pairs underlying48 underlying164 Tryz.cellsOp rfl rfl Tryz.cells3 Tryz.cells3 h with ⟨z,_⟩|⟨b,l,c,m,n,V0,V1,D0,D1,P0,P1,z,_,hl,_,hm,_,ae⟩
 ·simp at z;obtain⟨rfl,rfl,rfl⟩:=z;exact⟨⟨[],rfl,λh=>absurd h (by omega)⟩,λ_=>⟨rfl,rfl⟩⟩
 ·simp at z;obtain⟨rfl,rfl,rfl⟩:=z;refine⟨?_,λh=>by cases h⟩;have ax:len<=m:=by rw[hm];split <;> omega
  have each:∀ i,i<len->∃ q:Int×Int,W.cell? (b.add (i*2))=some (.int .i64 q.1)/\W.cell? (b.add (i*2+1))=some (.int .i64 q.2):=λi hi=>by
   obtain⟨h1,h2,t1,t2⟩:=ae i (by omega);obtain⟨z1,e1,_,_⟩:=cB bC t1;obtain⟨z2,e2,_,_⟩:=cB bC t2;simp only[cS,and_true] at e1 e2;exact⟨(z1,z2),by rw[h1,e1],by rw[h2,e2]⟩
  obtain⟨f,hf⟩:=Deep.choose_lt each;refine⟨(List.range len).map f,by simp,λag=>?_⟩;obtain⟨Q,off,aj⟩:=b;have ah:aj=none:=by simpa[Addr.add] using World.cell?_spot (hf 0 ag).1
  subst ah;refine⟨Q,off,rfl,λi hi=>?_⟩;have ac:∀ j,(⟨Q,off,none⟩:Addr).add j=⟨Q,off+j,none⟩:=λj=>by unfold Addr.add;split <;> simp_all
  have h1:=hf i hi;rw[ac,ac] at h1;rw[<-Nat.add_assoc] at h1;simpa[hi] using h1
