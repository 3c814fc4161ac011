import Derived.Test.YtpikejjiignchaaGreatDoorG47
open Go.Proofs.Tryz
open Go renaming TypeId->bO,DataW->dA,MemPlace->cW
open Go.DataW renaming trod->bI,trod_int->bV
open Go.Proofs.Tryz renaming prog->aB,underlying66->dR,underlying3->aG,underlying29->bR
open Go.Value renaming slice->F
open Go.World renaming block_lt_of_cell?->aC
open List renaming length_take->bG,mem_append->cI,mem_cons->bU
open List.cons renaming injEq->dM
open Nat renaming le_refl->aE,zero_le->aP
namespace Go.Proofs.YtpikejjiignchaaGreatDoor.Tr
open Go.ChangeShapes Go.WideShapes Go.ChangeAt Go.RowKit
theorem own:ownKnob Tryz.prog.godebug=none:=by kernel_rfl
theorem Sd:laidOutB aB=true:=by kernel_rfl
theorem Tryz.cells4:Tryz.prog.cellsOf 4=1:=by kernel_rfl
theorem Tryz.cellsOp:Tryz.prog.cellsOf 122=2:=by kernel_rfl
theorem Tryz.cells3:Tryz.prog.cellsOf 3=1:=by kernel_rfl
theorem Gi{H:Type}{enc:bO×Value->H}{W}{sp:Nat->Bool}{held:Bool}{fuel:Nat}{a len cap}{x:dA H×List cW}
  (h:bI enc aB W 0 sp held fuel 66 [F a len cap]=some x):(∃ l,OpsAt W a len l)/\(a=none->len=0/\cap=0):=by
 rcases Deep.open_slice_pairs dR underlying122 Tryz.cellsOp rfl rfl Tryz.cells3 Tryz.cells3 h with ⟨z,_⟩|⟨b,l,c,m,n,V0,V1,D0,D1,P0,P1,z,_,hl,_,hm,_,af⟩
 ·simp at z;obtain⟨rfl,rfl,rfl⟩:=z;exact⟨⟨[],rfl,λh=>absurd h (by omega)⟩,λ_=>⟨rfl,rfl⟩⟩
 ·simp at z;obtain⟨rfl,rfl,rfl⟩:=z;refine⟨?_,λh=>by cases h⟩;have aw:len<=m:=by rw[hm];split <;> omega
  have ae:∀ i,i<len->∃ q:Int×Int,W.cell? (b.add (i*2))=some (.int .i64 q.1)/\W.cell? (b.add (i*2+1))=some (.int .i64 q.2):=λi hi=>by
   obtain⟨h1,h2,t1,t2⟩:=af i (by omega);obtain⟨z1,e1,_,_⟩:=bV aG t1;obtain⟨z2,e2,_,_⟩:=bV aG t2;simp only[dM,and_true] at e1 e2;exact⟨(z1,z2),by rw[h1,e1],by rw[h2,e2]⟩
  obtain⟨f,hf⟩:=Deep.choose_lt ae;refine⟨(List.range len).map f,by simp,λah=>?_⟩;obtain⟨O,off,aj⟩:=b;have ai:aj=none:=by simpa[Addr.add] using World.cell?_spot (hf 0 ah).1
  subst ai;refine⟨O,off,rfl,λi hi=>?_⟩;have ac:∀ j,(⟨O,off,none⟩:Addr).add j=⟨O,off+j,none⟩:=λj=>by unfold Addr.add;split <;> simp_all
  have h1:=hf i hi;rw[ac,ac] at h1;rw[<-Nat.add_assoc] at h1;simpa[hi] using h1
theorem Tryz.cellsTx:Tryz.prog.cellsOf 52=3:=by kernel_rfl
theorem Tryz.cellsIn:Tryz.prog.cellsOf 124=3:=by kernel_rfl
theorem Tryz.cellsOut:Tryz.prog.cellsOf 101=2:=by kernel_rfl
theorem Tryz.cellsPoint:Tryz.prog.cellsOf 99=2:=by kernel_rfl
theorem Tryz.cellsOps:Tryz.prog.cellsOf 66=1:=by kernel_rfl
theorem Tryz.cellsIns:Tryz.prog.cellsOf 49=1:=by kernel_rfl
theorem Tryz.cellsOuts:Tryz.prog.cellsOf 50=1:=by kernel_rfl
theorem list_two{cs:List Value}(h:cs.length=2):∃ a b,cs=[a,b]:=by
 match cs,h with
 | [a,b],_=>exact⟨a,b,rfl⟩
theorem Ro{cs:List Value}(h:cs.length=3):∃ a b c,cs=[a,b,c]:=by
 match cs,h with
 | [a,b,c],_=>exact⟨a,b,c,rfl⟩
theorem Tryz.cellsBlk:Tryz.prog.cellsOf 68=5:=by kernel_rfl
theorem Tryz.cellsTree:Tryz.prog.cellsOf 28=2:=by kernel_rfl
theorem Tryz.cellsTxs:Tryz.prog.cellsOf 48=1:=by kernel_rfl
theorem Tryz.cellsBlks:Tryz.prog.cellsOf 26=1:=by kernel_rfl
theorem Tryz.cellsInts:Tryz.prog.cellsOf 25=1:=by kernel_rfl
theorem Aj{cs:List Value}(h:cs.length=5):∃ a b c d e,cs=[a,b,c,d,e]:=by
 match cs,h with
 | [a,b,c,d,e],_=>exact⟨a,b,c,d,e,rfl⟩
section
variable {H : Type} {enc : TypeId × Value -> H} {W : World} {sp : Nat -> Bool} {held : Bool} {fuel : Nat}
theorem ops_full{v}{x:dA H×List cW}(h:bI enc aB W 0 sp held fuel 66 [v]=some x):∃ a n c l,v = F a n c/\OpsAt W a n l/\SlOk a n c:=by
 have h':=h
 rcases Deep.open_slice dR h with ⟨z,_⟩|⟨b,l,c,m,n,D,Pl,z,_,hl,hm,_⟩
 ·simp at z;subst z;exact⟨none,0,0,[],rfl,⟨rfl,λh=>absurd h (by omega)⟩,aE _,aP _,λ_=>⟨rfl,rfl⟩⟩
 ·simp at z;subst z;obtain⟨⟨L,O⟩,_⟩:=Gi h';exact⟨some b,l,c,L,rfl,O,hl,hm,λh=>by cases h⟩
theorem Zga{cs}{x:dA H×List cW}(h:bI enc aB W 0 sp held fuel 124 cs=some x):∃ z O a n c l,cs=[.int .i64 z,.int .i64 O,F a n c]/\OpsAt W a n l/\SlOk a n c:=by
 obtain⟨y0,y1,k,_,hl,h0,h1⟩:=trod_struct2 underlying124 h;rw[Tryz.cellsIn] at hl;obtain⟨c0,c1,c2,rfl⟩:=Ro hl;simp[Tryz.cellsPoint,Tryz.cellsOps] at h0 h1;obtain⟨z0,z1,k2,_,_,g0,g1⟩:=trod_struct2 underlying99 h0;simp[Tryz.cells3] at g0 g1;obtain⟨z,e1,_,_⟩:=bV aG g0;obtain⟨O,e2,_,_⟩:=bV aG g1;obtain⟨a,n,c,l,rfl,hO,hS⟩:=ops_full h1;simp only[dM,and_true] at e1 e2;subst e1 e2;exact⟨z,O,a,n,c,l,rfl,hO,hS⟩
theorem Zbc{cs}{x:dA H×List cW}(h:bI enc aB W 0 sp held fuel 101 cs=some x):∃ z a n c l,cs=[.int .i64 z,F a n c]/\OpsAt W a n l/\SlOk a n c:=by
 obtain⟨y0,y1,k,_,hl,h0,h1⟩:=trod_struct2 underlying101 h;rw[Tryz.cellsOut] at hl;obtain⟨c0,c1,rfl⟩:=list_two hl;simp[Tryz.cells3,Tryz.cellsOps] at h0 h1;obtain⟨z,O,_,_⟩:=bV aG h0;obtain⟨a,n,c,l,rfl,hO,hS⟩:=ops_full h1;simp only[dM,and_true] at O;subst O;exact⟨z,a,n,c,l,rfl,hO,hS⟩
theorem T9{α : Type}[Inhabited α](Z:Rec α){ts t:bO}(hu:Tryz.prog.underlying ts=some (.slice t))(hc:Tryz.prog.cellsOf t=Z.sz)(ag:0<Z.sz)
  (aq:∀ (fuel:Nat) (cs:List Value) (x:dA H×List cW),bI enc aB W 0 sp held fuel t cs=some x->∃ y,Z.C W cs y)
  {v} {x:dA H×List cW} (h:bI enc aB W 0 sp held fuel ts [v]=some x):∃ a n c l,v = F a n c/\RowsAt Z.R Z.sz W a n l/\SlOk a n c:=by
 rcases Deep.open_slice hu h with ⟨z,_⟩|⟨b,l,c,m,n,D,Pl,z,_,hl,hm,ax,_,ap⟩
 ·simp at z;subst z;exact⟨none,0,0,[],rfl,RowsAt.nil _ _,aE _,aP _,λ_=>⟨rfl,rfl⟩⟩
 ·simp at z;subst z;have bf:l<=m:=by rw[ax];split <;> omega
  have ak:∀ i,i<l->∃ q : α,∃ cs,(∀ j,j<Z.sz->W.cell? (b.add (i*Z.sz+j))=cs[j]?)/\Z.C W cs q:=λi hi=>by
   obtain⟨ai,h1,h2⟩:=ap i (by omega);rw[hc] at h1;obtain⟨_,_,ao⟩:=World.cells?_some h1;obtain⟨y,hy⟩:=aq _ _ _ h2;exact⟨y,ai,λj O=>by rw[<-ao j O,Deep.add_add],hy⟩
  obtain⟨f,hf⟩:=Deep.choose_lt ak;refine⟨some b,l,c,(List.range l).map f,rfl,⟨by simp,λay=>?_⟩,hl,hm,λh=>by cases h⟩;obtain⟨bg,off,bd⟩:=b;have ae:∀ j,(⟨bg,off,none⟩:Addr).add j=⟨bg,off+j,none⟩:=λj=>by unfold Addr.add;split <;> simp_all
  obtain⟨ac,an,al⟩:=hf 0 ay;have bb:=Z.wide _ _ _ al;have z0:=an 0 ag;have e0:ac[0]? = some (ac[0]'(by omega)):=by simp[bb,ag]
  rw[e0] at z0;have az:bd=none:=by simpa[Addr.add] using World.cell?_spot z0
  subst az;refine⟨bg,off,rfl,by rw[ae] at z0;exact aC _ _ z0,λi hi=>?_⟩;have ar:i<l:=by simpa using hi
  obtain⟨cs,z,hC⟩:=hf i ar;rw[List.getElem_map,List.getElem_range];refine Z.cr _ _ _ cs _ (λj u O=>?_) hC;have au:j<Z.sz:=by rw[<-Z.wide _ _ _ hC];exact (List.getElem?_eq_some_iff.1 O).1
  have:=z j au;rw[ae,<-Nat.add_assoc,O] at this;exact this
theorem Znq{cs}{x:dA H×List cW}(h:bI enc aB W 0 sp held fuel 52 cs=some x):∃ y,txR.C W cs y:=by
 obtain⟨y0,y1,y2,k,_,hl,h0,h1,h2⟩:=Deep.trod_struct3 underlying52 h;rw[Tryz.cellsTx] at hl;obtain⟨c0,c1,c2,rfl⟩:=Ro hl;simp[Tryz.cells3,Tryz.cellsIns,Tryz.cellsOuts] at h0 h1 h2;obtain⟨hh,e0,_,_⟩:=bV aG h0
 obtain⟨ai,ni,ci,I,rfl,hI,sI⟩:=T9 inR underlying49 Tryz.cellsIn (by decide) (λ_ _ _ q=>by
  obtain⟨x1,x2,a,n,c,l,rfl,z,O⟩:=Zga q;exact⟨(x1,x2,l),a,n,c,rfl,z,O⟩) h1
 obtain⟨ao,no,co,au,rfl,z,sO⟩:=T9 outR underlying50 Tryz.cellsOut (by decide) (λ_ _ _ q=>by
  obtain⟨x1,a,n,c,l,rfl,z,O⟩:=Zbc q;exact⟨(x1,l),a,n,c,rfl,z,O⟩) h2
 simp only[dM,and_true] at e0;subst e0;exact⟨(hh,I,au),ai,ni,ci,ao,no,co,rfl,hI,sI,z,sO⟩
theorem P7{t:bO}{z O f2 f3 f4:Field}{cs:List Value}{x:dA H×List cW}(ht:Tryz.prog.underlying t=some (.struct #[z,O,f2,f3,f4]))(h:bI enc aB W 0 sp held fuel t cs=some x) :
  ∃ y0 y1 y2 y3 y4 n,cs.length=Tryz.prog.cellsOf t/\bI enc aB W 0 sp held n z.type ((cs.drop z.offset).take (Tryz.prog.cellsOf z.type))=some y0 /\
   bI enc aB W 0 sp held n O.type ((cs.drop O.offset).take (Tryz.prog.cellsOf O.type))=some y1/\bI enc aB W 0 sp held n f2.type ((cs.drop f2.offset).take (Tryz.prog.cellsOf f2.type))=some y2 /\
   bI enc aB W 0 sp held n f3.type ((cs.drop f3.offset).take (Tryz.prog.cellsOf f3.type))=some y3/\bI enc aB W 0 sp held n f4.type ((cs.drop f4.offset).take (Tryz.prog.cellsOf f4.type))=some y4:=by
 obtain⟨xs,n,_,rfl,hl,aj,hf⟩:=DataW.trod_struct ht h
 match xs,aj with
 | [y0,y1,y2,y3,y4],_=>exact⟨y0,y1,y2,y3,y4,n,hl,by simpa using hf 0 z rfl,by simpa using hf 1 O rfl,by simpa using hf 2 f2 rfl,by simpa using hf 3 f3 rfl,by simpa using hf 4 f4 rfl⟩
theorem Znd{cs}{x:dA H×List cW}(h:bI enc aB W 0 sp held fuel 68 cs=some x):∃ y,blkR.C W cs y:=by
 obtain⟨y0,y1,y2,y3,y4,k,hl,h0,h1,h2,h3,h4⟩:=P7 underlying68 h;rw[Tryz.cellsBlk] at hl;obtain⟨c0,c1,c2,c3,c4,rfl⟩:=Aj hl;simp[Tryz.cells3,Tryz.cellsTxs] at h0 h1 h2 h3 h4;obtain⟨x0,z,_,_⟩:=bV aG h0;obtain⟨x1,O,_,_⟩:=bV aG h1;obtain⟨x2,e2,_,_⟩:=bV aG h2;obtain⟨x3,e3,_,_⟩:=bV aG h3;obtain⟨a,n,c,T,rfl,hT,sT⟩:=T9 txR underlying48 Tryz.cellsTx (by decide) (λ_ _ _ q=>Znq q) h4;simp only[dM,and_true] at z O e2 e3;subst z O e2 e3;exact⟨(x0,x1,x2,x3,T),a,n,c,rfl,hT,sT⟩
theorem Zim{v}{x:dA H×List cW}(h:bI enc aB W 0 sp held fuel 25 [v]=some x):∃ a n c l,v = F a n c/\IntsAt W a n l/\SlOk a n c:=by
 rcases open_ints underlying25 aG (by kernel_rfl) h with ⟨z,_⟩|⟨b,l,c,zs,z,_,hl,hm,hz,_,ac,_⟩
 ·simp at z;subst z;exact⟨none,0,0,[],rfl,IntsAt.nil _ _,aE _,aP _,λ_=>⟨rfl,rfl⟩⟩
 ·simp at z;subst z;have ai:l<=zs.length:=by rw[hz];split <;> omega
  refine⟨some b,l,c,zs.take l,rfl,⟨by rw[bG];omega,λaj=>?_⟩,hl,hm,λh=>by cases h⟩;obtain⟨O,off,ah⟩:=b;have z0:=ac 0 (by omega);have af:ah=none:=by simpa[Addr.add] using World.cell?_spot z0
  subst af;have ab:∀ j,(⟨O,off,none⟩:Addr).add j=⟨O,off+j,none⟩:=λj=>by unfold Addr.add;split <;> simp_all
  refine⟨O,off,rfl,by rw[ab] at z0;exact aC _ _ z0,λi hi=>?_⟩;rw[bG] at hi;have:=ac i (by omega);rw[ab] at this;rw[this,List.getElem_take];simp[List.getD,(by omega:i<zs.length)]
theorem tree_full{cs}{x:dA H×List cW}(h:bI enc aB W 0 sp held fuel 28 cs=some x):∃ a n c b m d N T,cs=[F a n c,F b m d]/\IntsAt W a n N/\SlOk a n c/\BlksAt W b m T/\SlOk b m d:=by
 obtain⟨y0,y1,k,_,z,h0,h1⟩:=trod_struct2 underlying28 h;rw[Tryz.cellsTree] at z;obtain⟨c0,c1,rfl⟩:=list_two z;simp[Tryz.cellsInts,Tryz.cellsBlks] at h0 h1;obtain⟨a,n,c,N,rfl,O,sN⟩:=Zim h0;obtain⟨b,m,d,T,rfl,hT,sT⟩:=T9 blkR underlying26 Tryz.cellsBlk (by decide) (λ_ _ _ q=>Znd q) h1;exact⟨a,n,c,b,m,d,N,T,rfl,O,sN,hT,sT⟩
end
end Tr
open Go.ChangeShapes Go.WideShapes Go.ChangeAt Go.RowKit
theorem Tryz.bytesOp:Tryz.prog.bytesOf 122=16:=by kernel_rfl
theorem Zib{H:Type}{enc:bO×Value->H}{W}{sp:Nat->Bool}{held:Bool}{fuel:Nat}{v}{x:dA H×List cW}(h:bI enc aB W 0 sp held fuel 66 [v]=some x) :
  ∃ a n c l,v = F a n c/\OpsAt W a n l/\SlOk a n c/\(n=0\/∃ aa ae,x.1 = .slice aa ae/\aa.length=n):=by
 obtain⟨a,n,c,l,O,hO,hs⟩:=Tr.ops_full h;refine⟨a,n,c,l,O,hO,hs,?_⟩
 rcases Deep.open_slice dR h with ⟨z,_⟩|⟨b,l,c,m,k,D,Pl,z,_,hl,hm,_,hx,_⟩
 ·simp at z;rw[O] at z;injection z with _ e _;exact .inl e
 ·simp at z;rw[O] at z;injection z with _ e _;subst e;exact .inr ⟨_,_,by rw[hx],by simp⟩
open Go.ChangeShapes Go.WideShapes Go.ChangeAt Go.RowKit
def Fits{H:Type}(t:bO)(d:dA H):Prop:=∀ x∈d.weights aB t,x<=reachBytes
section
variable {H : Type} {enc : TypeId × Value -> H} {W : World} {sp : Nat -> Bool} {held : Bool} {fuel : Nat}
theorem Zgl{e:bO}:∀ {z:List (dA H)} {d:dA H},d∈z->∀ x∈d.weights aB e,x∈DataW.weightsAll aB e z
 | d0 :: z,d,h,x,hx=>by
  rw[DataW.weightsAll,cI]
  rcases bU.1 h with rfl|h
  ·exact .inl hx
  ·exact .inr (Zgl h x hx)
theorem Fits.rows{t e:bO}{z sp:List (dA H)}(h:Fits t (.slice z sp))(hu:Tryz.prog.underlying t=some (.slice e)):z.length*Tryz.prog.bytesOf e<=reachBytes/\∀ d∈z,Fits e d:=by
 unfold Fits at h;simp only[DataW.weights,hu,bU,cI] at h;refine⟨Nat.le_trans (Nat.mul_le_mul_right _ (Nat.le_add_right _ _)) (h _ (.inl rfl)),λd O x hx=>h x (.inr (.inl (Zgl O x hx)))⟩
theorem Fits.two{t:bO}{f0 f1:Field}{O d1:dA H}(h:Fits t (.agg [O,d1]))(hu:Tryz.prog.underlying t=some (.struct #[f0,f1])):Fits f0.type O/\Fits f1.type d1:=by
 unfold Fits at h;simp only[DataW.weights,hu,DataW.weightsEach,List.map_cons,List.map_nil,cI] at h;exact⟨λx z=>h x (.inl z),λx z=>h x (.inr (.inl z))⟩
theorem Zlh{v}{x:dA H×List cW}(h:bI enc aB W 0 sp held fuel 66 [v]=some x)(O:Fits 66 x.1) :
  ∃ a n c l,v = F a n c/\OpsAt W a n l/\SlOk a n c/\l.length<=8796093022208:=by
 obtain⟨a,n,c,l,hv,z,hs,hd⟩:=Zib h;refine⟨a,n,c,l,hv,z,hs,?_⟩;rw[z.1]
 rcases hd with e|⟨es,sp,hx,hn⟩
 ·omega
 ·rw[hx] at O;have:=(O.rows dR).1;rw[hn,Tryz.bytesOp] at this;unfold reachBytes at this;omega
theorem Zlg{cs}{x:dA H×List cW}(h:bI enc aB W 0 sp held fuel 101 cs=some x)(O:Fits 101 x.1):∃ y,Tr.outR.C W cs y/\y.2.length<=8796093022208:=by
 obtain⟨y0,y1,k,hx,hl,h0,h1⟩:=trod_struct2 underlying101 h;rw[hx] at O;have ad:=(O.two underlying101).2;rw[Tr.Tryz.cellsOut] at hl;obtain⟨c0,c1,rfl⟩:=Tr.list_two hl;simp[Tr.Tryz.cells3,Tr.Tryz.cellsOps] at h0 h1;obtain⟨x1,z,_,_⟩:=bV aG h0;obtain⟨a,n,c,l,rfl,hO,hS,hn⟩:=Zlh h1 ad;simp only[dM,and_true] at z;subst z;exact⟨(x1,l),⟨a,n,c,rfl,hO,hS⟩,hn⟩
end
open Go.ChangeShapes Go.WideShapes Go.ChangeAt Go.RowKit
theorem Tryz.bytesCoin:Tryz.prog.bytesOf 103=64:=by kernel_rfl
section
variable {H : Type} {enc : TypeId × Value -> H} {W : World} {sp : Nat -> Bool} {held : Bool} {fuel : Nat}
theorem Fits.four{t:bO}{f0 z f2 f3:Field}{O d1 d2 d3:dA H}(h:Fits t (.agg [O,d1,d2,d3]))(hu:Tryz.prog.underlying t=some (.struct #[f0,z,f2,f3])):Fits z.type d1:=by
 unfold Fits at h;simp only[DataW.weights,hu,DataW.weightsEach,List.map_cons,List.map_nil,cI] at h;exact λx hx=>h x (.inr (.inl hx))
theorem Ziu{cs}{x:dA H×List cW}(h:bI enc aB W 0 sp held fuel 103 cs=some x)(hf:Fits 103 x.1):∃ (q:Zf) (a:Option Addr) (n c:Nat),cs=[.int .i64 q.1,.int .i64 q.2.1,.int .i64 (cv q),F a n c,.int .i64 (ch q),.bool (cr q)]/\OpsAt W a n (ck q)/\SlOk a n c/\(ck q).length<=8796093022208:=by
 obtain⟨y0,y1,y2,y3,k,hx,hl,h0,h1,h2,h3⟩:=Joins.trod_struct4 underlying103 h;rw[hx] at hf;have ah:=hf.four underlying103;rw[Tryz.cellsCoin] at hl;obtain⟨c0,c1,c2,c3,c4,c5,rfl⟩:=Zlw hl;simp[Tryz.cellsPoint,Tryz.cellsOut,Tryz.cells3,Tryz.cells4] at h0 h1 h2 h3;obtain⟨z0,z1,k2,_,_,g0,g1⟩:=trod_struct2 underlying99 h0;simp[Tryz.cells3] at g0 g1;obtain⟨x1,z,_,_⟩:=bV aG g0;obtain⟨x2,O,_,_⟩:=bV aG g1;obtain⟨⟨x3,l⟩,⟨a,n,c,e3,hO,hS⟩,hn⟩:=Zlg h1 ah;obtain⟨x4,e4,_,_⟩:=bV aG h2;obtain⟨x5,e5,_⟩:=DataW.trod_bool underlying4 h3;simp only[dM,and_true] at z O e3 e4 e5;obtain⟨rfl,rfl⟩:=e3;subst z O e4 e5;exact⟨(x1,x2,x3,l,x4,x5),a,n,c,rfl,hO,hS,hn⟩
theorem Zel{v}{x:dA H×List cW}(h:bI enc aB W 0 sp held fuel 29 [v]=some x)(au:Fits 29 x.1):∃ a n c l,v = F a n c/\CoinsAt W a n l/\SlOk a n c/\n<=2199023255552/\∀ y∈l,(ck y).length<=8796093022208:=by
 rcases Deep.open_slice bR h with ⟨O,_⟩|⟨b,l,c,m,n,D,Pl,O,_,hl,hm,bd,bg,az⟩
 ·simp at O;subst O;exact⟨none,0,0,[],rfl,RowsAt.nil _ _,⟨aE _,aP _,λ_=>⟨rfl,rfl⟩⟩,by simp,λy h=>by cases h⟩
 ·simp at O;subst O;rw[bg] at au;have aw:=au.rows bR;have av:l*Tryz.prog.bytesOf 103<=reachBytes:=by simpa using aw.1
  rw[Tryz.bytesCoin] at av;unfold reachBytes at av;have bn:l<=m:=by rw[bd];split <;> omega
  have ay:∀ i,i<l->∃ q:Zf,∃ a n c,W.cell? (b.add (i*6))=some (.int .i64 q.1)/\W.cell? (b.add (i*6+1))=some (.int .i64 q.2.1)/\W.cell? (b.add (i*6+2))=some (.int .i64 (cv q))/\W.cell? (b.add (i*6+3))=some (F a n c)/\W.cell? (b.add (i*6+4))=some (.int .i64 (ch q))/\W.cell? (b.add (i*6+5))=some (.bool (cr q))/\OpsAt W a n (ck q)/\SlOk a n c/\(ck q).length<=8796093022208:=λi hi=>by
   obtain⟨bk,h1,h2⟩:=az i (by omega);rw[Tryz.cellsCoin] at h1;obtain⟨_,_,z⟩:=World.cells?_some h1;obtain⟨q,a,n,c,rfl,hO,hS,hq⟩:=Ziu h2 (aw.2 _ (List.mem_map.2 ⟨i,List.mem_range.2 hi,rfl⟩));have e0:=z 0 (by omega);have e1:=z 1 (by omega);have e2:=z 2 (by omega);have e3:=z 3 (by omega);have e4:=z 4 (by omega);have e5:=z 5 (by omega);rw[Deep.add_add] at e0 e1 e2 e3 e4 e5;exact⟨q,a,n,c,by simpa using e0,by simpa using e1,by simpa using e2,by simpa using e3,by simpa using e4,by simpa using e5,hO,hS,hq⟩
  obtain⟨f,hf⟩:=Deep.choose_lt ay
  refine⟨some b,l,c,(List.range l).map f,rfl,⟨by simp,λbe=>?_⟩,⟨hl,hm,λh=>by cases h⟩,by omega,λy hy=>by
   obtain⟨i,hi,rfl⟩:=List.mem_map.1 hy;obtain⟨_,_,_,_,_,_,_,_,_,_,_,hq⟩:=hf i (List.mem_range.1 hi);exact hq⟩
  obtain⟨bb,off,bi⟩:=b;obtain⟨_,_,_,z0,_⟩:=hf 0 be;have bf:bi=none:=by simpa[Addr.add] using World.cell?_spot z0
  subst bf;have ar:∀ j,(⟨bb,off,none⟩:Addr).add j=⟨bb,off+j,none⟩:=λj=>by unfold Addr.add;split <;> simp_all
  refine⟨bb,off,rfl,by rw[ar] at z0;exact aC _ _ z0,λi hi=>?_⟩;have ba:i<l:=by simpa using hi
  obtain⟨a,n,c,q0,q1,q2,q3,q4,q5,hO,hS,_⟩:=hf i ba;rw[ar] at q0 q1 q2 q3 q4 q5;rw[<-Nat.add_assoc] at q1 q2 q3 q4 q5;rw[List.getElem_map,List.getElem_range];exact⟨q0,q1,q2,⟨a,n,c,q3,hO,hS⟩,q4,q5⟩
end
