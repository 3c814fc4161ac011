import Derived.Test.YtmomfkikogbdeaaGreatDoorG47
open Go.Proofs.Tryz
open Go renaming TypeId->bO,DataW->cM,MemPlace->bU
open Go.DataW renaming trod->aT,trod_int->aX
open Go.Proofs.Tryz renaming prog->aB,underlying48->cS,underlying3->aO
open Go.Value renaming slice->F
open List renaming mem_append->cH,mem_cons->bC
open List.cons renaming injEq->bJ
set_option maxRecDepth 10000
namespace Go.Proofs.YtmomfkikogbdeaaGreatDoor
open Go.ChangeShapes Go.WideShapes Go.ChangeAt Go.RowKit
theorem Tryz.bytesOp:Tryz.prog.bytesOf 164=16:=by kernel_rfl
theorem Zad{H:Type}{enc:bO×Value->H}{W:World}{sp:Nat->Bool}{held:Bool}{fuel:Nat}{v:Value}{x:cM H×List bU}(h:aT enc aB W 0 sp held fuel 48 [v]=some x) :
  ∃ a n c l,v = F a n c/\OpsAt W a n l/\SlOk a n c/\(n=0\/∃ aa ad,x.1 = .slice aa ad/\aa.length=n):=by
 obtain⟨a,n,c,l,Q,hO,hs⟩:=Tr.ops_full h;refine⟨a,n,c,l,Q,hO,hs,?_⟩
 rcases Deep.open_slice cS h with ⟨z,_⟩|⟨b,l,c,m,k,D,Pl,z,_,hl,hm,_,hx,_⟩
 ·simp at z;rw[Q] at z;injection z with _ e _;exact .inl e
 ·simp at z;rw[Q] at z;injection z with _ e _;subst e;exact .inr ⟨_,_,by rw[hx],by simp⟩
open Go.ChangeShapes Go.WideShapes Go.ChangeAt Go.RowKit
def Fits{H:Type}(t:bO)(d:cM H):Prop:=∀ x∈d.weights aB t,x<=reachBytes
theorem Tryz.bytesIn:Tryz.prog.bytesOf 119=40:=by kernel_rfl
theorem Tryz.bytesOut:Tryz.prog.bytesOf 122=32:=by kernel_rfl
theorem Tryz.bytesTx:Tryz.prog.bytesOf 59=56:=by kernel_rfl
theorem Tryz.cellsNode:Tryz.prog.cellsOf 67=4:=by kernel_rfl
theorem Zaq{cs:List Value}(h:cs.length=4):∃ a b c d,cs=[a,b,c,d]:=by
 match cs,h with
 | [a,b,c,d],_=>exact⟨a,b,c,d,rfl⟩
section
variable {H : Type} {enc : TypeId × Value -> H} {W : World} {sp : Nat -> Bool} {held : Bool} {fuel : Nat}
theorem Ef{e:bO}:∀ {z:List (cM H)} {d:cM H},d∈z->∀ x∈d.weights aB e,x∈DataW.weightsAll aB e z
 | d0 :: z,d,h,x,hx=>by
  rw[DataW.weightsAll,cH]
  rcases bC.1 h with rfl|h
  ·exact .inl hx
  ·exact .inr (Ef h x hx)
theorem Fits.rows{t e:bO}{z sp:List (cM H)}(h:Fits t (.slice z sp))(hu:Tryz.prog.underlying t=some (.slice e)):z.length*Tryz.prog.bytesOf e<=reachBytes/\∀ d∈z,Fits e d:=by
 unfold Fits at h;simp only[DataW.weights,hu,bC,cH] at h;refine⟨Nat.le_trans (Nat.mul_le_mul_right _ (Nat.le_add_right _ _)) (h _ (.inl rfl)),λd Q x hx=>h x (.inr (.inl (Ef Q x hx)))⟩
theorem Fits.two{t:bO}{f0 f1:Field}{z Q:cM H}(h:Fits t (.agg [z,Q]))(hu:Tryz.prog.underlying t=some (.struct #[f0,f1])):Fits f0.type z/\Fits f1.type Q:=by
 unfold Fits at h;simp only[DataW.weights,hu,DataW.weightsEach,List.map_cons,List.map_nil,cH] at h;exact⟨λx hx=>h x (.inl hx),λx hx=>h x (.inr (.inl hx))⟩
theorem Fits.three{t:bO}{f0 f1 f2:Field}{z Q d2:cM H}(h:Fits t (.agg [z,Q,d2]))(hu:Tryz.prog.underlying t=some (.struct #[f0,f1,f2])):Fits f0.type z/\Fits f1.type Q/\Fits f2.type d2:=by
 unfold Fits at h;simp only[DataW.weights,hu,DataW.weightsEach,List.map_cons,List.map_nil,cH] at h;exact⟨λx hx=>h x (.inl hx),λx hx=>h x (.inr (.inl hx)),λx hx=>h x (.inr (.inr (.inl hx)))⟩
theorem De{v:Value}{x:cM H×List bU}(h:aT enc aB W 0 sp held fuel 48 [v]=some x)(Q:Fits 48 x.1) :
  ∃ a n c l,v = F a n c/\OpsAt W a n l/\SlOk a n c/\l.length<=8796093022208:=by
 obtain⟨a,n,c,l,hv,z,hs,hd⟩:=Zad h;refine⟨a,n,c,l,hv,z,hs,?_⟩;rw[z.1]
 rcases hd with e|⟨es,sp,hx,hn⟩
 ·omega
 ·rw[hx] at Q;have:=(Q.rows cS).1;rw[hn,Tryz.bytesOp] at this;unfold reachBytes at this;omega
theorem Zhk{cs:List Value}{x:cM H×List bU}(h:aT enc aB W 0 sp held fuel 119 cs=some x)(hf:Fits 119 x.1):∃ y,Tr.inR.C W cs y/\y.2.2.length<=8796093022208:=by
 obtain⟨y0,y1,k,hx,hl,h0,h1⟩:=trod_struct2 underlying119 h;rw[hx] at hf;have af:=(hf.two underlying119).2;rw[Tr.Tryz.cellsIn] at hl;obtain⟨c0,c1,c2,rfl⟩:=Tr.list_three hl;simp[Tr.Tryz.cellsPoint,Tr.Tryz.cellsOps] at h0 h1;obtain⟨z0,z1,k2,_,_,g0,g1⟩:=trod_struct2 underlying117 h0;simp[Tr.Tryz.cells3] at g0 g1;obtain⟨x1,z,_,_⟩:=aX aO g0;obtain⟨x2,Q,_,_⟩:=aX aO g1;obtain⟨a,n,c,l,rfl,hO,hS,hn⟩:=De h1 af;simp only[bJ,and_true] at z Q;subst z Q;exact⟨(x1,x2,l),⟨a,n,c,rfl,hO,hS⟩,hn⟩
theorem Zdk{cs:List Value}{x:cM H×List bU}(h:aT enc aB W 0 sp held fuel 122 cs=some x)(Q:Fits 122 x.1):∃ y,Tr.outR.C W cs y/\y.2.length<=8796093022208:=by
 obtain⟨y0,y1,k,hx,hl,h0,h1⟩:=trod_struct2 underlying122 h;rw[hx] at Q;have ad:=(Q.two underlying122).2;rw[Tr.Tryz.cellsOut] at hl;obtain⟨c0,c1,rfl⟩:=Tr.list_two hl;simp[Tr.Tryz.cells3,Tr.Tryz.cellsOps] at h0 h1;obtain⟨x1,z,_,_⟩:=aX aO h0;obtain⟨a,n,c,l,rfl,hO,hS,hn⟩:=De h1 ad;simp only[bJ,and_true] at z;subst z;exact⟨(x1,l),⟨a,n,c,rfl,hO,hS⟩,hn⟩
theorem Ui{α : Type}[Inhabited α](Z:Tr.Rec α)(Q : α->Prop){ts t:bO}(hu:Tryz.prog.underlying ts=some (.slice t))(hc:Tryz.prog.cellsOf t=Z.sz)(am:0<Z.sz)
  (az:∀ (fuel:Nat) (cs:List Value) (x:cM H×List bU),aT enc aB W 0 sp held fuel t cs=some x->Fits t x.1->∃ y,Z.C W cs y/\Q y)
  {v:Value} {x:cM H×List bU} (h:aT enc aB W 0 sp held fuel ts [v]=some x) (ak:Fits ts x.1):∃ a n c l,v = F a n c/\RowsAt Z.R Z.sz W a n l/\SlOk a n c/\n*Tryz.prog.bytesOf t<=reachBytes/\∀ y∈l,Q y:=by
 rcases Deep.open_slice hu h with ⟨z,_⟩|⟨b,l,c,m,n,D,Pl,z,_,hl,hm,bh,bo,ay⟩
 ·simp at z;subst z;exact⟨none,0,0,[],rfl,RowsAt.nil _ _,⟨Nat.le_refl _,Nat.zero_le _,λ_=>⟨rfl,rfl⟩⟩,by simp,λy h=>by cases h⟩
 ·simp at z;subst z;rw[bo] at ak;have al:=ak.rows hu;have bb:l*Tryz.prog.bytesOf t<=reachBytes:=by simpa using al.1
  have bs:l<=m:=by rw[bh];split <;> omega
  have each:∀ i,i<l->∃ q : α,∃ cs,(∀ j,j<Z.sz->W.cell? (b.add (i*Z.sz+j))=cs[j]?)/\Z.C W cs q/\Q q:=λi hi=>by
   obtain⟨ap,h1,h2⟩:=ay i (by omega);rw[hc] at h1;obtain⟨_,_,ax⟩:=World.cells?_some h1;obtain⟨y,hy,hQ⟩:=az _ _ _ h2 (al.2 _ (List.mem_map.2 ⟨i,List.mem_range.2 hi,rfl⟩));exact⟨y,ap,λj hj=>by rw[<-ax j hj,Deep.add_add],hy,hQ⟩
  obtain⟨f,hf⟩:=Deep.choose_lt each
  refine⟨some b,l,c,(List.range l).map f,rfl,⟨by simp,λbi=>?_⟩,⟨hl,hm,λh=>by cases h⟩,bb,λy hy=>by
   obtain⟨i,hi,rfl⟩:=List.mem_map.1 hy;obtain⟨_,_,_,hq⟩:=hf i (List.mem_range.1 hi);exact hq⟩
  obtain⟨bt,off,bq⟩:=b;have aj:∀ j,(⟨bt,off,none⟩:Addr).add j=⟨bt,off+j,none⟩:=λj=>by unfold Addr.add;split <;> simp_all
  obtain⟨ag,aw,ar,_⟩:=hf 0 bi;have bk:=Z.wide _ _ _ ar;have z0:=aw 0 am;have e0:ag[0]? = some (ag[0]'(by omega)):=by simp[bk,am]
  rw[e0] at z0;have bj:bq=none:=by simpa[Addr.add] using World.cell?_spot z0
  subst bj;refine⟨bt,off,rfl,by rw[aj] at z0;exact World.block_lt_of_cell? _ _ z0,λi hi=>?_⟩;have bd:i<l:=by simpa using hi
  obtain⟨cs,z,hC,_⟩:=hf i bd;rw[List.getElem_map,List.getElem_range];refine Z.cr _ _ _ cs _ (λj u hj=>?_) hC;have be:j<Z.sz:=by rw[<-Z.wide _ _ _ hC];exact (List.getElem?_eq_some_iff.1 hj).1
  have:=z j be;rw[aj,<-Nat.add_assoc,hj] at this;exact this
theorem Co{cs:List Value}{x:cM H×List bU}(h:aT enc aB W 0 sp held fuel 59 cs=some x)(hf:Fits 59 x.1):∃ y,Tr.txR.C W cs y/\Tr.TxSmall y:=by
 obtain⟨y0,y1,y2,k,hx,hl,h0,h1,h2⟩:=Deep.trod_struct3 underlying59 h;rw[hx] at hf;obtain⟨_,ag,ah⟩:=hf.three underlying59;rw[Tr.Tryz.cellsTx] at hl;obtain⟨c0,c1,c2,rfl⟩:=Tr.list_three hl;simp[Tr.Tryz.cells3,Tr.Tryz.cellsIns,Tr.Tryz.cellsOuts] at h0 h1 h2;obtain⟨hh,Q,_,_⟩:=aX aO h0;obtain⟨ai,ni,ci,I,rfl,hI,sI,nI,qI⟩:=Ui Tr.inR (λy=>y.2.2.length<=8796093022208) underlying56 Tr.Tryz.cellsIn (by decide) (λ_ _ _ q z=>Zhk q z) h1 ag;obtain⟨ao,no,co,O,rfl,hO,sO,nO,qO⟩:=Ui Tr.outR (λy=>y.2.length<=8796093022208) underlying57 Tr.Tryz.cellsOut (by decide) (λ_ _ _ q z=>Zdk q z) h2 ah;simp only[bJ,and_true] at Q;subst Q;rw[Tryz.bytesIn] at nI;rw[Tryz.bytesOut] at nO;unfold reachBytes at nI nO;have lI:I.length=ni:=hI.1;have lO:O.length=no:=hO.1;exact⟨(hh,I,O),⟨ai,ni,ci,ao,no,co,rfl,hI,sI,hO,sO⟩,by simp only;omega,by simp only;omega,qI,qO⟩
theorem M9{v:Value}{x:cM H×List bU}(h:aT enc aB W 0 sp held fuel 37 [v]=some x)(Q:Fits 37 x.1):∃ a n c l,v = F a n c/\TxsAt W a n l/\SlOk a n c/\n<=2513169434916/\∀ t∈l,Tr.TxSmall t:=by
 obtain⟨a,n,c,l,hv,hT,sT,z,hq⟩:=Ui Tr.txR Tr.TxSmall underlying37 Tr.Tryz.cellsTx (by decide) (λ_ _ _ q qf=>Co q qf) h Q;rw[Tryz.bytesTx] at z;unfold reachBytes at z;exact⟨a,n,c,l,hv,hT,sT,by omega,hq⟩
theorem Zag{cs:List Value}{x:cM H×List bU}(h:aT enc aB W 0 sp held fuel 67 cs=some x)(hf:Fits 67 x.1):∃ a n c b m d p q r tip N T P,cs=[F a n c,F b m d,F p q r,.int .i64 tip]/\Tr.IntsAt W a n N/\SlOk a n c/\Tr.BlksAt W b m T/\SlOk b m d/\TxsAt W p q P/\SlOk p q r/\q<=2513169434916/\∀ t∈P,Tr.TxSmall t:=by
 obtain⟨y0,y1,y2,k,hx,hl,h0,h1,h2⟩:=Deep.trod_struct3 underlying67 h;rw[hx] at hf;obtain⟨_,ac,_⟩:=hf.three underlying67;rw[Tryz.cellsNode] at hl;obtain⟨c0,c1,c2,c3,rfl⟩:=Zaq hl;simp[Tr.Tryz.cells3,Tr.Tryz.cellsTree,Tr.Tryz.cellsTxs] at h0 h1 h2;obtain⟨tip,z,_,_⟩:=aX aO h2;obtain⟨a,n,c,b,m,d,N,T,Q,hN,sN,hT,sT⟩:=Tr.tree_full h0;obtain⟨p,q,r,P,hv,hP,sP,hq,hs⟩:=M9 h1 ac;simp only[bJ,and_true] at z Q;obtain⟨rfl,rfl⟩:=Q;subst z hv;exact⟨a,n,c,b,m,d,p,q,r,tip,N,T,P,rfl,hN,sN,hT,sT,hP,sP,hq,hs⟩
end
open Go.ChangeShapes Go.WideShapes Go.ChangeAt Go.RowKit
theorem Tryz.cellsMsg:Tryz.prog.cellsOf 106=12:=by kernel_rfl
theorem Tryz.cellsWorld:Tryz.prog.cellsOf 90=3:=by kernel_rfl
theorem Tryz.cellsNods:Tryz.prog.cellsOf 87=1:=by kernel_rfl
theorem Tryz.cellsMsgs:Tryz.prog.cellsOf 88=1:=by kernel_rfl
theorem Tryz.cellsBookF:Tryz.prog.cellsOf 24=1:=by kernel_rfl
theorem Dq{cs:List Value}(h:cs.length=12):∃ c0 c1 c2 c3 c4 c5 c6 c7 c8 c9 z Q,cs=[c0,c1,c2,c3,c4,c5,c6,c7,c8,c9,z,Q]:=by
 match cs,h with
 | [c0,c1,c2,c3,c4,c5,c6,c7,c8,c9,z,Q],_=>exact⟨c0,c1,c2,c3,c4,c5,c6,c7,c8,c9,z,Q,rfl⟩
section
variable {H : Type} {enc : TypeId × Value -> H} {W : World} {sp : Nat -> Bool} {held : Bool} {fuel : Nat}
theorem Fits.each{t:bO}{Q:Array Field}{z:List (cM H)}(h:Fits t (.agg z))(hu:Tryz.prog.underlying t=some (.struct Q)){j:Nat}{f:Field}{d:cM H}(hf:Q[j]? = some f)(hd:z[j]? = some d):Fits f.type d:=λaf hz=>by
 refine h af ?_;simp only[DataW.weights,hu];exact DataW.weights_mem_each (j:=j) (t:=f.type) (d:=d) (by simp[hf]) hd af hz
theorem Lr{t:bO}{f0 f1 f2 f3 z Q:Field}{cs:List Value}{x:cM H×List bU}(ht:Tryz.prog.underlying t=some (.struct #[f0,f1,f2,f3,z,Q]))(h:aT enc aB W 0 sp held fuel t cs=some x)(hf:Fits t x.1) :
  ∃ y0 y1 y2 y3 y4 y5 n,cs.length=Tryz.prog.cellsOf t/\aT enc aB W 0 sp held n f0.type ((cs.drop f0.offset).take (Tryz.prog.cellsOf f0.type))=some y0 /\
   aT enc aB W 0 sp held n f1.type ((cs.drop f1.offset).take (Tryz.prog.cellsOf f1.type))=some y1/\aT enc aB W 0 sp held n f2.type ((cs.drop f2.offset).take (Tryz.prog.cellsOf f2.type))=some y2 /\
   aT enc aB W 0 sp held n f3.type ((cs.drop f3.offset).take (Tryz.prog.cellsOf f3.type))=some y3/\aT enc aB W 0 sp held n z.type ((cs.drop z.offset).take (Tryz.prog.cellsOf z.type))=some y4/\aT enc aB W 0 sp held n Q.type ((cs.drop Q.offset).take (Tryz.prog.cellsOf Q.type))=some y5/\Fits z.type y4.1/\Fits Q.type y5.1:=by
 obtain⟨xs,n,_,rfl,hl,ap,hq⟩:=DataW.trod_struct ht h
 match xs,ap with
 | [y0,y1,y2,y3,y4,y5],_=>exact⟨y0,y1,y2,y3,y4,y5,n,hl,by simpa using hq 0 f0 rfl,by simpa using hq 1 f1 rfl,by simpa using hq 2 f2 rfl,by simpa using hq 3 f3 rfl,by simpa using hq 4 z rfl,by simpa using hq 5 Q rfl,hf.each ht (j:=4) rfl rfl,hf.each ht (j:=5) rfl rfl⟩
theorem Zfi{cs:List Value}{x:cM H×List bU}(h:aT enc aB W 0 sp held fuel 39 cs=some x)(hf:Fits 39 x.1):∃ y,Tr.blkR.C W cs y/\Tr.BlkSmall y:=by
 obtain⟨xs,n,_,rfl,hl,af,hq⟩:=DataW.trod_struct underlying39 h
 match xs,af with
 | [y0,y1,y2,y3,y4],_=>
  have ae:=hf.each underlying39 (j:=4) rfl rfl;have h0:=hq 0 _ rfl;have h1:=hq 1 _ rfl;have h2:=hq 2 _ rfl;have h3:=hq 3 _ rfl;have h4:=hq 4 _ rfl;rw[Tr.Tryz.cellsBlk] at hl;obtain⟨c0,c1,c2,c3,c4,rfl⟩:=Tr.list_five hl;simp[Tr.Tryz.cells3,Tr.Tryz.cellsTxs] at h0 h1 h2 h3 h4;obtain⟨x0,z,_,_⟩:=aX aO h0;obtain⟨x1,Q,_,_⟩:=aX aO h1;obtain⟨x2,e2,_,_⟩:=aX aO h2;obtain⟨x3,e3,_,_⟩:=aX aO h3;obtain⟨a,n,c,T,rfl,hT,sT,hn,hs⟩:=M9 h4 ae;simp only[bJ,and_true] at z Q e2 e3;subst z Q e2 e3;exact⟨(x0,x1,x2,x3,T),⟨a,n,c,rfl,hT,sT⟩,by show T.length<=_;rw[hT.1];exact hn,hs⟩
theorem Zea{cs:List Value}{x:cM H×List bU}(h:aT enc aB W 0 sp held fuel 106 cs=some x)(hf:Fits 106 x.1):∃ y,Tr.msgR.C W cs y/\V8 y:=by
 obtain⟨y0,y1,y2,y3,y4,y5,k,hl,h0,h1,h2,h3,h4,h5,f4,f5⟩:=Lr underlying106 h hf;rw[Tryz.cellsMsg] at hl;obtain⟨c0,c1,c2,c3,c4,c5,c6,c7,c8,c9,ax,ay,rfl⟩:=Dq hl;simp[Tr.Tryz.cells3,Tr.Tryz.cellsBlk,Tr.Tryz.cellsTx] at h0 h1 h2 h3 h4 h5;obtain⟨x0,z,_,_⟩:=aX aO h0;obtain⟨x1,Q,_,_⟩:=aX aO h1;obtain⟨x2,e2,_,_⟩:=aX aO h2;obtain⟨x3,e3,_,_⟩:=aX aO h3;obtain⟨b,hb,sb⟩:=Zfi h4 f4;obtain⟨t,ht,st⟩:=Co h5 f5;obtain⟨a,n,c,eb,hT,sT⟩:=hb;obtain⟨ai,ni,ci,ao,no,co,et,hI,sI,hO,sO⟩:=ht;simp only[bJ,and_true] at z Q e2 e3 eb et;obtain⟨rfl,rfl,rfl,rfl,rfl⟩:=eb;obtain⟨rfl,rfl,rfl⟩:=et;subst z Q e2 e3;exact⟨(x0,x1,x2,x3,b,t),⟨a,n,c,ai,ni,ci,ao,no,co,rfl,hT,sT,hI,sI,hO,sO⟩,sb,st⟩
theorem F9{cs:List Value}{x:cM H×List bU}(h:aT enc aB W 0 sp held fuel 90 cs=some x)(hf:Fits 90 x.1):∃ ka kn kc na nn nc ma mn mc K L M,cs=[F ka kn kc,F na nn nc,F ma mn mc]/\Bk.TextsAt W ka kn K/\NodsAt W na nn L/\MsgsAt W ma mn M/\SlOk ka kn kc/\SlOk na nn nc/\SlOk ma mn mc/\(∀ y∈L,Qb y)/\∀ m∈M,V8 m:=by
 obtain⟨y0,y1,y2,k,hx,hl,h0,h1,h2⟩:=Deep.trod_struct3 underlying90 h;rw[hx] at hf;obtain⟨_,f1,f2⟩:=hf.three underlying90;rw[Tryz.cellsWorld] at hl;obtain⟨c0,c1,c2,rfl⟩:=Tr.list_three hl;simp[Tryz.cellsBookF,Tryz.cellsNods,Tryz.cellsMsgs] at h0 h1 h2;obtain⟨ka,kn,kc,K,Q,hK,sK⟩:=Bk.book_full h0
 obtain⟨na,nn,nc,L,rfl,hN,sN,_,qN⟩:=Ui Tr.nodR Qb underlying87 Tryz.cellsNode (by decide) (λ_ _ _ q z=>by
  obtain⟨a,n,c,b,m,d,p,q',r,tip,N,T,P,e,hN,sN,hT,sT,hP,sP,hq,hs⟩:=Zag q z;exact⟨(N,T,P,tip),⟨a,n,c,b,m,d,p,q',r,e,hN,hT,hP,sN,sT,sP⟩,by show P.length<=_;rw[hP.1];exact hq,hs⟩) h1 f1
 obtain⟨ma,mn,mc,M,rfl,hM,sM,_,qM⟩:=Ui Tr.msgR V8 underlying88 Tryz.cellsMsg (by decide) (λ_ _ _ q z=>Zea q z) h2 f2;simp only[bJ,and_true] at Q;subst Q;exact⟨ka,kn,kc,na,nn,nc,ma,mn,mc,K,L,M,rfl,hK,hN,hM,sK,sN,sM,qN,qM⟩
end
