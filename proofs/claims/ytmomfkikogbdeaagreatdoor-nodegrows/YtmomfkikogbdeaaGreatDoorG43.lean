import Derived.Test.YtmomfkikogbdeaaGreatDoorG42
namespace Go.Proofs.YtmomfkikogbdeaaGreatDoor
open Go.ChangeShapes Go.WideShapes Go.ChangeAt Go.RowKit
def Fits{H:Type}(t:TypeId)(d:DataW H):Prop:=∀ x∈d.weights Tryz.prog t,x≤reachBytes
theorem Tryz.bytesIn:Tryz.prog.bytesOf 119=40:=by kernel_rfl
theorem Tryz.bytesOut:Tryz.prog.bytesOf 122=32:=by kernel_rfl
theorem Tryz.bytesTx:Tryz.prog.bytesOf 59=56:=by kernel_rfl
theorem Tryz.cellsNode:Tryz.prog.cellsOf 67=4:=by kernel_rfl
theorem Zaj{cs:List Value}(h:cs.length=4):∃ a b c d,cs=[a,b,c,d]:=by
 match cs,h with
 | [a,b,c,d],_=>exact⟨a,b,c,d,rfl⟩
section
variable {H : Type} {enc : TypeId × Value → H} {W : World} {sp : Nat → Bool} {held : Bool} {fuel : Nat}
theorem C8{e:TypeId}:∀ {ds:List (DataW H)} {d:DataW H},d∈ds→∀ x∈d.weights Tryz.prog e,x∈DataW.weightsAll Tryz.prog e ds
 | d0 :: ds,d,h,x,hx=>by
  rw[DataW.weightsAll,List.mem_append]
  rcases List.mem_cons.1 h with rfl|h
  ·exact .inl hx
  ·exact .inr (C8 h x hx)
theorem Fits.rows{t e:TypeId}{es sp:List (DataW H)}(h:Fits t (.slice es sp))(hu:Tryz.prog.underlying t=some (.slice e)):es.length*Tryz.prog.bytesOf e≤reachBytes∧∀ d∈es,Fits e d:=by
 unfold Fits at h
 simp only[DataW.weights,hu,List.mem_cons,List.mem_append] at h
 refine⟨Nat.le_trans (Nat.mul_le_mul_right _ (Nat.le_add_right _ _)) (h _ (.inl rfl)),fun d hd x hx=>h x (.inr (.inl (C8 hd x hx)))⟩
theorem Fits.two{t:TypeId}{f0 f1:Field}{d0 d1:DataW H}(h:Fits t (.agg [d0,d1]))(hu:Tryz.prog.underlying t=some (.struct #[f0,f1])):Fits f0.type d0∧Fits f1.type d1:=by
 unfold Fits at h
 simp only[DataW.weights,hu,DataW.weightsEach,List.map_cons,List.map_nil,List.mem_append] at h
 exact⟨fun x hx=>h x (.inl hx),fun x hx=>h x (.inr (.inl hx))⟩
theorem Fits.three{t:TypeId}{f0 f1 f2:Field}{d0 d1 d2:DataW H}(h:Fits t (.agg [d0,d1,d2]))(hu:Tryz.prog.underlying t=some (.struct #[f0,f1,f2])):Fits f0.type d0∧Fits f1.type d1∧Fits f2.type d2:=by
 unfold Fits at h
 simp only[DataW.weights,hu,DataW.weightsEach,List.map_cons,List.map_nil,List.mem_append] at h
 exact⟨fun x hx=>h x (.inl hx),fun x hx=>h x (.inr (.inl hx)),fun x hx=>h x (.inr (.inr (.inl hx)))⟩
theorem Dg{v:Value}{x:DataW H×List MemPlace}(h:DataW.trod enc Tryz.prog W 0 sp held fuel 48 [v]=some x)(hf:Fits 48 x.1) :
  ∃ a n c l,v = .slice a n c∧OpsAt W a n l∧SlOk a n c∧l.length≤8796093022208:=by
 obtain⟨a,n,c,l,hv,hO,hs,hd⟩:=Lj h
 refine⟨a,n,c,l,hv,hO,hs,?_⟩
 rw[hO.1]
 rcases hd with e|⟨es,sp,hx,hn⟩
 ·omega
 ·rw[hx] at hf
  have:=(hf.rows Tryz.underlying48).1
  rw[hn,Tryz.bytesOp] at this
  unfold reachBytes at this
  omega
theorem Zgj{cs:List Value}{x:DataW H×List MemPlace}(h:DataW.trod enc Tryz.prog W 0 sp held fuel 119 cs=some x)(hf:Fits 119 x.1):∃ y,Tr.inR.C W cs y∧y.2.2.length≤8796093022208:=by
 obtain⟨y0,y1,k,hx,hl,h0,h1⟩:=trod_struct2 Tryz.underlying119 h
 rw[hx] at hf
 have hf1:=(hf.two Tryz.underlying119).2
 rw[Tr.Tryz.cellsIn] at hl
 obtain⟨c0,c1,c2,rfl⟩:=Tr.list_three hl
 simp[Tr.Tryz.cellsPoint,Tr.Tryz.cellsOps] at h0 h1
 obtain⟨z0,z1,k2,_,_,g0,g1⟩:=trod_struct2 Tryz.underlying117 h0
 simp[Tr.Tryz.cells3] at g0 g1
 obtain⟨x1,e1,_,_⟩:=DataW.trod_int Tryz.underlying3 g0
 obtain⟨x2,e2,_,_⟩:=DataW.trod_int Tryz.underlying3 g1
 obtain⟨a,n,c,l,rfl,hO,hS,hn⟩:=Dg h1 hf1
 simp only[List.cons.injEq,and_true] at e1 e2
 subst e1 e2
 exact⟨(x1,x2,l),⟨a,n,c,rfl,hO,hS⟩,hn⟩
theorem Zcx{cs:List Value}{x:DataW H×List MemPlace}(h:DataW.trod enc Tryz.prog W 0 sp held fuel 122 cs=some x)(hf:Fits 122 x.1):∃ y,Tr.outR.C W cs y∧y.2.length≤8796093022208:=by
 obtain⟨y0,y1,k,hx,hl,h0,h1⟩:=trod_struct2 Tryz.underlying122 h
 rw[hx] at hf
 have hf1:=(hf.two Tryz.underlying122).2
 rw[Tr.Tryz.cellsOut] at hl
 obtain⟨c0,c1,rfl⟩:=Tr.list_two hl
 simp[Tr.Tryz.cells3,Tr.Tryz.cellsOps] at h0 h1
 obtain⟨x1,e1,_,_⟩:=DataW.trod_int Tryz.underlying3 h0
 obtain⟨a,n,c,l,rfl,hO,hS,hn⟩:=Dg h1 hf1
 simp only[List.cons.injEq,and_true] at e1
 subst e1
 exact⟨(x1,l),⟨a,n,c,rfl,hO,hS⟩,hn⟩
theorem Sc{α : Type}[Inhabited α](Z:Tr.Rec α)(Q : α→Prop){ts t:TypeId}(hu:Tryz.prog.underlying ts=some (.slice t))(hc:Tryz.prog.cellsOf t=Z.sz)(hpos:0<Z.sz)
  (hel:∀ (fuel:Nat) (cs:List Value) (x:DataW H×List MemPlace),DataW.trod enc Tryz.prog W 0 sp held fuel t cs=some x→Fits t x.1→∃ y,Z.C W cs y∧Q y)
  {v:Value} {x:DataW H×List MemPlace} (h:DataW.trod enc Tryz.prog W 0 sp held fuel ts [v]=some x) (hfit:Fits ts x.1):∃ a n c l,v = .slice a n c∧RowsAt Z.R Z.sz W a n l∧SlOk a n c∧n*Tryz.prog.bytesOf t≤reachBytes∧∀ y∈l,Q y:=by
 rcases Deep.open_slice hu h with ⟨hcs,_⟩|⟨b,l,c,m,n,D,Pl,hcs,_,hl,hm,hmm,hxx,hee⟩
 ·simp at hcs
  subst hcs
  exact⟨none,0,0,[],rfl,RowsAt.nil _ _,⟨Nat.le_refl _,Nat.zero_le _,fun _=>⟨rfl,rfl⟩⟩,by simp,fun y h=>by cases h⟩
 ·simp at hcs
  subst hcs
  rw[hxx] at hfit
  have hfr:=hfit.rows hu
  have hfl:l*Tryz.prog.bytesOf t≤reachBytes:=by simpa using hfr.1
  have hlm:l≤m:=by rw[hmm];split <;> omega
  have each:∀ i,i<l→∃ q : α,∃ cs,(∀ j,j<Z.sz→W.cell? (b.add (i*Z.sz+j))=cs[j]?)∧Z.C W cs q∧Q q:=fun i hi=>by
   obtain⟨cs',h1,h2⟩:=hee i (by omega)
   rw[hc] at h1
   obtain⟨_,_,hcell⟩:=World.cells?_some h1
   obtain⟨y,hy,hQ⟩:=hel _ _ _ h2 (hfr.2 _ (List.mem_map.2 ⟨i,List.mem_range.2 hi,rfl⟩))
   exact⟨y,cs',fun j hj=>by rw[←hcell j hj,Deep.add_add],hy,hQ⟩
  obtain⟨f,hf⟩:=Deep.choose_lt each
  refine⟨some b,l,c,(List.range l).map f,rfl,⟨by simp,fun hpos2=>?_⟩,⟨hl,hm,fun h=>by cases h⟩,hfl,fun y hy=>by
   obtain⟨i,hi,rfl⟩:=List.mem_map.1 hy
   obtain⟨_,_,_,hq⟩:=hf i (List.mem_range.1 hi)
   exact hq⟩
  obtain⟨bb,off,spot⟩:=b
  have hadd:∀ j,(⟨bb,off,none⟩:Addr).add j=⟨bb,off+j,none⟩:=fun j=>by unfold Addr.add;split <;> simp_all
  obtain⟨cs0,hc0,hC0,_⟩:=hf 0 hpos2
  have hw0:=Z.wide _ _ _ hC0
  have z0:=hc0 0 hpos
  have e0:cs0[0]? = some (cs0[0]'(by omega)):=by simp[hw0,hpos]
  rw[e0] at z0
  have hspot:spot=none:=by simpa[Addr.add] using World.cell?_spot z0
  subst hspot
  refine⟨bb,off,rfl,by rw[hadd] at z0;exact World.block_lt_of_cell? _ _ z0,fun i hi=>?_⟩
  have hi':i<l:=by simpa using hi
  obtain⟨cs,hcs,hC,_⟩:=hf i hi'
  rw[List.getElem_map,List.getElem_range]
  refine Z.cr _ _ _ cs _ (fun j u hj=>?_) hC
  have hjl:j<Z.sz:=by rw[←Z.wide _ _ _ hC];exact (List.getElem?_eq_some_iff.1 hj).1
  have:=hcs j hjl
  rw[hadd,←Nat.add_assoc,hj] at this
  exact this
theorem Zfd{cs:List Value}{x:DataW H×List MemPlace}(h:DataW.trod enc Tryz.prog W 0 sp held fuel 59 cs=some x)(hf:Fits 59 x.1):∃ y,Tr.txR.C W cs y∧Tr.TxSmall y:=by
 obtain⟨y0,y1,y2,k,hx,hl,h0,h1,h2⟩:=Deep.trod_struct3 Tryz.underlying59 h
 rw[hx] at hf
 obtain⟨_,hf1,hf2⟩:=hf.three Tryz.underlying59
 rw[Tr.Tryz.cellsTx] at hl
 obtain⟨c0,c1,c2,rfl⟩:=Tr.list_three hl
 simp[Tr.Tryz.cells3,Tr.Tryz.cellsIns,Tr.Tryz.cellsOuts] at h0 h1 h2
 obtain⟨hh,e0,_,_⟩:=DataW.trod_int Tryz.underlying3 h0
 obtain⟨ai,ni,ci,I,rfl,hI,sI,nI,qI⟩:=Sc Tr.inR (fun y=>y.2.2.length≤8796093022208) Tryz.underlying56 Tr.Tryz.cellsIn (by decide) (fun _ _ _ q qf=>Zgj q qf) h1 hf1
 obtain⟨ao,no,co,O,rfl,hO,sO,nO,qO⟩:=Sc Tr.outR (fun y=>y.2.length≤8796093022208) Tryz.underlying57 Tr.Tryz.cellsOut (by decide) (fun _ _ _ q qf=>Zcx q qf) h2 hf2
 simp only[List.cons.injEq,and_true] at e0
 subst e0
 rw[Tryz.bytesIn] at nI
 rw[Tryz.bytesOut] at nO
 unfold reachBytes at nI nO
 have lI:I.length=ni:=hI.1
 have lO:O.length=no:=hO.1
 exact⟨(hh,I,O),⟨ai,ni,ci,ao,no,co,rfl,hI,sI,hO,sO⟩,by simp only;omega,by simp only;omega,qI,qO⟩
theorem Zbu{v:Value}{x:DataW H×List MemPlace}(h:DataW.trod enc Tryz.prog W 0 sp held fuel 37 [v]=some x)(hf:Fits 37 x.1):∃ a n c l,v = .slice a n c∧TxsAt W a n l∧SlOk a n c∧n≤2513169434916∧∀ t∈l,Tr.TxSmall t:=by
 obtain⟨a,n,c,l,hv,hT,sT,hn,hq⟩:=Sc Tr.txR Tr.TxSmall Tryz.underlying37 Tr.Tryz.cellsTx (by decide) (fun _ _ _ q qf=>Zfd q qf) h hf
 rw[Tryz.bytesTx] at hn
 unfold reachBytes at hn
 exact⟨a,n,c,l,hv,hT,sT,by omega,hq⟩
theorem Js{cs:List Value}{x:DataW H×List MemPlace}(h:DataW.trod enc Tryz.prog W 0 sp held fuel 67 cs=some x)(hf:Fits 67 x.1):∃ a n c b m d p q r tip N T P,cs=[.slice a n c,.slice b m d,.slice p q r,.int .i64 tip]∧Tr.IntsAt W a n N∧SlOk a n c∧Tr.BlksAt W b m T∧SlOk b m d∧TxsAt W p q P∧SlOk p q r∧q≤2513169434916∧∀ t∈P,Tr.TxSmall t:=by
 obtain⟨y0,y1,y2,k,hx,hl,h0,h1,h2⟩:=Deep.trod_struct3 Tryz.underlying67 h
 rw[hx] at hf
 obtain⟨_,hf1,_⟩:=hf.three Tryz.underlying67
 rw[Tryz.cellsNode] at hl
 obtain⟨c0,c1,c2,c3,rfl⟩:=Zaj hl
 simp[Tr.Tryz.cells3,Tr.Tryz.cellsTree,Tr.Tryz.cellsTxs] at h0 h1 h2
 obtain⟨tip,e0,_,_⟩:=DataW.trod_int Tryz.underlying3 h2
 obtain⟨a,n,c,b,m,d,N,T,hcs,hN,sN,hT,sT⟩:=Tr.tree_full h0
 obtain⟨p,q,r,P,hv,hP,sP,hq,hs⟩:=Zbu h1 hf1
 simp only[List.cons.injEq,and_true] at e0 hcs
 obtain⟨rfl,rfl⟩:=hcs
 subst e0 hv
 exact⟨a,n,c,b,m,d,p,q,r,tip,N,T,P,rfl,hN,sN,hT,sT,hP,sP,hq,hs⟩
end
end Go.Proofs.YtmomfkikogbdeaaGreatDoor
