import Derived.Test.YtmomfkikogbdeaaGreatDoorG48
import Derived.Test.YtmomfkikogbdeaaGreatDoorG49
open Go.Proofs.Tryz renaming prog->aB,underlying3->aO
open Go.Value renaming slice->F
namespace Go.Proofs.YtmomfkikogbdeaaGreatDoor.worldNet
open Go.ChangeShapes Go.WideShapes Go.ChangeAt Go.RowKit
set_option maxRecDepth 100000 in
theorem Zeq(os:Os)(args:Array Value):laidMetH aB Rows.worldNetRow.laid ((World.doorLaid aB 400 os).forCall (λ_ _=>0) ⟨#[],args,[]⟩).memory:=
 laidMetH_of_parts3 (fuel:=8) (laidMet_of_run' 8 (by kernel_rfl) (by kernel_rfl)) (by kernel_rfl) (by kernel_rfl)
theorem Fe{W:World}(h:laidMetH aB Rows.worldNetRow.laid W):Env W:=by
 rw[MakeChecks.laidMetH_plain _ _ _ (by kernel_rfl)] at h;obtain⟨ps,⟨g0,t0,ag,f0,p0,q0,av,ax,az,au,⟨g1,t1,ah,f1,p1,q1,aw,ay,bb,hd1,⟨g2,t2,aj,f2,p2,q2,aa,ac,ae,z,⟨g3,t3,ak,f3,p3,q3,ab,ad,af,Q,_,_⟩,_⟩,_⟩,_⟩,_,_⟩:=h;obtain rfl:=Option.some.inj (Tryz.gTab.symm.trans aa);obtain rfl:=Option.some.inj (Lf.Tryz.tTab.symm.trans ac);obtain rfl:=Option.some.inj (Tryz.gNam.symm.trans ab);obtain rfl:=Option.some.inj (Lf.Tryz.tNam.symm.trans ad);exact⟨Lf.tab_of_laid ae z,Lf.names_of_laid af Q⟩
set_option maxRecDepth 100000 in
theorem Zjq(os:Os)(cd:os.Started)(H:Type)(enc:TypeId×Value->H) :
  ReturnsInHanded {} Tryz.checked os 13 .any (λw args=>(Rows.worldNetSpec.pre enc aB Tryz.f13 [] false w args/\laidMetH aB Rows.worldNetRow.laid w)/\sizedMet enc aB Tryz.f13 (OpenSpec.ofChange Rows.worldNetSpec) false w args)
   (Rows.worldNetSpec.post enc aB Tryz.f13 false true false false):=by
 refine Mb (s:=Rows.worldNetSpec) (enc:=enc) (X:=λw=>laidMetH aB Rows.worldNetRow.laid w) (λ_ _ hh h=>h.of_heap hh) cd (by kernel_rfl) Tryz.func13
  (ChangeSpec.witness_shaped (enc:=enc) (C:=Tryz.checked) (os:=os) (X:=λw _=>laidMetH aB Rows.worldNetRow.laid w) false (World.doorLaid aB 400 os) #[.agg #[F none 0 0,F none 0 0,F none 0 0],.int .i64 0] 8 rfl (World.shaped_of_RefB (by kernel_rfl) (by kernel_rfl)) (by kernel_rfl) (by kernel_rfl) (by kernel_rfl) (Zeq os _)) ?_
 intro W base args ds gs cg af hW hL bq;have z:∀ (j:Nat) t v,Tryz.f13.params[j]? = some t->args[j]? = some v->Value.okWide aB W .any base t v:=af;have bf:=hW;obtain⟨p,q,hA0,hV,rfl,cq,ct⟩:=hW;have hA:DataW.TrodAll enc aB W 0 (λ_=>true) true Tryz.f13.params.toList args.toList ds p:=hA0;have ae:(DataW.weightsEach aB (Tryz.f13.params.toList++Rows.worldNetSpec.plain.varTypes aB) (ds++gs)).all (·<=reachBytes)=true:=bq;rw[Tryz.params13] at hA z ae;obtain⟨v0,cy,d0,cl,p0,q0,cp,rfl,rfl,h0,r0⟩:=trodAll_cons hA;obtain⟨v1,cz,d1,cm,p1,q1,rfl,rfl,rfl,h1,r1⟩:=trodAll_cons r0;obtain⟨rfl,rfl,rfl⟩:=trodAll_nil r1;obtain rfl:args=#[v0,v1]:=by cases args;simp_all
 obtain⟨rfl,rfl⟩:=trodVars_none hV;obtain⟨Q,rfl,_⟩:=okWide_struct Tryz.underlying90 (z 0 90 v0 rfl rfl);obtain⟨m1,rfl,rfl,rfl,w1⟩:=open_int aO (z 1 3 v1 rfl rfl) h1;have k0:=h0;have bs:∀ x∈p0,x.block<W.heap.size:=by obtain⟨m,hm⟩:=k0;exact DataW.trod_lt m _ _ _ hm
 obtain⟨cn,bi⟩:=h0
 have bj:Fits 90 d0:=λda hz=>by
  have:=List.all_eq_true.1 ae _ (DataW.weights_mem_each (j:=0) (t:=90) (d:=d0) rfl rfl da hz);simpa using this
 obtain⟨ah,ak,aj,ap,ar,aq,al,an,am,K0,L0,M0,bg,ay,bd,bb,ca,cc,cb,bv,bu⟩:=F9 bi bj
 obtain rfl:Q=#[F ah ak aj,F ap ar aq,F al an am]:=by
  cases Q;simpa[Value.cells] using bg
 clear hA0 af;refine (Lo ah ak aj ap ar aq al an am ⟨K0,L0,M0⟩ m1 W (Fe hL) ⟨ay,bd,bb⟩ ca cc cb bv bu).mono λe W' ⟨he,bel⟩=>?_;subst he;exact⟨_,rfl,_,_,_,[],_,[],bf,trodAll_mk1 (shut_bool Tryz.underlying4 _),(trodAll_cons_mk (Below.trod S8 (by kernel_rfl) (of_decide_eq_true (by kernel_rfl)) k0 bel bs) (trodAll_cons_mk (shut_int aO w1) trodAll_mk0)),rfl,bel.frame _,λh=>by cases h⟩
theorem said:Rows.WorldNetSaid:=
 OpenClaim.holds_of_wide 13 Tryz.f13 rfl rfl rfl rfl rfl rfl rfl ⟨rfl,rfl,rfl,rfl,rfl⟩ rfl rfl rfl rfl rfl (by kernel_rfl) Tryz.func13 Zjy
  (of_decide_eq_true (by kernel_rfl)) (by unfold Func.isWrapper;first|(rw[if_pos (by decide +kernel)];kernel_rfl)|(rw[if_neg (by decide +kernel)];exact⟨rfl,rfl⟩))
  (λos z H enc _=>Zjq os z H enc)
#print axioms said
