import Derived.Test.YtmomfkikogbdeaaGreatDoorG48
import Derived.Test.YtmomfkikogbdeaaGreatDoorG49
open Go.Proofs.Tryz renaming prog->aA
open Go.Value renaming slice->F
namespace Go.Proofs.YtmomfkikogbdeaaGreatDoor.worldKeeps
open Go.ChangeShapes Go.WideShapes Go.ChangeAt Go.RowKit
set_option maxRecDepth 100000 in
theorem Zhu(os:Os)(args):laidMetH aA Rows.worldKeepsRow.laid ((World.doorLaid aA 400 os).forCall (λ_ _=>0) ⟨#[],args,[]⟩).memory:=
 laidMetH_of_parts3 (fuel:=8) (laidMet_of_run' 8 (by kernel_rfl) (by kernel_rfl)) (by kernel_rfl) (by kernel_rfl)
theorem As{W}(h:laidMetH aA Rows.worldKeepsRow.laid W):Env W:=by
 rw[MakeChecks.laidMetH_plain _ _ _ (by kernel_rfl)] at h;obtain⟨ps,⟨g0,t0,ag,f0,p0,q0,av,ax,az,au,⟨g1,t1,ah,f1,p1,q1,aw,ay,bb,hd1,⟨g2,t2,aj,f2,p2,q2,aa,ac,ae,z,⟨g3,t3,ak,f3,p3,q3,ab,ad,af,Q,_,_⟩,_⟩,_⟩,_⟩,_,_⟩:=h;obtain rfl:=Option.some.inj (Tryz.gTab.symm.trans aa);obtain rfl:=Option.some.inj (Lf.Tryz.tTab.symm.trans ac);obtain rfl:=Option.some.inj (Tryz.gNam.symm.trans ab);obtain rfl:=Option.some.inj (Lf.Tryz.tNam.symm.trans ad);exact⟨Lf.tab_of_laid ae z,Lf.names_of_laid af Q⟩
set_option maxRecDepth 100000 in
theorem Zna(os:Os)(dm:os.Started)(H:Type)(enc:TypeId×Value->H) :
  ReturnsInHanded {} Tryz.checked os 14 .any (λw args=>(Rows.worldKeepsSpec.pre enc aA Tryz.f14 [] false w args/\laidMetH aA Rows.worldKeepsRow.laid w)/\sizedMet enc aA Tryz.f14 (OpenSpec.ofChange Rows.worldKeepsSpec) false w args)
   (Rows.worldKeepsSpec.post enc aA Tryz.f14 false true false false):=by
 refine Np (s:=Rows.worldKeepsSpec) (enc:=enc) (X:=λw=>laidMetH aA Rows.worldKeepsRow.laid w) (λ_ _ hh h=>h.of_heap hh) dm (by kernel_rfl) Tryz.func14
  (ChangeSpec.witness_shaped (enc:=enc) (C:=Tryz.checked) (os:=os) (X:=λw _=>laidMetH aA Rows.worldKeepsRow.laid w) false (World.doorLaid aA 400 os) #[.agg #[F none 0 0,F none 0 0,F none 0 0],.agg #[.int .i64 0,.int .i64 0,.int .i64 0,.int .i64 0,.int .i64 0,.int .i64 0,.int .i64 0,F none 0 0,F none 0 0]] 8 rfl (World.shaped_of_RefB (by kernel_rfl) (by kernel_rfl)) (by kernel_rfl) (by kernel_rfl) (by kernel_rfl) (Zhu os _)) ?_
 intro W base args ec gs dp aq hW hL cy;have aa:∀ (j:Nat) t v,Tryz.f14.params[j]? = some t->args[j]? = some v->Value.okWide aA W .any base t v:=aq;have cl:=hW;obtain⟨p,q,hA0,hV,rfl,dv,dw⟩:=hW;have hA:DataW.TrodAll enc aA W 0 (λ_=>true) true Tryz.f14.params.toList args.toList ec p:=hA0;have Q:(DataW.weightsEach aA (Tryz.f14.params.toList++Rows.worldKeepsSpec.plain.varTypes aA) (ec++gs)).all (·<=reachBytes)=true:=cy;rw[Tryz.params14] at hA aa Q;obtain⟨v0,dz,d0,dq,p0,q0,du,rfl,rfl,h0,r0⟩:=trodAll_cons hA;obtain⟨v1,ea,d1,dr,p1,q1,rfl,rfl,rfl,h1,r1⟩:=trodAll_cons r0;obtain⟨rfl,rfl,rfl⟩:=trodAll_nil r1;obtain rfl:args=#[v0,v1]:=by cases args;simp_all
 obtain⟨rfl,rfl⟩:=trodVars_none hV;obtain⟨ah,rfl,_⟩:=okWide_struct Tryz.underlying90 (aa 0 90 v0 rfl rfl);obtain⟨aj,rfl,_⟩:=okWide_struct Tryz.underlying103 (aa 1 103 v1 rfl rfl);have k0:=h0;have cz:∀ x∈p0,x.block<W.heap.size:=by obtain⟨m,z⟩:=k0;exact DataW.trod_lt m _ _ _ z
 obtain⟨ds,cq⟩:=h0
 have cu:Fits 90 d0:=λeb hz=>by
  have:=List.all_eq_true.1 Q _ (DataW.weights_mem_each (j:=0) (t:=90) (d:=d0) rfl rfl eb hz);simpa using this
 obtain⟨av,ax,aw,bd,bg,be,ay,bb,az,K0,L0,M0,cm,cc,cf,ce,di,dk,dj,de,dd⟩:=Bp cq cu
 obtain rfl:ah=#[F av ax aw,F bd bg be,F ay bb az]:=by
  cases ah;simpa[Value.cells] using cm
 have k1:=h1;have da:∀ x∈p1,x.block<W.heap.size:=by obtain⟨m,z⟩:=k1;exact DataW.trod_lt m _ _ _ z
 obtain⟨dt,ct⟩:=h1
 have cw:Fits 103 d1:=λeb hz=>by
  have:=List.all_eq_true.1 Q _ (DataW.weights_mem_each (j:=1) (t:=103) (d:=d1) rfl rfl eb hz);simpa using this
 obtain⟨bo,bq,br,bk,bs,bj,bi,ad,bf,af,ae,bh,ag,I1,O1,cn,cb,cg,dh,dl,dn⟩:=Zhj ct cw
 obtain rfl:aj=#[.int .i64 bo,.int .i64 bq,.int .i64 br,.int .i64 bk,.int .i64 bs,.int .i64 bj,.int .i64 bi,F ad bf af,F ae bh ag]:=by
  cases aj;simpa[Value.cells] using cn
 clear hA0 aq;refine (Gm av ax aw bd bg be ay bb az ⟨K0,L0,M0⟩ bo bq br bk bs bj bi ad ae bf af bh ag I1 O1 W (As hL) ⟨cc,cf,ce⟩ di dk dj de dd cb cg dh dl dn).mono λe W' ⟨he,bel⟩=>?_;subst he;exact⟨_,rfl,_,_,_,[],_,[],cl,trodAll_mk1 (shut_bool Tryz.underlying4 _),(trodAll_cons_mk (Below.trod Tu (by kernel_rfl) (of_decide_eq_true (by kernel_rfl)) k0 bel cz) (trodAll_cons_mk (Below.trod Tu (by kernel_rfl) (of_decide_eq_true (by kernel_rfl)) k1 bel da) trodAll_mk0)),rfl,bel.frame _,λh=>by cases h⟩
theorem said:Rows.WorldKeepsSaid:=
 OpenClaim.holds_of_wide 14 Tryz.f14 rfl rfl rfl rfl rfl rfl rfl ⟨rfl,rfl,rfl,rfl,rfl⟩ rfl rfl rfl rfl rfl (by kernel_rfl) Tryz.func14 Znf
  (of_decide_eq_true (by kernel_rfl)) (by unfold Func.isWrapper;first|(rw[if_pos (by decide +kernel)];kernel_rfl)|(rw[if_neg (by decide +kernel)];exact⟨rfl,rfl⟩))
  (λos z H enc _=>Zna os z H enc)
#print axioms said
