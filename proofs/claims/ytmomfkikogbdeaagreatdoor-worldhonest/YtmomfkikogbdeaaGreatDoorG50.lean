import Derived.Test.YtmomfkikogbdeaaGreatDoorG48
import Derived.Test.YtmomfkikogbdeaaGreatDoorG49
open Go.Proofs.Tryz renaming prog->aB,underlying3->bC
open Go.Value renaming slice->F
namespace Go.Proofs.YtmomfkikogbdeaaGreatDoor.worldHonest
open Go.ChangeShapes Go.WideShapes Go.ChangeAt Go.RowKit
set_option maxRecDepth 100000 in
theorem Zls(os:Os)(args):laidMetH aB Rows.worldHonestRow.laid ((World.doorLaid aB 400 os).forCall (λ_ _=>0) ⟨#[],args,[]⟩).memory:=
 laidMetH_of_parts3 (fuel:=8) (laidMet_of_run' 8 (by kernel_rfl) (by kernel_rfl)) (by kernel_rfl) (by kernel_rfl)
theorem Cy{W}(h:laidMetH aB Rows.worldHonestRow.laid W):Env W:=by
 rw[MakeChecks.laidMetH_plain _ _ _ (by kernel_rfl)] at h;obtain⟨ps,⟨g0,t0,ag,f0,p0,q0,av,ax,az,au,⟨g1,t1,ah,f1,p1,q1,aw,ay,bb,hd1,⟨g2,t2,aj,f2,p2,q2,aa,ac,ae,z,⟨g3,t3,ak,f3,p3,q3,ab,ad,af,Q,_,_⟩,_⟩,_⟩,_⟩,_,_⟩:=h;obtain rfl:=Option.some.inj (Tryz.gTab.symm.trans aa);obtain rfl:=Option.some.inj (Lf.Tryz.tTab.symm.trans ac);obtain rfl:=Option.some.inj (Tryz.gNam.symm.trans ab);obtain rfl:=Option.some.inj (Lf.Tryz.tNam.symm.trans ad);exact⟨Lf.tab_of_laid ae z,Lf.names_of_laid af Q⟩
set_option maxRecDepth 100000 in
theorem Zrp(os:Os)(bq:os.Started)(H:Type)(enc:TypeId×Value->H) :
  ReturnsInHanded {} Tryz.checked os 15 .any (λw args=>(Rows.worldHonestSpec.pre enc aB Tryz.f15 [] false w args/\laidMetH aB Rows.worldHonestRow.laid w)/\sizedMet enc aB Tryz.f15 (OpenSpec.ofChange Rows.worldHonestSpec) false w args)
   (Rows.worldHonestSpec.post enc aB Tryz.f15 false true false false):=by
 refine Fm (s:=Rows.worldHonestSpec) (enc:=enc) (X:=λw=>laidMetH aB Rows.worldHonestRow.laid w) (λ_ _ hh h=>h.of_heap hh) bq (by kernel_rfl) Tryz.func15
  (ChangeSpec.witness_shaped (enc:=enc) (C:=Tryz.checked) (os:=os) (X:=λw _=>laidMetH aB Rows.worldHonestRow.laid w) false (World.doorLaid aB 400 os) #[.int .i64 0,F none 0 0] 8 rfl (World.shaped_of_RefB (by kernel_rfl) (by kernel_rfl)) (by kernel_rfl) (by kernel_rfl) (by kernel_rfl) (Zls os _)) ?_
 intro W base args ds gs bs af hW hL be;have Q:∀ (j:Nat) t v,Tryz.f15.params[j]? = some t->args[j]? = some v->Value.okWide aB W .any base t v:=af;have au:=hW;obtain⟨p,q,hA0,hV,rfl,ca,cb⟩:=hW;have hA:DataW.TrodAll enc aB W 0 (λ_=>true) true Tryz.f15.params.toList args.toList ds p:=hA0;have ae:(DataW.weightsEach aB (Tryz.f15.params.toList++Rows.worldHonestSpec.plain.varTypes aB) (ds++gs)).all (·<=reachBytes)=true:=be;rw[Tryz.params15] at hA Q ae;obtain⟨v0,cg,d0,bu,p0,q0,bz,rfl,rfl,h0,r0⟩:=trodAll_cons hA;obtain⟨v1,cj,d1,bv,p1,q1,rfl,rfl,rfl,h1,r1⟩:=trodAll_cons r0;obtain⟨rfl,rfl,rfl⟩:=trodAll_nil r1;obtain rfl:args=#[v0,v1]:=by cases args;simp_all
 obtain⟨rfl,rfl⟩:=trodVars_none hV;obtain⟨m0,rfl,rfl,rfl,w0⟩:=open_int bC (Q 0 3 v0 rfl rfl) h0;obtain⟨z,n1,c1,rfl⟩:=okWide_slice Tryz.underlying109 (Q 1 109 v1 rfl rfl);have k1:=h1;have bh:∀ x∈p1,x.block<W.heap.size:=by obtain⟨m,hm⟩:=k1;exact DataW.trod_lt m _ _ _ hm
 obtain⟨bx,ax⟩:=h1
 have ay:Fits 109 d1:=λcl hz=>by
  have:=List.all_eq_true.1 ae _ (DataW.weights_mem_each (j:=1) (t:=109) (d:=d1) rfl rfl cl hz);simpa using this
 obtain⟨aj,al,ak,l1,av,bb,cf,bj⟩:=Zgz (v:=F z n1 c1) (by simpa[Value.cells] using ax) ay;obtain⟨rfl,rfl,rfl⟩:z=aj/\n1=al/\c1=ak:=by injection av with e1 e2 e3;exact⟨e1,e2,e3⟩
 clear hA0 af;refine (Hg m0 z n1 c1 l1 W (Cy hL) bb bj).mono λe W' ⟨he,bel⟩=>?_;subst he;exact⟨_,rfl,_,_,_,[],_,[],au,trodAll_mk1 (shut_bool Tryz.underlying4 _),(trodAll_cons_mk (shut_int bC w0) (trodAll_cons_mk (Below.trod Hs (by kernel_rfl) (of_decide_eq_true (by kernel_rfl)) k1 bel bh) trodAll_mk0)),rfl,bel.frame _,λh=>by cases h⟩
theorem said:Rows.WorldHonestSaid:=
 OpenClaim.holds_of_wide 15 Tryz.f15 rfl rfl rfl rfl rfl rfl rfl ⟨rfl,rfl,rfl,rfl,rfl⟩ rfl rfl rfl rfl rfl (by kernel_rfl) Tryz.func15 Zrx
  (of_decide_eq_true (by kernel_rfl)) (by unfold Func.isWrapper;first|(rw[if_pos (by decide +kernel)];kernel_rfl)|(rw[if_neg (by decide +kernel)];exact⟨rfl,rfl⟩))
  (λos z H enc _=>Zrp os z H enc)
#print axioms said
