import Derived.Test.YtmomfkikogbdeaaGreatDoorG46
import Derived.Test.YtmomfkikogbdeaaGreatDoorG47
import Derived.Test.YtmomfkikogbdeaaGreatDoorG48
open Go.Proofs.Tryz renaming prog->aB
open Go.Value renaming slice->F
namespace Go.Proofs.YtmomfkikogbdeaaGreatDoor.worldAgree
open Go.ChangeShapes Go.WideShapes Go.ChangeAt Go.RowKit
set_option maxRecDepth 100000 in
theorem Zlc(os:Os)(args):laidMetH aB Rows.worldAgreeRow.laid ((World.doorLaid aB 400 os).forCall (λ_ _=>0) ⟨#[],args,[]⟩).memory:=
 laidMetH_of_parts3 (fuel:=8) (laidMet_of_run' 8 (by kernel_rfl) (by kernel_rfl)) (by kernel_rfl) (by kernel_rfl)
theorem C7{W}(h:laidMetH aB Rows.worldAgreeRow.laid W):Env W:=by
 rw[MakeChecks.laidMetH_plain _ _ _ (by kernel_rfl)] at h;obtain⟨ps,⟨g0,t0,aj,f0,p0,q0,ay,bb,be,ax,⟨g1,t1,ak,f1,p1,q1,az,bd,bf,hd1,⟨g2,t2,am,f2,p2,q2,ac,ae,ag,aa,⟨g3,t3,an,f3,p3,q3,ad,af,ah,ab,_,_⟩,_⟩,_⟩,_⟩,_,_⟩:=h;obtain rfl:=Option.some.inj (Tryz.gTab.symm.trans ac);obtain rfl:=Option.some.inj (Lf.Tryz.tTab.symm.trans ae);obtain rfl:=Option.some.inj (Tryz.gNam.symm.trans ad);obtain rfl:=Option.some.inj (Lf.Tryz.tNam.symm.trans af);exact⟨Lf.tab_of_laid ag aa,Lf.names_of_laid ah ab⟩
set_option maxRecDepth 100000 in
theorem Zra(os:Os)(cf:os.Started)(H:Type)(enc:TypeId×Value->H) :
  ReturnsInHanded {} Tryz.checked os 12 .any (λw args=>(Rows.worldAgreeSpec.pre enc aB Tryz.f12 [] false w args/\laidMetH aB Rows.worldAgreeRow.laid w)/\sizedMet enc aB Tryz.f12 (OpenSpec.ofChange Rows.worldAgreeSpec) false w args)
   (Rows.worldAgreeSpec.post enc aB Tryz.f12 false true false false):=by
 refine Fr (s:=Rows.worldAgreeSpec) (enc:=enc) (X:=λw=>laidMetH aB Rows.worldAgreeRow.laid w) (λ_ _ hh h=>h.of_heap hh) cf (by kernel_rfl) Tryz.func12
  (ChangeSpec.witness_shaped (enc:=enc) (C:=Tryz.checked) (os:=os) (X:=λw _=>laidMetH aB Rows.worldAgreeRow.laid w) false (World.doorLaid aB 400 os) #[.agg #[F none 0 0,F none 0 0,F none 0 0]] 8 rfl (World.shaped_of_RefB (by kernel_rfl) (by kernel_rfl)) (by kernel_rfl) (by kernel_rfl) (by kernel_rfl) (Zlc os _)) ?_
 intro W base args ds gs cg ah hW hL bt;have ag:∀ (j:Nat) t v,Tryz.f12.params[j]? = some t->args[j]? = some v->Value.okWide aB W .any base t v:=ah;have bi:=hW;obtain⟨p,q,hA0,hV,rfl,cn,cp⟩:=hW;have hA:DataW.TrodAll enc aB W 0 (λ_=>true) true Tryz.f12.params.toList args.toList ds p:=hA0;have af:(DataW.weightsEach aB (Tryz.f12.params.toList++Rows.worldAgreeSpec.plain.varTypes aB) (ds++gs)).all (·<=reachBytes)=true:=bt;rw[Tryz.params12] at hA ag af;obtain⟨v0,ct,d0,cj,p0,q0,cm,rfl,rfl,h0,r0⟩:=trodAll_cons hA;obtain⟨rfl,rfl,rfl⟩:=trodAll_nil r0;obtain rfl:args=#[v0]:=by cases args;simp_all
 obtain⟨rfl,rfl⟩:=trodVars_none hV;obtain⟨aa,rfl,_⟩:=okWide_struct Tryz.underlying90 (ag 0 90 v0 rfl rfl);have k0:=h0;have bv:∀ x∈p0,x.block<W.heap.size:=by obtain⟨m,hm⟩:=k0;exact DataW.trod_lt m _ _ _ hm
 obtain⟨cl,bo⟩:=h0
 have bq:Fits 90 d0:=λz hz=>by
  have:=List.all_eq_true.1 af _ (DataW.weights_mem_each (j:=0) (t:=90) (d:=d0) rfl rfl z hz);simpa using this
 obtain⟨ak,an,am,au,aw,av,ap,ar,aq,K0,L0,M0,bj,bd,bg,bf,cc,ce,cd,ca,bz⟩:=Zah bo bq
 obtain rfl:aa=#[F ak an am,F au aw av,F ap ar aq]:=by
  cases aa;simpa[Value.cells] using bj
 clear hA0 ah;refine (Hh ak an am au aw av ap ar aq ⟨K0,L0,M0⟩ W (C7 hL) ⟨bd,bg,bf⟩ cc ce cd ca bz).mono λe W' ⟨he,bel⟩=>?_;subst he;exact⟨_,rfl,_,_,_,[],_,[],bi,trodAll_mk1 (shut_bool Tryz.underlying4 _),(trodAll_cons_mk (Below.trod G9 (by kernel_rfl) (of_decide_eq_true (by kernel_rfl)) k0 bel bv) trodAll_mk0),rfl,bel.frame _,λh=>by cases h⟩
theorem said:Rows.WorldAgreeSaid:=
 OpenClaim.holds_of_wide 12 Tryz.f12 rfl rfl rfl rfl rfl rfl rfl ⟨rfl,rfl,rfl,rfl,rfl⟩ rfl rfl rfl rfl rfl (by kernel_rfl) Tryz.func12 Zrg
  (of_decide_eq_true (by kernel_rfl)) (by unfold Func.isWrapper;first|(rw[if_pos (by decide +kernel)];kernel_rfl)|(rw[if_neg (by decide +kernel)];exact⟨rfl,rfl⟩))
  (λos aa H enc _=>Zra os aa H enc)
#print axioms said
