import Derived.Test.YtmomfkikogbdeaaGreatDoorG43
import Derived.Test.YtmomfkikogbdeaaGreatDoorG67
import Derived.Test.YtmomfkikogbdeaaGreatDoorG68
namespace Go.Proofs.YtmomfkikogbdeaaGreatDoor.nodeOrder
open Go.ChangeShapes Go.WideShapes Go.ChangeAt Go.RowKit
set_option maxRecDepth 100000 in
theorem V7(os:Os)(args:Array Value):laidMetH Tryz.prog Rows.nodeOrderRow.laid ((World.doorLaid Tryz.prog 400 os).forCall (fun _ _=>0) ⟨#[],args,[]⟩).memory:=
 laidMetH_of_parts3 (fuel:=8) (laidMet_of_run' 8 (by kernel_rfl) (by kernel_rfl)) (by kernel_rfl) (by kernel_rfl)
theorem Xh{W:World}(h:laidMetH Tryz.prog Rows.nodeOrderRow.laid W):Env W:=by
 rw[MakeChecks.laidMetH_plain _ _ _ (by kernel_rfl)] at h
 obtain⟨ps,⟨g0,t0,cs0,f0,p0,q0,hg0,ht0,hv0,hd0,⟨g1,t1,cs1,f1,p1,q1,hg1,ht1,hv1,hd1,⟨g2,t2,cs2,f2,p2,q2,hg2,ht2,hv2,hd2,⟨g3,t3,cs3,f3,p3,q3,hg3,ht3,hv3,hd3,_,_⟩,_⟩,_⟩,_⟩,_,_⟩:=h
 obtain rfl:=Option.some.inj (Tryz.gTab.symm.trans hg2)
 obtain rfl:=Option.some.inj (Lf.Tryz.tTab.symm.trans ht2)
 obtain rfl:=Option.some.inj (Tryz.gNam.symm.trans hg3)
 obtain rfl:=Option.some.inj (Lf.Tryz.tNam.symm.trans ht3)
 exact⟨Lf.tab_of_laid hv2 hd2,Lf.names_of_laid hv3 hd3⟩
set_option maxRecDepth 100000 in
theorem Rl(os:Os)(started:os.Started)(H:Type)(enc:TypeId×Value→H) :
  ReturnsInHanded {} Tryz.checked os 10 .any (fun w args=>(Rows.nodeOrderSpec.pre enc Tryz.prog Tryz.f10 [] false w args∧laidMetH Tryz.prog Rows.nodeOrderRow.laid w)∧sizedMet enc Tryz.prog Tryz.f10 (OpenSpec.ofChange Rows.nodeOrderSpec) false w args)
   (Rows.nodeOrderSpec.post enc Tryz.prog Tryz.f10 false true false false):=by
 refine Vn (s:=Rows.nodeOrderSpec) (enc:=enc) (X:=fun w=>laidMetH Tryz.prog Rows.nodeOrderRow.laid w) (fun _ _ hh h=>h.of_heap hh) started (by kernel_rfl) Tryz.func10
  (ChangeSpec.witness_shaped (enc:=enc) (C:=Tryz.checked) (os:=os) (X:=fun w _=>laidMetH Tryz.prog Rows.nodeOrderRow.laid w) false (World.doorLaid Tryz.prog 400 os) #[.agg #[.slice none 0 0],.agg #[.slice none 0 0,.slice none 0 0,.slice none 0 0,.int .i64 0],.agg #[.int .i64 0,.int .i64 0,.int .i64 0,.int .i64 0,.slice none 0 0],.agg #[.int .i64 0,.int .i64 0,.int .i64 0,.int .i64 0,.slice none 0 0]] 8 rfl (World.shaped_of_RefB (by kernel_rfl) (by kernel_rfl)) (by kernel_rfl) (by kernel_rfl) (by kernel_rfl) (V7 os _)) ?_
 intro W base args ds gs before hval0 hW hL hsh
 have hval:∀ (j:Nat) t v,Tryz.f10.params[j]? = some t→args[j]? = some v→Value.okWide Tryz.prog W .any base t v:=hval0
 have hW':=hW
 obtain⟨p,q,hA0,hV,rfl,hfz,hnd⟩:=hW
 have hA:DataW.TrodAll enc Tryz.prog W 0 (fun _=>true) true Tryz.f10.params.toList args.toList ds p:=hA0
 have hsz:(DataW.weightsEach Tryz.prog (Tryz.f10.params.toList++Rows.nodeOrderSpec.plain.varTypes Tryz.prog) (ds++gs)).all (·≤reachBytes)=true:=hsh
 rw[Tryz.params10] at hA hval hsz
 obtain⟨v0,vs0,d0,ds0,p0,q0,hargs,rfl,rfl,h0,r0⟩:=trodAll_cons hA
 obtain⟨v1,vs1,d1,ds1,p1,q1,rfl,rfl,rfl,h1,r1⟩:=trodAll_cons r0
 obtain⟨v2,vs2,d2,ds2,p2,q2,rfl,rfl,rfl,h2,r2⟩:=trodAll_cons r1
 obtain⟨v3,vs3,d3,ds3,p3,q3,rfl,rfl,rfl,h3,r3⟩:=trodAll_cons r2
 obtain⟨rfl,rfl,rfl⟩:=trodAll_nil r3
 obtain rfl:args=#[v0,v1,v2,v3]:=by cases args;simp_all
 obtain⟨rfl,rfl⟩:=trodVars_none hV
 obtain⟨cs0,rfl,_⟩:=okWide_struct Tryz.underlying24 (hval 0 24 v0 rfl rfl)
 obtain⟨cs1,rfl,_⟩:=okWide_struct Tryz.underlying67 (hval 1 67 v1 rfl rfl)
 obtain⟨cs2,rfl,_⟩:=okWide_struct Tryz.underlying39 (hval 2 39 v2 rfl rfl)
 obtain⟨cs3,rfl,_⟩:=okWide_struct Tryz.underlying39 (hval 3 39 v3 rfl rfl)
 have k0:=h0
 have lt0:∀ x∈p0,x.block<W.heap.size:=by obtain⟨m,hm⟩:=k0;exact DataW.trod_lt m _ _ _ hm
 obtain⟨fu0,hf0⟩:=h0
 obtain⟨ka0,kn0,kc0,K0,hcs0,hK0,sK0⟩:=Bk.book_full hf0
 obtain rfl:cs0=#[.slice ka0 kn0 kc0]:=by
  cases cs0;simpa[Value.cells] using hcs0
 have k1:=h1
 have lt1:∀ x∈p1,x.block<W.heap.size:=by obtain⟨m,hm⟩:=k1;exact DataW.trod_lt m _ _ _ hm
 obtain⟨fu1,hf1⟩:=h1
 have hfit1:Fits 67 d1:=fun z hz=>by
  have:=List.all_eq_true.1 hsz _ (DataW.weights_mem_each (j:=1) (t:=67) (d:=d1) rfl rfl z hz)
  simpa using this
 obtain⟨na1,nn1,nc1,ba1,bn1,bc1,pa1,pn1,pc1,tip1,N1,T1,P1,hcs1,hN1,sN1,hT1,sT1,hP1,sP1,hp1,hq1⟩:=Js hf1 hfit1
 obtain rfl:cs1=#[.slice na1 nn1 nc1,.slice ba1 bn1 bc1,.slice pa1 pn1 pc1,.int .i64 tip1]:=by
  cases cs1;simpa[Value.cells] using hcs1
 have k2:=h2
 have lt2:∀ x∈p2,x.block<W.heap.size:=by obtain⟨m,hm⟩:=k2;exact DataW.trod_lt m _ _ _ hm
 obtain⟨fu2,hf2⟩:=h2
 obtain⟨bp2,bh2,bk2,bn2,ba2,bm2,bc2,T2,hcs2,hT2,sT2⟩:=Hy hf2
 obtain rfl:cs2=#[.int .i64 bp2,.int .i64 bh2,.int .i64 bk2,.int .i64 bn2,.slice ba2 bm2 bc2]:=by
  cases cs2;simpa[Value.cells] using hcs2
 have k3:=h3
 have lt3:∀ x∈p3,x.block<W.heap.size:=by obtain⟨m,hm⟩:=k3;exact DataW.trod_lt m _ _ _ hm
 obtain⟨fu3,hf3⟩:=h3
 obtain⟨bp3,bh3,bk3,bn3,ba3,bm3,bc3,T3,hcs3,hT3,sT3⟩:=Hy hf3
 obtain rfl:cs3=#[.int .i64 bp3,.int .i64 bh3,.int .i64 bk3,.int .i64 bn3,.slice ba3 bm3 bc3]:=by
  cases cs3;simpa[Value.cells] using hcs3
 clear hA0 hval0
 refine (Ki ka0 kn0 kc0 K0 na1 ba1 pa1 nn1 nc1 bn1 bc1 pn1 pc1 N1 T1 tip1 bp2 bh2 bk2 bn2 ba2 bm2 bc2 T2 bp3 bh3 bk3 bn3 ba3 bm3 bc3 T3 W (Xh hL) hK0 hN1 hT1 sN1 sT1 hT2 sT2 hT3 sT3).mono fun e W' ⟨he,bel⟩=>?_
 subst he
 exact⟨_,rfl,_,_,_,[],_,[],hW',trodAll_mk1 (shut_bool Tryz.underlying4 _),(trodAll_cons_mk (Below.trod Yy (by kernel_rfl) (of_decide_eq_true (by kernel_rfl)) k0 bel lt0) (trodAll_cons_mk (Below.trod Yy (by kernel_rfl) (of_decide_eq_true (by kernel_rfl)) k1 bel lt1) (trodAll_cons_mk (Below.trod Yy (by kernel_rfl) (of_decide_eq_true (by kernel_rfl)) k2 bel lt2) (trodAll_cons_mk (Below.trod Yy (by kernel_rfl) (of_decide_eq_true (by kernel_rfl)) k3 bel lt3) trodAll_mk0)))),rfl,bel.frame _,fun h=>by cases h⟩
theorem Ge:Rows.NodeOrderSaid:=
 OpenClaim.holds_of_wide 10 Tryz.f10 rfl rfl rfl rfl rfl rfl rfl ⟨rfl,rfl,rfl,rfl,rfl⟩ rfl rfl rfl rfl rfl (by kernel_rfl) Tryz.func10 Rq
  (of_decide_eq_true (by kernel_rfl)) (by unfold Func.isWrapper;first|(rw[if_pos (by decide +kernel)];kernel_rfl)|(rw[if_neg (by decide +kernel)];exact⟨rfl,rfl⟩))
  (fun os started H enc _=>Rl os started H enc)
#print axioms Ge
end Go.Proofs.YtmomfkikogbdeaaGreatDoor.nodeOrder
