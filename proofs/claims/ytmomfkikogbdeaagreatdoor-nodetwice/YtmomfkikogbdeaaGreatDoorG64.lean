import Derived.Test.YtmomfkikogbdeaaGreatDoorG43
import Derived.Test.YtmomfkikogbdeaaGreatDoorG62
import Derived.Test.YtmomfkikogbdeaaGreatDoorG63
namespace Go.Proofs.YtmomfkikogbdeaaGreatDoor.nodeTwice
open Go.ChangeShapes Go.WideShapes Go.ChangeAt Go.RowKit
set_option maxRecDepth 100000 in
theorem V7(os:Os)(args:Array Value):laidMetH Tryz.prog Rows.nodeTwiceRow.laid ((World.doorLaid Tryz.prog 400 os).forCall (fun _ _=>0) ⟨#[],args,[]⟩).memory:=
 laidMetH_of_parts3 (fuel:=8) (laidMet_of_run' 8 (by kernel_rfl) (by kernel_rfl)) (by kernel_rfl) (by kernel_rfl)
theorem Xh{W:World}(h:laidMetH Tryz.prog Rows.nodeTwiceRow.laid W):Env W:=by
 rw[MakeChecks.laidMetH_plain _ _ _ (by kernel_rfl)] at h
 obtain⟨ps,⟨g0,t0,cs0,f0,p0,q0,hg0,ht0,hv0,hd0,⟨g1,t1,cs1,f1,p1,q1,hg1,ht1,hv1,hd1,⟨g2,t2,cs2,f2,p2,q2,hg2,ht2,hv2,hd2,⟨g3,t3,cs3,f3,p3,q3,hg3,ht3,hv3,hd3,_,_⟩,_⟩,_⟩,_⟩,_,_⟩:=h
 obtain rfl:=Option.some.inj (Tryz.gTab.symm.trans hg2)
 obtain rfl:=Option.some.inj (Lf.Tryz.tTab.symm.trans ht2)
 obtain rfl:=Option.some.inj (Tryz.gNam.symm.trans hg3)
 obtain rfl:=Option.some.inj (Lf.Tryz.tNam.symm.trans ht3)
 exact⟨Lf.tab_of_laid hv2 hd2,Lf.names_of_laid hv3 hd3⟩
set_option maxRecDepth 100000 in
theorem Rl(os:Os)(started:os.Started)(H:Type)(enc:TypeId×Value→H) :
  ReturnsInHanded {} Tryz.checked os 11 .any (fun w args=>(Rows.nodeTwiceSpec.pre enc Tryz.prog Tryz.f11 [] false w args∧laidMetH Tryz.prog Rows.nodeTwiceRow.laid w)∧sizedMet enc Tryz.prog Tryz.f11 (OpenSpec.ofChange Rows.nodeTwiceSpec) false w args)
   (Rows.nodeTwiceSpec.post enc Tryz.prog Tryz.f11 false true false false):=by
 refine Vn (s:=Rows.nodeTwiceSpec) (enc:=enc) (X:=fun w=>laidMetH Tryz.prog Rows.nodeTwiceRow.laid w) (fun _ _ hh h=>h.of_heap hh) started (by kernel_rfl) Tryz.func11
  (ChangeSpec.witness_shaped (enc:=enc) (C:=Tryz.checked) (os:=os) (X:=fun w _=>laidMetH Tryz.prog Rows.nodeTwiceRow.laid w) false (World.doorLaid Tryz.prog 400 os) #[.agg #[.slice none 0 0],.agg #[.slice none 0 0,.slice none 0 0,.slice none 0 0,.int .i64 0],.agg #[.int .i64 0,.slice none 0 0,.slice none 0 0],.int .i64 0,.slice none 0 0] 8 rfl (World.shaped_of_RefB (by kernel_rfl) (by kernel_rfl)) (by kernel_rfl) (by kernel_rfl) (by kernel_rfl) (V7 os _)) ?_
 intro W base args ds gs before hval0 hW hL hsh
 have hval:∀ (j:Nat) t v,Tryz.f11.params[j]? = some t→args[j]? = some v→Value.okWide Tryz.prog W .any base t v:=hval0
 have hW':=hW
 obtain⟨p,q,hA0,hV,rfl,hfz,hnd⟩:=hW
 have hA:DataW.TrodAll enc Tryz.prog W 0 (fun _=>true) true Tryz.f11.params.toList args.toList ds p:=hA0
 have hsz:(DataW.weightsEach Tryz.prog (Tryz.f11.params.toList++Rows.nodeTwiceSpec.plain.varTypes Tryz.prog) (ds++gs)).all (·≤reachBytes)=true:=hsh
 rw[Tryz.params11] at hA hval hsz
 obtain⟨v0,vs0,d0,ds0,p0,q0,hargs,rfl,rfl,h0,r0⟩:=trodAll_cons hA
 obtain⟨v1,vs1,d1,ds1,p1,q1,rfl,rfl,rfl,h1,r1⟩:=trodAll_cons r0
 obtain⟨v2,vs2,d2,ds2,p2,q2,rfl,rfl,rfl,h2,r2⟩:=trodAll_cons r1
 obtain⟨v3,vs3,d3,ds3,p3,q3,rfl,rfl,rfl,h3,r3⟩:=trodAll_cons r2
 obtain⟨v4,vs4,d4,ds4,p4,q4,rfl,rfl,rfl,h4,r4⟩:=trodAll_cons r3
 obtain⟨rfl,rfl,rfl⟩:=trodAll_nil r4
 obtain rfl:args=#[v0,v1,v2,v3,v4]:=by cases args;simp_all
 obtain⟨rfl,rfl⟩:=trodVars_none hV
 obtain⟨cs0,rfl,_⟩:=okWide_struct Tryz.underlying24 (hval 0 24 v0 rfl rfl)
 obtain⟨cs1,rfl,_⟩:=okWide_struct Tryz.underlying67 (hval 1 67 v1 rfl rfl)
 obtain⟨cs2,rfl,_⟩:=okWide_struct Tryz.underlying59 (hval 2 59 v2 rfl rfl)
 obtain⟨m3,rfl,rfl,rfl,w3⟩:=open_int Tryz.underlying3 (hval 3 3 v3 rfl rfl) h3
 obtain⟨a4,n4,c4,rfl⟩:=okWide_slice Tryz.underlying48 (hval 4 48 v4 rfl rfl)
 have k0:=h0
 have lt0:∀ x∈p0,x.block<W.heap.size:=by obtain⟨m,hm⟩:=k0;exact DataW.trod_lt m _ _ _ hm
 obtain⟨fu0,hf0⟩:=h0
 obtain⟨ka0,kn0,kc0,K0,hcs0,hK0,sK0⟩:=Bk.book_full hf0
 obtain rfl:cs0=#[.slice ka0 kn0 kc0]:=by
  cases cs0;simpa[Value.cells] using hcs0
 have k1:=h1
 have lt1:∀ x∈p1,x.block<W.heap.size:=by obtain⟨m,hm⟩:=k1;exact DataW.trod_lt m _ _ _ hm
 obtain⟨fu1,hf1⟩:=h1
 have hfit1:Fits 67 d1:=fun z hz=>by
  have:=List.all_eq_true.1 hsz _ (DataW.weights_mem_each (j:=1) (t:=67) (d:=d1) rfl rfl z hz)
  simpa using this
 obtain⟨na1,nn1,nc1,ba1,bn1,bc1,pa1,pn1,pc1,tip1,N1,T1,P1,hcs1,hN1,sN1,hT1,sT1,hP1,sP1,hp1,hq1⟩:=Js hf1 hfit1
 obtain rfl:cs1=#[.slice na1 nn1 nc1,.slice ba1 bn1 bc1,.slice pa1 pn1 pc1,.int .i64 tip1]:=by
  cases cs1;simpa[Value.cells] using hcs1
 have k2:=h2
 have lt2:∀ x∈p2,x.block<W.heap.size:=by obtain⟨m,hm⟩:=k2;exact DataW.trod_lt m _ _ _ hm
 obtain⟨fu2,hf2⟩:=h2
 obtain⟨th2,ai2,ni2,ci2,ao2,no2,co2,I2,O2,hcs2,hI2,hO2,sI2,sO2⟩:=B9 hf2
 obtain rfl:cs2=#[.int .i64 th2,.slice ai2 ni2 ci2,.slice ao2 no2 co2]:=by
  cases cs2;simpa[Value.cells] using hcs2
 have k4:=h4
 have lt4:∀ x∈p4,x.block<W.heap.size:=by obtain⟨m,hm⟩:=k4;exact DataW.trod_lt m _ _ _ hm
 obtain⟨fu4,hf4⟩:=h4
 obtain⟨e1a,e1n,e1c,Q4,hcs4,hQ4,sQ4,hdat4⟩:=Lj (v:=.slice a4 n4 c4) (by simpa[Value.cells] using hf4)
 obtain⟨rfl,rfl,rfl⟩:a4=e1a∧n4=e1n∧c4=e1c:=by injection hcs4 with e1 e2 e3;exact⟨e1,e2,e3⟩
 have hnl4:n4≤8796093022208:=by
  rcases hdat4 with h|⟨elems,spare,hd,hl⟩
  ·omega
  ·simp only at hd
   have:=sized_slice hsz (j:=4) (t:=48) (e:=164) (elems:=elems) (spare:=spare) rfl (by rw[hd];rfl) Tryz.underlying48
   rw[Tryz.bytesOp] at this
   unfold reachBytes at this
   omega
 clear hA0 hval0
 refine (Kh ka0 kn0 kc0 K0 na1 ba1 pa1 nn1 nc1 bn1 bc1 pn1 pc1 N1 T1 P1 tip1 th2 ai2 ao2 ni2 ci2 no2 co2 I2 O2 m3 a4 n4 c4 Q4 W (Xh hL) hK0 hN1 hT1 hP1 sN1 sT1 sP1 hp1 hq1 hI2 hO2 sI2 sO2 hQ4 sQ4 hnl4).mono fun e W' ⟨he,bel⟩=>?_
 subst he
 exact⟨_,rfl,_,_,_,[],_,[],hW',trodAll_mk1 (shut_bool Tryz.underlying4 _),(trodAll_cons_mk (Below.trod Yy (by kernel_rfl) (of_decide_eq_true (by kernel_rfl)) k0 bel lt0) (trodAll_cons_mk (Below.trod Yy (by kernel_rfl) (of_decide_eq_true (by kernel_rfl)) k1 bel lt1) (trodAll_cons_mk (Below.trod Yy (by kernel_rfl) (of_decide_eq_true (by kernel_rfl)) k2 bel lt2) (trodAll_cons_mk (shut_int Tryz.underlying3 w3) (trodAll_cons_mk (Below.trod Yy (by kernel_rfl) (of_decide_eq_true (by kernel_rfl)) k4 bel lt4) trodAll_mk0))))),rfl,bel.frame _,fun h=>by cases h⟩
theorem Ge:Rows.NodeTwiceSaid:=
 OpenClaim.holds_of_wide 11 Tryz.f11 rfl rfl rfl rfl rfl rfl rfl ⟨rfl,rfl,rfl,rfl,rfl⟩ rfl rfl rfl rfl rfl (by kernel_rfl) Tryz.func11 Rq
  (of_decide_eq_true (by kernel_rfl)) (by unfold Func.isWrapper;first|(rw[if_pos (by decide +kernel)];kernel_rfl)|(rw[if_neg (by decide +kernel)];exact⟨rfl,rfl⟩))
  (fun os started H enc _=>Rl os started H enc)
end Go.Proofs.YtmomfkikogbdeaaGreatDoor.nodeTwice
