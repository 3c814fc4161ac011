import Derived.Test.YtpikejjiignchaaGreatDoorG49
import Derived.Test.YtpikejjiignchaaGreatDoorG50
import Derived.Test.YtpikejjiignchaaGreatDoorG51
namespace Go.Proofs.YtpikejjiignchaaGreatDoor.poolMake
open Go.ChangeShapes Go.WideShapes Go.ChangeAt Go.RowKit
set_option maxRecDepth 100000 in
theorem Zdv(os:Os)(args:Array Value):laidMetH Tryz.prog Rows.poolMakeRow.laid ((World.doorLaid Tryz.prog 400 os).forCall (fun _ _=>0) ⟨#[],args,[]⟩).memory:=
 laidMetH_of_parts3 (fuel:=8) (Px 8 257 (by kernel_rfl)) (by kernel_rfl) (by kernel_rfl)
theorem D7{W:World}(h:laidMetH Tryz.prog Rows.poolMakeRow.laid W):EnvF W:=by
 rw[MakeChecks.laidMetH_plain _ _ _ (by kernel_rfl)] at h
 obtain⟨ps,⟨g0,t0,cs0,f0,p0,q0,hg0,ht0,hv0,hd0,⟨g1,t1,cs1,f1,p1,q1,hg1,ht1,hv1,hd1,⟨g2,t2,cs2,f2,p2,q2,hg2,ht2,hv2,hd2,⟨g3,t3,cs3,f3,p3,q3,hg3,ht3,hv3,hd3,⟨g4,t4,cs4,f4,p4,q4,hg4,ht4,hv4,hd4,⟨g5,t5,cs5,f5,p5,q5,hg5,ht5,hv5,hd5,_,_⟩,_⟩,_⟩,_⟩,_⟩,_⟩,_,_⟩:=h
 obtain rfl:=Option.some.inj (Tryz.gTab.symm.trans hg2)
 obtain rfl:=Option.some.inj (Lf.Tryz.tTab.symm.trans ht2)
 obtain rfl:=Option.some.inj (Tryz.gNam.symm.trans hg5)
 obtain rfl:=Option.some.inj (Lf.Tryz.tNam.symm.trans ht5)
 obtain rfl:=Option.some.inj (Tryz.gSpc.symm.trans hg4)
 obtain rfl:=Option.some.inj (Tryz.tSpc.symm.trans ht4)
 exact⟨⟨Lf.tab_of_laid hv2 hd2,Lf.names_of_laid hv5 hd5⟩,Kd hv4 hd4⟩
set_option maxRecDepth 100000 in
theorem Zhm(os:Os)(started:os.Started)(H:Type)(enc:TypeId×Value→H) :
  ReturnsInHanded {} Tryz.checked os 6 .any (fun w args=>(Rows.poolMakeSpec.pre enc Tryz.prog Tryz.f6 [] false w args∧laidMetH Tryz.prog Rows.poolMakeRow.laid w)∧sizedMet enc Tryz.prog Tryz.f6 (OpenSpec.ofChange Rows.poolMakeSpec) false w args)
   (Rows.poolMakeSpec.post enc Tryz.prog Tryz.f6 false true false false):=by
 refine Mp (s:=Rows.poolMakeSpec) (enc:=enc) (X:=fun w=>laidMetH Tryz.prog Rows.poolMakeRow.laid w) (fun _ _ hh h=>h.of_heap hh) started (by kernel_rfl) Tryz.func6
  (ChangeSpec.witness_shaped (enc:=enc) (C:=Tryz.checked) (os:=os) (X:=fun w _=>laidMetH Tryz.prog Rows.poolMakeRow.laid w) false (World.doorLaid Tryz.prog 400 os) #[.agg #[.slice none 0 0],.slice none 0 0,.slice none 0 0,.int .i64 0,.int .i64 0,.int .i64 0,.int .i64 0,.slice none 0 0] 8 rfl (World.shaped_of_RefB (by kernel_rfl) (by kernel_rfl)) (by kernel_rfl) (by kernel_rfl) (by kernel_rfl) (Zdv os _)) ?_
 intro W base args ds gs before hval0 hW hL hsh
 have hval:∀ (j:Nat) t v,Tryz.f6.params[j]? = some t→args[j]? = some v→Value.okWide Tryz.prog W .any base t v:=hval0
 have hW':=hW
 obtain⟨p,q,hA0,hV,rfl,hfz,hnd⟩:=hW
 have hA:DataW.TrodAll enc Tryz.prog W 0 (fun _=>true) true Tryz.f6.params.toList args.toList ds p:=hA0
 have hsz:(DataW.weightsEach Tryz.prog (Tryz.f6.params.toList++Rows.poolMakeSpec.plain.varTypes Tryz.prog) (ds++gs)).all (·≤reachBytes)=true:=hsh
 rw[Tryz.params6] at hA hval hsz
 obtain⟨v0,vs0,d0,ds0,p0,q0,hargs,rfl,rfl,h0,r0⟩:=trodAll_cons hA
 obtain⟨v1,vs1,d1,ds1,p1,q1,rfl,rfl,rfl,h1,r1⟩:=trodAll_cons r0
 obtain⟨v2,vs2,d2,ds2,p2,q2,rfl,rfl,rfl,h2,r2⟩:=trodAll_cons r1
 obtain⟨v3,vs3,d3,ds3,p3,q3,rfl,rfl,rfl,h3,r3⟩:=trodAll_cons r2
 obtain⟨v4,vs4,d4,ds4,p4,q4,rfl,rfl,rfl,h4,r4⟩:=trodAll_cons r3
 obtain⟨v5,vs5,d5,ds5,p5,q5,rfl,rfl,rfl,h5,r5⟩:=trodAll_cons r4
 obtain⟨v6,vs6,d6,ds6,p6,q6,rfl,rfl,rfl,h6,r6⟩:=trodAll_cons r5
 obtain⟨v7,vs7,d7,ds7,p7,q7,rfl,rfl,rfl,h7,r7⟩:=trodAll_cons r6
 obtain⟨rfl,rfl,rfl⟩:=trodAll_nil r7
 obtain rfl:args=#[v0,v1,v2,v3,v4,v5,v6,v7]:=by cases args;simp_all
 obtain⟨rfl,rfl⟩:=trodVars_none hV
 obtain⟨cs0,rfl,_⟩:=okWide_struct Tryz.underlying24 (hval 0 24 v0 rfl rfl)
 obtain⟨a1,n1,c1,rfl⟩:=okWide_slice Tryz.underlying29 (hval 1 29 v1 rfl rfl)
 obtain⟨a2,n2,c2,rfl⟩:=okWide_slice Tryz.underlying48 (hval 2 48 v2 rfl rfl)
 obtain⟨m3,rfl,rfl,rfl,w3⟩:=open_int Tryz.underlying3 (hval 3 3 v3 rfl rfl) h3
 obtain⟨m4,rfl,rfl,rfl,w4⟩:=open_int Tryz.underlying3 (hval 4 3 v4 rfl rfl) h4
 obtain⟨m5,rfl,rfl,rfl,w5⟩:=open_int Tryz.underlying3 (hval 5 3 v5 rfl rfl) h5
 obtain⟨m6,rfl,rfl,rfl,w6⟩:=open_int Tryz.underlying3 (hval 6 3 v6 rfl rfl) h6
 obtain⟨a7,n7,c7,rfl⟩:=okWide_slice Tryz.underlying66 (hval 7 66 v7 rfl rfl)
 have k0:=h0
 have lt0:∀ x∈p0,x.block<W.heap.size:=by obtain⟨m,hm⟩:=k0;exact DataW.trod_lt m _ _ _ hm
 obtain⟨fu0,hf0⟩:=h0
 obtain⟨ka0,kn0,kc0,K0,hcs0,hK0,sK0⟩:=Bk.book_full hf0
 obtain rfl:cs0=#[.slice ka0 kn0 kc0]:=by
  cases cs0;simpa[Value.cells] using hcs0
 have k1:=h1
 have lt1:∀ x∈p1,x.block<W.heap.size:=by obtain⟨m,hm⟩:=k1;exact DataW.trod_lt m _ _ _ hm
 obtain⟨fu1,hf1⟩:=h1
 obtain⟨e1a,e1n,e1c,C1,hcs1,hC1,sC1⟩:=A9 (v:=.slice a1 n1 c1) (by simpa[Value.cells] using hf1)
 obtain⟨rfl,rfl,rfl⟩:a1=e1a∧n1=e1n∧c1=e1c:=by injection hcs1 with e1 e2 e3;exact⟨e1,e2,e3⟩
 have k2:=h2
 have lt2:∀ x∈p2,x.block<W.heap.size:=by obtain⟨m,hm⟩:=k2;exact DataW.trod_lt m _ _ _ hm
 obtain⟨fu2,hf2⟩:=h2
 obtain⟨e1a,e1n,e1c,T2,hcs2,hT2,sT2⟩:=Zbc (v:=.slice a2 n2 c2) (by simpa[Value.cells] using hf2)
 obtain⟨rfl,rfl,rfl⟩:a2=e1a∧n2=e1n∧c2=e1c:=by injection hcs2 with e1 e2 e3;exact⟨e1,e2,e3⟩
 have k7:=h7
 have lt7:∀ x∈p7,x.block<W.heap.size:=by obtain⟨m,hm⟩:=k7;exact DataW.trod_lt m _ _ _ hm
 obtain⟨fu7,hf7⟩:=h7
 obtain⟨e1a,e1n,e1c,Q7,hcs7,hQ7,sQ7,hdat7⟩:=E7 (v:=.slice a7 n7 c7) (by simpa[Value.cells] using hf7)
 obtain⟨rfl,rfl,rfl⟩:a7=e1a∧n7=e1n∧c7=e1c:=by injection hcs7 with e1 e2 e3;exact⟨e1,e2,e3⟩
 have hnl7:n7≤8796093022208:=by
  rcases hdat7 with h|⟨elems,spare,hd,hl⟩
  ·omega
  ·simp only at hd
   have:=sized_slice hsz (j:=7) (t:=66) (e:=122) (elems:=elems) (spare:=spare) rfl (by rw[hd];rfl) Tryz.underlying66
   rw[Tryz.bytesOp] at this
   unfold reachBytes at this
   omega
 clear hA0 hval0
 refine (Md ka0 kn0 kc0 K0 a1 n1 c1 C1 a2 n2 c2 T2 m3 m4 m5 m6 a7 n7 c7 Q7 W (D7 hL) hK0 sK0 hC1 sC1 hT2 hQ7 sQ7 hnl7 w4).mono fun e W' ⟨he,bel⟩=>?_
 subst he
 exact⟨_,rfl,_,_,_,[],_,[],hW',trodAll_mk1 (shut_bool Tryz.underlying4 _),(trodAll_cons_mk (Below.trod Qj (by kernel_rfl) (of_decide_eq_true (by kernel_rfl)) k0 bel lt0) (trodAll_cons_mk (Below.trod Qj (by kernel_rfl) (of_decide_eq_true (by kernel_rfl)) k1 bel lt1) (trodAll_cons_mk (Below.trod Qj (by kernel_rfl) (of_decide_eq_true (by kernel_rfl)) k2 bel lt2) (trodAll_cons_mk (shut_int Tryz.underlying3 w3) (trodAll_cons_mk (shut_int Tryz.underlying3 w4) (trodAll_cons_mk (shut_int Tryz.underlying3 w5) (trodAll_cons_mk (shut_int Tryz.underlying3 w6) (trodAll_cons_mk (Below.trod Qj (by kernel_rfl) (of_decide_eq_true (by kernel_rfl)) k7 bel lt7) trodAll_mk0)))))))),rfl,bel.frame _,fun h=>by cases h⟩
theorem said:Rows.PoolMakeSaid:=
 OpenClaim.holds_of_wide 6 Tryz.f6 rfl rfl rfl rfl rfl rfl rfl ⟨rfl,rfl,rfl,rfl,rfl⟩ rfl rfl rfl rfl rfl (by kernel_rfl) Tryz.func6 Zhu
  (of_decide_eq_true (by kernel_rfl)) (by unfold Func.isWrapper;first|(rw[if_pos (by decide +kernel)];kernel_rfl)|(rw[if_neg (by decide +kernel)];exact⟨rfl,rfl⟩))
  (fun os started H enc _=>Zhm os started H enc)
#print axioms said
end Go.Proofs.YtpikejjiignchaaGreatDoor.poolMake
