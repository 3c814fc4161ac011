import Derived.Test.YtpikejjiignchaaGreatDoorG47
import Derived.Test.YtpikejjiignchaaGreatDoorG48
import Derived.Test.YtpikejjiignchaaGreatDoorG49
namespace Go.Proofs.YtpikejjiignchaaGreatDoor.chainCoins
open Go.ChangeShapes Go.WideShapes Go.ChangeAt Go.RowKit
set_option maxRecDepth 100000 in
theorem Zhv(os:Os)(args:Array Value):laidMetH Tryz.prog Rows.chainCoinsRow.laid ((World.doorLaid Tryz.prog 400 os).forCall (fun _ _=>0) ⟨#[],args,[]⟩).memory:=
 laidMetH_of_parts3 (fuel:=8) (Hc 8 257 (by kernel_rfl)) (by kernel_rfl) (by kernel_rfl)
theorem Ch{W:World}(h:laidMetH Tryz.prog Rows.chainCoinsRow.laid W):EnvF W:=by
 rw[MakeChecks.laidMetH_plain _ _ _ (by kernel_rfl)] at h
 obtain⟨ps,⟨g0,t0,cs0,f0,p0,q0,hg0,ht0,hv0,hd0,⟨g1,t1,cs1,f1,p1,q1,hg1,ht1,hv1,hd1,⟨g2,t2,cs2,f2,p2,q2,hg2,ht2,hv2,hd2,⟨g3,t3,cs3,f3,p3,q3,hg3,ht3,hv3,hd3,⟨g4,t4,cs4,f4,p4,q4,hg4,ht4,hv4,hd4,⟨g5,t5,cs5,f5,p5,q5,hg5,ht5,hv5,hd5,_,_⟩,_⟩,_⟩,_⟩,_⟩,_⟩,_,_⟩:=h
 obtain rfl:=Option.some.inj (Tryz.gTab.symm.trans hg2)
 obtain rfl:=Option.some.inj (Lf.Tryz.tTab.symm.trans ht2)
 obtain rfl:=Option.some.inj (Tryz.gNam.symm.trans hg5)
 obtain rfl:=Option.some.inj (Lf.Tryz.tNam.symm.trans ht5)
 obtain rfl:=Option.some.inj (Tryz.gSpc.symm.trans hg4)
 obtain rfl:=Option.some.inj (Tryz.tSpc.symm.trans ht4)
 exact⟨⟨Lf.tab_of_laid hv2 hd2,Lf.names_of_laid hv5 hd5⟩,Mk hv4 hd4⟩
set_option maxRecDepth 100000 in
theorem Zll(os:Os)(started:os.Started)(H:Type)(enc:TypeId×Value→H) :
  ReturnsInHanded {} Tryz.checked os 3 .any (fun w args=>(Rows.chainCoinsSpec.pre enc Tryz.prog Tryz.f3 [] false w args∧laidMetH Tryz.prog Rows.chainCoinsRow.laid w)∧sizedMet enc Tryz.prog Tryz.f3 (OpenSpec.ofChange Rows.chainCoinsSpec) false w args)
   (Rows.chainCoinsSpec.post enc Tryz.prog Tryz.f3 false true false false):=by
 refine Fi (s:=Rows.chainCoinsSpec) (enc:=enc) (X:=fun w=>laidMetH Tryz.prog Rows.chainCoinsRow.laid w) (fun _ _ hh h=>h.of_heap hh) started (by kernel_rfl) Tryz.func3
  (ChangeSpec.witness_shaped (enc:=enc) (C:=Tryz.checked) (os:=os) (X:=fun w _=>laidMetH Tryz.prog Rows.chainCoinsRow.laid w) false (World.doorLaid Tryz.prog 400 os) #[.agg #[.slice none 0 0],.agg #[.slice none 0 0,.slice none 0 0],.int .i64 0,.int .i64 0] 8 rfl (World.shaped_of_RefB (by kernel_rfl) (by kernel_rfl)) (by kernel_rfl) (by kernel_rfl) (by kernel_rfl) (Zhv os _)) ?_
 intro W base args ds gs before hval0 hW hL hsh
 have hval:∀ (j:Nat) t v,Tryz.f3.params[j]? = some t→args[j]? = some v→Value.okWide Tryz.prog W .any base t v:=hval0
 have hW':=hW
 obtain⟨p,q,hA0,hV,rfl,hfz,hnd⟩:=hW
 have hA:DataW.TrodAll enc Tryz.prog W 0 (fun _=>true) true Tryz.f3.params.toList args.toList ds p:=hA0
 rw[Tryz.params3] at hA hval
 obtain⟨v0,vs0,d0,ds0,p0,q0,hargs,rfl,rfl,h0,r0⟩:=trodAll_cons hA
 obtain⟨v1,vs1,d1,ds1,p1,q1,rfl,rfl,rfl,h1,r1⟩:=trodAll_cons r0
 obtain⟨v2,vs2,d2,ds2,p2,q2,rfl,rfl,rfl,h2,r2⟩:=trodAll_cons r1
 obtain⟨v3,vs3,d3,ds3,p3,q3,rfl,rfl,rfl,h3,r3⟩:=trodAll_cons r2
 obtain⟨rfl,rfl,rfl⟩:=trodAll_nil r3
 obtain rfl:args=#[v0,v1,v2,v3]:=by cases args;simp_all
 obtain⟨rfl,rfl⟩:=trodVars_none hV
 obtain⟨cs0,rfl,_⟩:=okWide_struct Tryz.underlying24 (hval 0 24 v0 rfl rfl)
 obtain⟨cs1,rfl,_⟩:=okWide_struct Tryz.underlying28 (hval 1 28 v1 rfl rfl)
 obtain⟨m2,rfl,rfl,rfl,w2⟩:=open_int Tryz.underlying3 (hval 2 3 v2 rfl rfl) h2
 obtain⟨m3,rfl,rfl,rfl,w3⟩:=open_int Tryz.underlying3 (hval 3 3 v3 rfl rfl) h3
 have k0:=h0
 have lt0:∀ x∈p0,x.block<W.heap.size:=by obtain⟨m,hm⟩:=k0;exact DataW.trod_lt m _ _ _ hm
 obtain⟨fu0,hf0⟩:=h0
 obtain⟨ka0,kn0,kc0,K0,hcs0,hK0,sK0⟩:=Bk.book_full hf0
 obtain rfl:cs0=#[.slice ka0 kn0 kc0]:=by
  cases cs0;simpa[Value.cells] using hcs0
 have k1:=h1
 have lt1:∀ x∈p1,x.block<W.heap.size:=by obtain⟨m,hm⟩:=k1;exact DataW.trod_lt m _ _ _ hm
 obtain⟨fu1,hf1⟩:=h1
 obtain⟨ta1,tn1,tc1,tb1,tm1,td1,N1,T1,hcs1,hN1,sN1,hT1,sT1⟩:=Tr.tree_full hf1
 obtain rfl:cs1=#[.slice ta1 tn1 tc1,.slice tb1 tm1 td1]:=by
  cases cs1;simpa[Value.cells] using hcs1
 clear hA0 hval0
 refine (Me ka0 kn0 kc0 K0 ta1 tb1 tn1 tc1 tm1 td1 N1 T1 m2 m3 W (Ch hL) hK0 sK0 hN1 hT1 sN1 sT1).mono fun e W' ⟨he,bel⟩=>?_
 subst he
 exact⟨_,rfl,_,_,_,[],_,[],hW',trodAll_mk1 (shut_bool Tryz.underlying4 _),(trodAll_cons_mk (Below.trod Sm (by kernel_rfl) (of_decide_eq_true (by kernel_rfl)) k0 bel lt0) (trodAll_cons_mk (Below.trod Sm (by kernel_rfl) (of_decide_eq_true (by kernel_rfl)) k1 bel lt1) (trodAll_cons_mk (shut_int Tryz.underlying3 w2) (trodAll_cons_mk (shut_int Tryz.underlying3 w3) trodAll_mk0)))),rfl,bel.frame _,fun h=>by cases h⟩
theorem said:Rows.ChainCoinsSaid:=
 OpenClaim.holds_of_wide 3 Tryz.f3 rfl rfl rfl rfl rfl rfl rfl ⟨rfl,rfl,rfl,rfl,rfl⟩ rfl rfl rfl rfl rfl (by kernel_rfl) Tryz.func3 Zlt
  (of_decide_eq_true (by kernel_rfl)) (by unfold Func.isWrapper;first|(rw[if_pos (by decide +kernel)];kernel_rfl)|(rw[if_neg (by decide +kernel)];exact⟨rfl,rfl⟩))
  (fun os started H enc _=>Zll os started H enc)
#print axioms said
end Go.Proofs.YtpikejjiignchaaGreatDoor.chainCoins
