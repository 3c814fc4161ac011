/- Proved: whatever is handed in, the law BlockConnect returns true and its arguments read behind the call as they did before: the card, its 6 listed variables tied to the program's text; no condition else.
   The frame of the row follows the guide's worked examples. -/
import Derived.Test.YtepmnpapdknocaaGreatDoorBlkConnW
import Derived.Test.YtepmnpapdknocaaGreatDoorCoinFrameToBlkConnC
import Derived.Test.YtepmnpapdknocaaGreatDoorLockPrintToLockNum
import Derived.Test.YtepmnpapdknocaaGreatDoorCards
import Derived.Test.YtepmnpapdknocaaGreatDoorTie
import Derived.SevenTiedAt
import Derived.HandedShaped
import Derived.LaidLaws
namespace Go.Proofs.YtepmnpapdknocaaGreatDoor.blockConnect
open Go.ChangeShapes Go.WideShapes Go.ChangeAt Go.RowKit
set_option maxRecDepth 100000 in
theorem Zec(os:Os)(args:Array Value):laidMetH Tryz.prog Rows.blockConnectRow.laid ((World.doorLaid Tryz.prog 400 os).forCall (fun _ _=>0) ⟨#[],args,[]⟩).memory:=
 laidMetH_of_parts3 (fuel:=8) (Pj 8 257 (by kernel_rfl)) (by kernel_rfl) (by kernel_rfl)
theorem Fs{W:World}(h:laidMetH Tryz.prog Rows.blockConnectRow.laid W):EnvF W:=by
 rw[MakeChecks.laidMetH_plain _ _ _ (by kernel_rfl)] at h
 obtain⟨ps,⟨g0,t0,cs0,f0,p0,q0,hg0,ht0,hv0,hd0,⟨g1,t1,cs1,f1,p1,q1,hg1,ht1,hv1,hd1,⟨g2,t2,cs2,f2,p2,q2,hg2,ht2,hv2,hd2,⟨g3,t3,cs3,f3,p3,q3,hg3,ht3,hv3,hd3,⟨g4,t4,cs4,f4,p4,q4,hg4,ht4,hv4,hd4,⟨g5,t5,cs5,f5,p5,q5,hg5,ht5,hv5,hd5,_,_⟩,_⟩,_⟩,_⟩,_⟩,_⟩,_,_⟩:=h
 obtain rfl:=Option.some.inj (Tryz.gTab.symm.trans hg2)
 obtain rfl:=Option.some.inj (Lf.Tryz.tTab.symm.trans ht2)
 obtain rfl:=Option.some.inj (Tryz.gNam.symm.trans hg5)
 obtain rfl:=Option.some.inj (Lf.Tryz.tNam.symm.trans ht5)
 obtain rfl:=Option.some.inj (Tryz.gSpc.symm.trans hg4)
 obtain rfl:=Option.some.inj (Tryz.tSpc.symm.trans ht4)
 exact⟨⟨Lf.tab_of_laid hv2 hd2,Lf.names_of_laid hv5 hd5⟩,H9 hv4 hd4⟩
set_option maxRecDepth 100000 in
theorem Zhn(os:Os)(started:os.Started)(H:Type)(enc:TypeId×Value→H) :
  ReturnsInHanded {} Tryz.checked os 3 .any (fun w args=>(Rows.blockConnectSpec.pre enc Tryz.prog Tryz.f3 [] false w args∧laidMetH Tryz.prog Rows.blockConnectRow.laid w)∧sizedMet enc Tryz.prog Tryz.f3 (OpenSpec.ofChange Rows.blockConnectSpec) false w args)
   (Rows.blockConnectSpec.post enc Tryz.prog Tryz.f3 false true false false):=by
 refine M7 (s:=Rows.blockConnectSpec) (enc:=enc) (X:=fun w=>laidMetH Tryz.prog Rows.blockConnectRow.laid w) (fun _ _ hh h=>h.of_heap hh) started (by kernel_rfl) Tryz.func3
  (ChangeSpec.witness_shaped (enc:=enc) (C:=Tryz.checked) (os:=os) (X:=fun w _=>laidMetH Tryz.prog Rows.blockConnectRow.laid w) false (World.doorLaid Tryz.prog 400 os) #[.agg #[.slice none 0 0],.slice none 0 0,.agg #[.int .i64 0,.int .i64 0,.int .i64 0,.int .i64 0,.slice none 0 0],.slice none 0 0] 8 rfl (World.shaped_of_RefB (by kernel_rfl) (by kernel_rfl)) (by kernel_rfl) (by kernel_rfl) (by kernel_rfl) (Zec os _)) ?_
 intro W base args ds gs before hval0 hW hL hsh
 have hval:∀ (j:Nat) t v,Tryz.f3.params[j]? = some t→args[j]? = some v→Value.okWide Tryz.prog W .any base t v:=hval0
 have hW':=hW
 obtain⟨p,q,hA0,hV,rfl,hfz,hnd⟩:=hW
 have hA:DataW.TrodAll enc Tryz.prog W 0 (fun _=>true) true Tryz.f3.params.toList args.toList ds p:=hA0
 rw[Tryz.params3] at hA hval
 obtain⟨v0,vs0,d0,ds0,p0,q0,hargs,rfl,rfl,h0,r0⟩:=trodAll_cons hA
 obtain⟨v1,vs1,d1,ds1,p1,q1,rfl,rfl,rfl,h1,r1⟩:=trodAll_cons r0
 obtain⟨v2,vs2,d2,ds2,p2,q2,rfl,rfl,rfl,h2,r2⟩:=trodAll_cons r1
 obtain⟨v3,vs3,d3,ds3,p3,q3,rfl,rfl,rfl,h3,r3⟩:=trodAll_cons r2
 obtain⟨rfl,rfl,rfl⟩:=trodAll_nil r3
 obtain rfl:args=#[v0,v1,v2,v3]:=by cases args;simp_all
 obtain⟨rfl,rfl⟩:=trodVars_none hV
 obtain⟨cs0,rfl,_⟩:=okWide_struct Tryz.underlying24 (hval 0 24 v0 rfl rfl)
 obtain⟨a1,n1,c1,rfl⟩:=okWide_slice Tryz.underlying25 (hval 1 25 v1 rfl rfl)
 obtain⟨cs2,rfl,_⟩:=okWide_struct Tryz.underlying28 (hval 2 28 v2 rfl rfl)
 obtain⟨a3,n3,c3,rfl⟩:=okWide_slice Tryz.underlying29 (hval 3 29 v3 rfl rfl)
 have k0:=h0
 have lt0:∀ x∈p0,x.block<W.heap.size:=by obtain⟨m,hm⟩:=k0;exact DataW.trod_lt m _ _ _ hm
 obtain⟨fu0,hf0⟩:=h0
 obtain⟨ka0,kn0,kc0,K0,hcs0,hK0,sK0⟩:=Bk.book_full hf0
 obtain rfl:cs0=#[.slice ka0 kn0 kc0]:=by
  cases cs0;simpa[Value.cells] using hcs0
 have k1:=h1
 have lt1:∀ x∈p1,x.block<W.heap.size:=by obtain⟨m,hm⟩:=k1;exact DataW.trod_lt m _ _ _ hm
 obtain⟨fu1,hf1⟩:=h1
 obtain⟨e1a,e1n,e1c,C1,hcs1,hC1,sC1⟩:=Hn (v:=.slice a1 n1 c1) (by simpa[Value.cells] using hf1)
 obtain⟨rfl,rfl,rfl⟩:a1=e1a∧n1=e1n∧c1=e1c:=by injection hcs1 with e1 e2 e3;exact⟨e1,e2,e3⟩
 have k2:=h2
 have lt2:∀ x∈p2,x.block<W.heap.size:=by obtain⟨m,hm⟩:=k2;exact DataW.trod_lt m _ _ _ hm
 obtain⟨fu2,hf2⟩:=h2
 obtain⟨bp2,bh2,bk2,bn2,ba2,bm2,bc2,T2,hcs2,hT2,sT2⟩:=Zek hf2
 obtain rfl:cs2=#[.int .i64 bp2,.int .i64 bh2,.int .i64 bk2,.int .i64 bn2,.slice ba2 bm2 bc2]:=by
  cases cs2;simpa[Value.cells] using hcs2
 have k3:=h3
 have lt3:∀ x∈p3,x.block<W.heap.size:=by obtain⟨m,hm⟩:=k3;exact DataW.trod_lt m _ _ _ hm
 obtain⟨fu3,hf3⟩:=h3
 obtain⟨e1a,e1n,e1c,S3,hcs3,hU3,sU3⟩:=Af (v:=.slice a3 n3 c3) (by simpa[Value.cells] using hf3)
 obtain⟨rfl,rfl,rfl⟩:a3=e1a∧n3=e1n∧c3=e1c:=by injection hcs3 with e1 e2 e3;exact⟨e1,e2,e3⟩
 clear hA0 hval0
 refine (Fc ka0 kn0 kc0 K0 a1 n1 c1 C1 bp2 bh2 bk2 bn2 ba2 bm2 bc2 T2 a3 n3 c3 S3 W (Fs hL) hK0 sK0 hC1 sC1 hT2 sT2 hU3).mono fun e W' ⟨he,bel⟩=>?_
 subst he
 exact⟨_,rfl,_,_,_,[],_,[],hW',trodAll_mk1 (shut_bool Tryz.underlying4 _),(trodAll_cons_mk (Below.trod laidOut (by kernel_rfl) (of_decide_eq_true (by kernel_rfl)) k0 bel lt0) (trodAll_cons_mk (Below.trod laidOut (by kernel_rfl) (of_decide_eq_true (by kernel_rfl)) k1 bel lt1) (trodAll_cons_mk (Below.trod laidOut (by kernel_rfl) (of_decide_eq_true (by kernel_rfl)) k2 bel lt2) (trodAll_cons_mk (Below.trod laidOut (by kernel_rfl) (of_decide_eq_true (by kernel_rfl)) k3 bel lt3) trodAll_mk0)))),rfl,bel.frame _,fun h=>by cases h⟩
theorem said:Rows.BlockConnectSaid:=
 OpenClaim.holds_of_wide 3 Tryz.f3 rfl rfl rfl rfl rfl rfl rfl ⟨rfl,rfl,rfl,rfl,rfl⟩ rfl rfl rfl rfl rfl (by kernel_rfl) Tryz.func3 Zhu
  (of_decide_eq_true (by kernel_rfl)) (by unfold Func.isWrapper;first|(rw[if_pos (by decide +kernel)];kernel_rfl)|(rw[if_neg (by decide +kernel)];exact⟨rfl,rfl⟩))
  (fun os started H enc _=>Zhn os started H enc)
#print axioms said
theorem card:Rows.BlockConnectCardSaid:=
 Claim7.holds_tied_plain_at .later [] [.data,.data,.data,.listed,.data,.data] true Rows.blockConnectCard.stood.harness Rows.blockConnectCard.stood.looks
  said (fun _ h=>by cases h) (by kernel_rfl) (fun _ h=>by cases h) blockConnect_row_tie rfl ⟨rfl,rfl⟩ (by kernel_rfl) rfl
  (fun f fn hf hfn=>by
   obtain rfl:f=3:=Option.some.inj ((show Tryz.prog.funcNamed "cairn/cairnlaw.BlockConnect" = some 3 by kernel_rfl).symm.trans hf) |>.symm
   obtain rfl:fn=Tryz.f3:=(Option.some.inj (Tryz.func3.symm.trans hfn)).symm
   exact⟨by kernel_rfl,fun j t ht=>by
    rw[Tryz.params3] at ht
    have hm:t∈[24,25,28,29]:=by simpa using Array.mem_of_getElem? ht
    have hall:([24,25,28,29].all fun u=>!Tryz.prog.wantsStandIn u)=true:=by kernel_rfl
    exact (show Tryz.prog.wantsStandIn t=false by simpa using List.all_eq_true.1 hall t hm)⟩)
  (by kernel_rfl)
#print axioms card
end Go.Proofs.YtepmnpapdknocaaGreatDoor.blockConnect
namespace Go.Proofs.YtepmnpapdknocaaGreatDoor
theorem blockConnect_holds:Rows.BlockConnectCardSaid:=blockConnect.card
end Go.Proofs.YtepmnpapdknocaaGreatDoor
