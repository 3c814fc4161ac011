import Derived.Test.YtbddijbmepdliaaGreatDoorG14
import Derived.Test.YtbddijbmepdliaaGreatDoorG15
open Go.Proofs.Tryz renaming prog->aB
open Go.Value renaming slice->F
namespace Go.Proofs.YtbddijbmepdliaaGreatDoor.nodeTake
open Go.ChangeShapes Go.WideShapes Go.ChangeAt Go.RowKit
set_option maxRecDepth 100000 in
theorem Zmz(os:Os)(args):laidMetH aB Rows.nodeTakeRow.laid ((World.doorLaid aB 400 os).forCall (λ_ _=>0) ⟨#[],args,[]⟩).memory:=
 laidMetH_of_parts3 (fuel:=8) (H8 8 257 (by kernel_rfl)) (by kernel_rfl) (by kernel_rfl)
theorem Zal{W}(h:laidMetH aB Rows.nodeTakeRow.laid W):EnvF W:=by
 rw[MakeChecks.laidMetH_plain _ _ _ (by kernel_rfl)] at h;obtain⟨ps,⟨g0,t0,an,f0,p0,q0,bj,br,bv,bh,⟨g1,t1,ap,f1,p1,q1,bo,bs,bw,hd1,⟨g2,t2,aq,f2,p2,q2,ad,ag,ak,aa,⟨g3,t3,ar,f3,p3,q3,bq,bu,bx,bi,⟨g4,t4,au,f4,p4,q4,ae,ah,al,ab,⟨g5,t5,av,f5,p5,q5,af,aj,am,ac,_,_⟩,_⟩,_⟩,_⟩,_⟩,_⟩,_,_⟩:=h;obtain rfl:=Option.some.inj (Tryz.gTab.symm.trans ad);obtain rfl:=Option.some.inj (Lf.Tryz.tTab.symm.trans ag);obtain rfl:=Option.some.inj (Tryz.gNam.symm.trans af);obtain rfl:=Option.some.inj (Lf.Tryz.tNam.symm.trans aj);obtain rfl:=Option.some.inj (Tryz.gSpc.symm.trans ae);obtain rfl:=Option.some.inj (Tryz.tSpc.symm.trans ah);exact⟨⟨Lf.tab_of_laid ak aa,Lf.names_of_laid am ac⟩,Nv al ab⟩
set_option maxRecDepth 100000 in
theorem Zsq(os:Os)(du:os.Started)(H:Type)(enc:TypeId×Value->H) :
  ReturnsInHanded {} Tryz.checked os 3 .any (λw args=>(Rows.nodeTakeSpec.pre enc aB Tryz.f3 [] false w args/\laidMetH aB Rows.nodeTakeRow.laid w)/\sizedMet enc aB Tryz.f3 (OpenSpec.ofChange Rows.nodeTakeSpec) false w args)
   (Rows.nodeTakeSpec.post enc aB Tryz.f3 false true false false):=by
 refine Ax (s:=Rows.nodeTakeSpec) (enc:=enc) (X:=λw=>laidMetH aB Rows.nodeTakeRow.laid w) (λ_ _ hh h=>h.of_heap hh) du (by kernel_rfl) Tryz.func3
  (ChangeSpec.witness_shaped (enc:=enc) (C:=Tryz.checked) (os:=os) (X:=λw _=>laidMetH aB Rows.nodeTakeRow.laid w) false (World.doorLaid aB 400 os) #[.agg #[F none 0 0],.agg #[F none 0 0,F none 0 0,F none 0 0,.int .i64 0],.agg #[.int .i64 0,.int .i64 0,.int .i64 0,.int .i64 0,F none 0 0]] 8 rfl (World.shaped_of_RefB (by kernel_rfl) (by kernel_rfl)) (by kernel_rfl) (by kernel_rfl) (by kernel_rfl) (Zmz os _)) ?_
 intro W base args en gs dv dc hW hL db;have ab:∀ (j:Nat) t v,Tryz.f3.params[j]? = some t->args[j]? = some v->Value.okWide aB W .any base t v:=dc;have cf:=hW;obtain⟨p,q,hA0,hV,rfl,ee,ef⟩:=hW;have hA:DataW.TrodAll enc aB W 0 (λ_=>true) true Tryz.f3.params.toList args.toList en p:=hA0;have aw:(DataW.weightsEach aB (Tryz.f3.params.toList++Rows.nodeTakeSpec.plain.varTypes aB) (en++gs)).all (·<=reachBytes)=true:=db;rw[Tryz.params3] at hA ab aw;obtain⟨v0,ej,d0,dx,p0,q0,ed,rfl,rfl,h0,r0⟩:=trodAll_cons hA;obtain⟨v1,ek,d1,dy,p1,q1,rfl,rfl,rfl,h1,r1⟩:=trodAll_cons r0;obtain⟨v2,el,d2,dz,p2,q2,rfl,rfl,rfl,h2,r2⟩:=trodAll_cons r1;obtain⟨rfl,rfl,rfl⟩:=trodAll_nil r2;obtain rfl:args=#[v0,v1,v2]:=by cases args;simp_all
 obtain⟨rfl,rfl⟩:=trodVars_none hV;obtain⟨an,rfl,_⟩:=okWide_struct Tryz.underlying24 (ab 0 24 v0 rfl rfl);obtain⟨ap,rfl,_⟩:=okWide_struct Tryz.underlying31 (ab 1 31 v1 rfl rfl);obtain⟨aq,rfl,_⟩:=okWide_struct Tryz.underlying33 (ab 2 33 v2 rfl rfl);have k0:=h0;have de:∀ x∈p0,x.block<W.heap.size:=by obtain⟨m,hm⟩:=k0;exact DataW.trod_lt m _ _ _ hm
 obtain⟨ea,cn⟩:=h0;obtain⟨bd,bf,be,K0,cg,bx,dp⟩:=Bk.book_full cn
 obtain rfl:an=#[F bd bf be]:=by
  cases an;simpa[Value.cells] using cg
 have k1:=h1;have df:∀ x∈p1,x.block<W.heap.size:=by obtain⟨m,hm⟩:=k1;exact DataW.trod_lt m _ _ _ hm
 obtain⟨eb,cp⟩:=h1
 have ct:Fits 31 d1:=λz hz=>by
  have:=List.all_eq_true.1 aw _ (DataW.weights_mem_each (j:=1) (t:=31) (d:=d1) rfl rfl z hz);simpa using this
 obtain⟨bg,bi,bh,ac,ak,ae,bj,bq,bo,br,N1,T1,P1,cj,ca,dq,cc,ds,cb,dr,cx,cw,cy,da,cz⟩:=Zcr cp ct
 obtain rfl:ap=#[F bg bi bh,F ac ak ae,F bj bq bo,.int .i64 br]:=by
  cases ap;simpa[Value.cells] using cj
 have k2:=h2;have dg:∀ x∈p2,x.block<W.heap.size:=by obtain⟨m,hm⟩:=k2;exact DataW.trod_lt m _ _ _ hm
 obtain⟨ec,cq⟩:=h2;obtain⟨am,ag,ah,al,ad,aj,af,T2,cl,cd,dt⟩:=Znr cq
 obtain rfl:aq=#[.int .i64 am,.int .i64 ag,.int .i64 ah,.int .i64 al,F ad aj af]:=by
  cases aq;simpa[Value.cells] using cl
 refine (Am bd bf be K0 bg ac bj bi bh ak ae bq bo N1 T1 P1 br am ag ah al ad aj af T2 W (Zal hL) bx dp ca cc cb dq ds dr cx cw cy da cz cd dt).mono λe W' ⟨he,bel⟩=>?_;subst he;exact⟨_,rfl,_,_,_,[],_,[],cf,trodAll_mk1 (shut_bool Tryz.underlying4 _),(trodAll_cons_mk (Below.trod Rv (by kernel_rfl) (of_decide_eq_true (by kernel_rfl)) k0 bel de) (trodAll_cons_mk (Below.trod Rv (by kernel_rfl) (of_decide_eq_true (by kernel_rfl)) k1 bel df) (trodAll_cons_mk (Below.trod Rv (by kernel_rfl) (of_decide_eq_true (by kernel_rfl)) k2 bel dg) trodAll_mk0))),rfl,bel.frame _,λh=>by cases h⟩
theorem said:Rows.NodeTakeSaid:=
 OpenClaim.holds_of_wide 3 Tryz.f3 rfl rfl rfl rfl rfl rfl rfl ⟨rfl,rfl,rfl,rfl,rfl⟩ rfl rfl rfl rfl rfl (by kernel_rfl) Tryz.func3 Ztf
  (of_decide_eq_true (by kernel_rfl)) (by unfold Func.isWrapper;first|(rw[if_pos (by decide +kernel)];kernel_rfl)|(rw[if_neg (by decide +kernel)];exact⟨rfl,rfl⟩))
  (λos aa H enc _=>Zsq os aa H enc)
#print axioms said
