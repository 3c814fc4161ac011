import Derived.Test.YtpikejjiignchaaGreatDoorG48
import Derived.Test.YtpikejjiignchaaGreatDoorG49
open Go.Proofs.Tryz renaming prog->aB,underlying3->aG
open Go.Value renaming slice->F
namespace Go.Proofs.YtpikejjiignchaaGreatDoor.chainMove
open Go.ChangeShapes Go.WideShapes Go.ChangeAt Go.RowKit
set_option maxRecDepth 100000 in
theorem Zmq(os:Os)(args):laidMetH aB Rows.chainMoveRow.laid ((World.doorLaid aB 400 os).forCall (λ_ _=>0) ⟨#[],args,[]⟩).memory:=
 laidMetH_of_parts3 (fuel:=8) (Lu 8 257 (by kernel_rfl)) (by kernel_rfl) (by kernel_rfl)
theorem Zbv{W}(h:laidMetH aB Rows.chainMoveRow.laid W):EnvF W:=by
 rw[MakeChecks.laidMetH_plain _ _ _ (by kernel_rfl)] at h;obtain⟨ps,⟨g0,t0,ak,f0,p0,q0,bc,bf,bi,ba,⟨g1,t1,al,f1,p1,q1,bd,bg,bj,hd1,⟨g2,t2,am,f2,p2,q2,ab,ae,ah,z,⟨g3,t3,an,f3,p3,q3,be,bh,bk,bb,⟨g4,t4,ao,f4,p4,q4,ac,af,ai,O,⟨g5,t5,ap,f5,p5,q5,ad,ag,aj,aa,_,_⟩,_⟩,_⟩,_⟩,_⟩,_⟩,_,_⟩:=h;obtain rfl:=Option.some.inj (Tryz.gTab.symm.trans ab);obtain rfl:=Option.some.inj (Lf.Tryz.tTab.symm.trans ae);obtain rfl:=Option.some.inj (Tryz.gNam.symm.trans ad);obtain rfl:=Option.some.inj (Lf.Tryz.tNam.symm.trans ag);obtain rfl:=Option.some.inj (Tryz.gSpc.symm.trans ac);obtain rfl:=Option.some.inj (Tryz.tSpc.symm.trans af);exact⟨⟨Lf.tab_of_laid ah z,Lf.names_of_laid aj aa⟩,Fc ai O⟩
set_option maxRecDepth 100000 in
theorem Zqs(os:Os)(db:os.Started)(H:Type)(enc:TypeId×Value->H) :
  ReturnsInHanded {} Tryz.checked os 4 .any (λw args=>(Rows.chainMoveSpec.pre enc aB Tryz.f4 [] false w args/\laidMetH aB Rows.chainMoveRow.laid w)/\sizedMet enc aB Tryz.f4 (OpenSpec.ofChange Rows.chainMoveSpec) false w args)
   (Rows.chainMoveSpec.post enc aB Tryz.f4 false true false false):=by
 refine Cj (s:=Rows.chainMoveSpec) (enc:=enc) (X:=λw=>laidMetH aB Rows.chainMoveRow.laid w) (λ_ _ hh h=>h.of_heap hh) db (by kernel_rfl) Tryz.func4
  (ChangeSpec.witness_shaped (enc:=enc) (C:=Tryz.checked) (os:=os) (X:=λw _=>laidMetH aB Rows.chainMoveRow.laid w) false (World.doorLaid aB 400 os) #[.agg #[F none 0 0],.agg #[F none 0 0,F none 0 0],F none 0 0,.int .i64 0,.int .i64 0] 8 rfl (World.shaped_of_RefB (by kernel_rfl) (by kernel_rfl)) (by kernel_rfl) (by kernel_rfl) (by kernel_rfl) (Zmq os _)) ?_
 intro W base args eg gs de aj hW hL cd;have z:∀ (j:Nat) t v,Tryz.f4.params[j]? = some t->args[j]? = some v->Value.okWide aB W .any base t v:=aj;have bs:=hW;obtain⟨p,q,hA0,hV,rfl,ds,dt⟩:=hW;have hA:DataW.TrodAll enc aB W 0 (λ_=>true) true Tryz.f4.params.toList args.toList eg p:=hA0;have ai:(DataW.weightsEach aB (Tryz.f4.params.toList++Rows.chainMoveSpec.plain.varTypes aB) (eg++gs)).all (·<=reachBytes)=true:=cd;rw[Tryz.params4] at hA z ai;obtain⟨v0,eb,d0,dh,p0,q0,dr,rfl,rfl,h0,r0⟩:=trodAll_cons hA;obtain⟨v1,ec,d1,di,p1,q1,rfl,rfl,rfl,h1,r1⟩:=trodAll_cons r0;obtain⟨v2,ed,d2,dj,p2,q2,rfl,rfl,rfl,h2,r2⟩:=trodAll_cons r1;obtain⟨v3,ee,d3,dl,p3,q3,rfl,rfl,rfl,h3,r3⟩:=trodAll_cons r2;obtain⟨v4,ef,d4,dm,p4,q4,rfl,rfl,rfl,h4,r4⟩:=trodAll_cons r3;obtain⟨rfl,rfl,rfl⟩:=trodAll_nil r4;obtain rfl:args=#[v0,v1,v2,v3,v4]:=by cases args;simp_all
 obtain⟨rfl,rfl⟩:=trodVars_none hV;obtain⟨ad,rfl,_⟩:=okWide_struct Tryz.underlying24 (z 0 24 v0 rfl rfl);obtain⟨ae,rfl,_⟩:=okWide_struct Tryz.underlying28 (z 1 28 v1 rfl rfl);obtain⟨a2,n2,c2,rfl⟩:=okWide_slice Tryz.underlying29 (z 2 29 v2 rfl rfl);obtain⟨m3,rfl,rfl,rfl,w3⟩:=open_int aG (z 3 3 v3 rfl rfl) h3;obtain⟨m4,rfl,rfl,rfl,w4⟩:=open_int aG (z 4 3 v4 rfl rfl) h4;have k0:=h0;have cf:∀ x∈p0,x.block<W.heap.size:=by obtain⟨m,O⟩:=k0;exact DataW.trod_lt m _ _ _ O
 obtain⟨dn,bx⟩:=h0;obtain⟨an,ap,ao,K0,bt,bk,cy⟩:=Bk.book_full bx
 obtain rfl:ad=#[F an ap ao]:=by
  cases ad;simpa[Value.cells] using bt
 have k1:=h1;have cg:∀ x∈p1,x.block<W.heap.size:=by obtain⟨m,O⟩:=k1;exact DataW.trod_lt m _ _ _ O
 obtain⟨dp,bz⟩:=h1;obtain⟨aq,ax,au,ar,aw,av,N1,T1,bu,bo,cz,bq,da⟩:=Tr.tree_full bz
 obtain rfl:ae=#[F aq ax au,F ar aw av]:=by
  cases ae;simpa[Value.cells] using bu
 have k2:=h2;have ci:∀ x∈p2,x.block<W.heap.size:=by obtain⟨m,O⟩:=k2;exact DataW.trod_lt m _ _ _ O
 obtain⟨dq,ca⟩:=h2
 have cb:Fits 29 d2:=λeh hz=>by
  have:=List.all_eq_true.1 ai _ (DataW.weights_mem_each (j:=2) (t:=29) (d:=d2) rfl rfl eh hz);simpa using this
 obtain⟨bd,bf,be,C2,bv,bj,cx,cj,co⟩:=Zel (v:=F a2 n2 c2) (by simpa[Value.cells] using ca) cb;obtain⟨rfl,rfl,rfl⟩:a2=bd/\n2=bf/\c2=be:=by injection bv with e1 e2 e3;exact⟨e1,e2,e3⟩
 clear hA0 aj;refine (Fs an ap ao K0 aq ar ax au aw av N1 T1 a2 n2 c2 C2 m3 m4 W (Zbv hL) bk cy bo bq cz da bj cx cj co).mono λe W' ⟨he,bel⟩=>?_;subst he;exact⟨_,rfl,_,_,_,[],_,[],bs,trodAll_mk1 (shut_bool Tryz.underlying4 _),(trodAll_cons_mk (Below.trod Sd (by kernel_rfl) (of_decide_eq_true (by kernel_rfl)) k0 bel cf) (trodAll_cons_mk (Below.trod Sd (by kernel_rfl) (of_decide_eq_true (by kernel_rfl)) k1 bel cg) (trodAll_cons_mk (Below.trod Sd (by kernel_rfl) (of_decide_eq_true (by kernel_rfl)) k2 bel ci) (trodAll_cons_mk (shut_int aG w3) (trodAll_cons_mk (shut_int aG w4) trodAll_mk0))))),rfl,bel.frame _,λh=>by cases h⟩
theorem said:Rows.ChainMoveSaid:=
 OpenClaim.holds_of_wide 4 Tryz.f4 rfl rfl rfl rfl rfl rfl rfl ⟨rfl,rfl,rfl,rfl,rfl⟩ rfl rfl rfl rfl rfl (by kernel_rfl) Tryz.func4 Zre
  (of_decide_eq_true (by kernel_rfl)) (by unfold Func.isWrapper;first|(rw[if_pos (by decide +kernel)];kernel_rfl)|(rw[if_neg (by decide +kernel)];exact⟨rfl,rfl⟩))
  (λos z H enc _=>Zqs os z H enc)
#print axioms said
