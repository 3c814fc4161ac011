import Derived.Test.YtpikejjiignchaaGreatDoorH
import Derived.Test.YtpikejjiignchaaGreatDoorG43
open Go.Proofs.Tryz
open Go renaming heap_alloc_new->aK,TypeId->bO,lt_of_block->aA,wpAnyH_ready->bJ,setRow_other->cT,bodyPost_ret->aR
open Go.Ending renaming returned->dX
open Go.IntKind renaming i64->J
open Go.Obj renaming cells->dW
open Go.Proofs.Tryz renaming underlying76->bY,prog->aB
open Go.Value renaming int->E,slice->F,tuple->dY,pointer->dZ,bool->eA
open List renaming take_of_length_le->aY,length_take->bG,take_succ_eq_append_getElem->aM,replicate->aF,nil_append->dL,cons_append->cG
open Nat renaming le_refl->aE,zero_le->aP
set_option maxHeartbeats 3200000
namespace Go.Proofs.YtpikejjiignchaaGreatDoor
open Go.RowKit
theorem Zfi{W:World}{g:Nat}{L:List Value}(h:W.heap[g]? = some (dW L.toArray 76 (0,0)))(j:Nat)(u):(W.setCell ⟨g,j,none⟩ u).heap[g]? = some (dW (L.set j u).toArray 76 (0,0)):=Mh h j u
def Jm(A B:List Int)(j:Nat):List Int:=X3 (A.take j) (B.take j)++A.drop j
theorem Ae(A B):Jm A B 0=A:=by simp[Jm,X3]
theorem Uy{A B:List Int}(h:A.length=B.length):(X3 A B).length=A.length:=by simp[X3,h]
theorem Zbe{A B:List Int}(h:A.length=B.length)(j:Nat)(z:A.length<=j):Jm A B j=X3 A B:=by
 unfold Jm;rw[aY z,aY (by omega),List.drop_of_length_le z,List.append_nil]
theorem Zln{A B:List Int}(h:A.length=B.length)(j:Nat):(Jm A B j).length=A.length:=by
 unfold Jm;rw[List.length_append,Uy (by simp[h]),bG,List.length_drop];omega
theorem Bw{A B:List Int}(h:A.length=B.length){j:Nat}(z:j<A.length):(Jm A B j)[j]? = some A[j]:=by
 unfold Jm;rw[List.getElem?_append_right (by rw[Uy (by simp[h]),bG];omega),Uy (by simp[h]),bG,List.getElem?_drop];rw[show j+(j - min j A.length)=j by omega,List.getElem?_eq_getElem z]
theorem Hk{A B:List Int}(h:A.length=B.length){j:Nat}(O:j<A.length):Jm A B (j+1)=(Jm A B j).set j (if A[j]=B[j]'(by omega) then 0 else A[j]):=by
 have hB:j<B.length:=by omega
 have z:(X3 (A.take j) (B.take j)).length=j:=by rw[Uy (by simp[h]),bG];omega
 unfold Jm;rw[List.set_append_right _ _ (by rw[z];exact aE _),z,Nat.sub_self,List.drop_eq_getElem_cons O,List.set_cons_zero]
 have e:X3 (A.take (j+1)) (B.take (j+1))=X3 (A.take j) (B.take j)++[if A[j]=B[j] then 0 else A[j]]:=by
  unfold X3;rw[aM O,aM hB,List.zipWith_append (by simp;omega)];rfl
 rw[e,List.append_assoc];rfl
theorem Af{A B:List Int}(h:A.length=B.length){j:Nat}(z:j<A.length)(e:A[j]≠B[j]'(by omega)):Jm A B (j+1)=Jm A B j:=by
 rw[Hk h z,if_neg e]
 exact List.ext_getElem? λi=>by
  by_cases q:j=i
  ·subst q;rw[List.getElem?_set_self (by rw[Zln h];exact z),Bw h z]
  ·rw[List.getElem?_set_ne q]
theorem Zae(R:List Int)(j:Nat)(x:Int):Zl (R.set j x)=(Zl R).set j (E J x):=by unfold Zl;rw[List.map_set]
theorem Zfj{R}{j:Nat}{x:Int}(h:R[j]? = some x):(Zl R)[j]? = some (E J x):=by unfold Zl;rw[List.getElem?_map,h];rfl
theorem Zdx(w:World)(z O o3 o4:Obj)(X:World)(hX:X=(((w.alloc z).alloc O).alloc o3).alloc o4) :
  ZD w X/\X.heap.size=w.heap.size+4/\X.heap[w.heap.size]? = some z/\X.heap[w.heap.size+1]? = some O/\X.heap[w.heap.size+2]? = some o3/\X.heap[w.heap.size+3]? = some o4:=by
 have b1:=Zg w z;have b2:=Zg (w.alloc z) O;have b3:=Zg ((w.alloc z).alloc O) o3;have b4:=Zg (((w.alloc z).alloc O).alloc o3) o4;have h1:=aK w z;have h2:=aK (w.alloc z) O;have h3:=aK ((w.alloc z).alloc O) o3;have h4:=aK (((w.alloc z).alloc O).alloc o3) o4;have k2:=Ze b3 b4;have k1:=Ze b2 k2;have g1:=ZE k1 h1;have g2:=ZE k2 h2;have g3:=ZE b4 h3;simp only[World.size_alloc] at g2 g3 h4;subst hX;exact⟨Ze b1 k1,by simp[World.size_alloc],g1,g2,g3,h4⟩
theorem Zdh{fn:Func}{p q:Tmp}{ty tz:bO}(h:fn.results=#[.cell p ty,.cell q tz])(tmps:Array Value)(P:Program)(w){a b x y}(z:(asAddr (tmps.getD p undef)).run P w = .ok a w)(O:(asAddr (tmps.getD q undef)).run P w = .ok b w)(hx:(loadVar ty a).run P w = .ok x w)(hy:(loadVar tz b).run P w = .ok y w) :
  (results fn tmps).run P w = .ok (dY #[x,y]) w:=by
 simp only[Array.getD_eq_getD_getElem?] at z O;simp only[results,h];simp[Sem.run_bind,Result.andThen,z,O,hx,hy]
set_option maxRecDepth 10000 in
theorem Znj(A B:List Int)(w:World)(hA:A.length=24)(hB:B.length=24) :
  ZH 45 #[.agg (Zl A).toArray,.agg (Zl B).toArray] w (dY #[.agg (Zl (X3 A B)).toArray,.agg (Zl (X3 B A)).toArray]):=by
 obtain⟨X,hX⟩:=ZG ((((w.alloc (dW (Zl A).toArray 76)).alloc (dW (Zl B).toArray 76)).alloc (dW #[E J 0,E J 0,E J 0,E J 0,E J 0,E J 0,E J 0,E J 0,E J 0,E J 0,E J 0,E J 0,E J 0,E J 0,E J 0,E J 0,E J 0,E J 0,E J 0,E J 0,E J 0,E J 0,E J 0,E J 0] 76)).alloc (dW #[E J 0,E J 0,E J 0,E J 0,E J 0,E J 0,E J 0,E J 0,E J 0,E J 0,E J 0,E J 0,E J 0,E J 0,E J 0,E J 0,E J 0,E J 0,E J 0,E J 0,E J 0,E J 0,E J 0,E J 0] 76));obtain⟨bx,bw,bu,bv,az,ba⟩:=Zdx _ _ _ _ _ X hX;rw[Ql] at az ba;have cd:=Zb bx;have cg:=Zb az;have ci:=Zb ba;have cj:=Zb bw;have HA:=Zb hA;have HB:=Zb hB;have H0:Hid (X.heap[w.heap.size]? = some (dW (Zl (Jm A B 0)).toArray 76 (0,0))):=by show _=_;rw[Ae];exact bu
 have H1:Hid (X.heap[w.heap.size+1]? = some (dW (Zl (Jm B A 0)).toArray 76 (0,0))):=by show _=_;rw[Ae];exact bv
 clear bx bw bu bv az ba hA hB;go_enter func45,ntmps45;go_wp2_with fail;rw[<-hX];clear hX
 go_loopw [7] (λi wr=>∃ (j:Nat),j<=24/\i = E J j/\Hid (wr.heap[w.heap.size]? = some (dW (Zl (Jm A B j)).toArray 76 (0,0)))/\Hid (wr.heap[w.heap.size+1]? = some (dW (Zl (Jm B A j)).toArray 76 (0,0)))/\Hid (Gr X wr (λq=>q=w.heap.size\/q=w.heap.size+1))) (λi _=>24 - (intOf i).toNat)
 case atStart=>exact⟨0,aP _,rfl,H0,H1,Gr.refl _ _⟩
 case round=>
  obtain⟨j,hj,rfl,z,O,HG⟩:=hrel;clear H0 H1;have am:=Za HA;have an:=Za HB;have hl:A.length=B.length:=by omega
  have ae:B.length=A.length:=by omega
  by_cases cu:j<24
  ·have bb:j<A.length:=(by omega);have bc:j<B.length:=(by omega);have c0:=Zd z j _ (Zfj (Bw hl bb));have c1:=Zd O j _ (Zfj (Bw ae bc));have f0:=Zi z j;have f1:=Zi O j;have l0:=aA z;have l1:=aA O;have ct:(j:Int)<24:=(by omega);obtain⟨x,hx⟩:=ZF (A[j]);obtain⟨y,hy⟩:=ZF (B[j]);rw[hx] at c0;rw[hy] at c1;have ak:=Zb hx;have al:=Zb hy;have HL:=Zb hl;have bk:=Zb ae;clear hx hy hl ae am an;by_cases aq:x=y
   ·subst aq
    have au:Hid (((wr.drew.setCell ⟨w.heap.size,j,none⟩ (E J 0)).setCell ⟨w.heap.size+1,j,none⟩ (E J 0)).heap[w.heap.size]? = some (dW (Zl (Jm A B (j+1))).toArray 76 (0,0))):=by
     show _=_;rw[Below.heap_setCell _ _ _ _ (by simp),Hk (Za HL) bb,if_pos ((Za ak).trans (Za al).symm),Zae];exact Zfi z j _
    have av:Hid (((wr.drew.setCell ⟨w.heap.size,j,none⟩ (E J 0)).setCell ⟨w.heap.size+1,j,none⟩ (E J 0)).heap[w.heap.size+1]? = some (dW (Zl (Jm B A (j+1))).toArray 76 (0,0))):=by
     show _=_;rw[Hk (Za bk) bc,if_pos ((Za al).trans (Za ak).symm),Zae];exact Zfi ((Below.heap_setCell _ _ _ _ (by simp)).trans O) j _
    have HN:Hid (Gr X ((wr.drew.setCell ⟨w.heap.size,j,none⟩ (E J 0)).setCell ⟨w.heap.size+1,j,none⟩ (E J 0)) (λq=>q=w.heap.size\/q=w.heap.size+1)):=(HG.draw.one w.heap.size j (.inl (.inl rfl)) _).one (w.heap.size+1) j (.inl (.inr rfl)) _;go_wp2_with fail
    go_region
    all_goals
     go_wp2;go_roundw
     case rel=>exact⟨j+1,by omega,by go_num,au,av,HN⟩
     case measure=>simp[intOf];omega
   ·have au:Hid (wr.drew.heap[w.heap.size]? = some (dW (Zl (Jm A B (j+1))).toArray 76 (0,0))):=(by show _=_;rw[Af (Za HL) bb (by rw[Za ak,Za al];exact aq)];exact Za z);have av:Hid (wr.drew.heap[w.heap.size+1]? = some (dW (Zl (Jm B A (j+1))).toArray 76 (0,0))):=(by show _=_;rw[Af (Za bk) bc (by rw[Za ak,Za al];exact λq=>aq q.symm)];exact Za O);have HN:=Zb HG.draw;have gb:(x == y)=false:=(by simp[aq]);go_wp2_with fail
    go_region
    all_goals
     go_wp2;go_roundw
     case rel=>exact⟨j+1,by omega,by go_num,au,av,HN⟩
     case measure=>simp[intOf];omega
  ·obtain rfl:j=24:=(by omega);have e0:=Zbe hl 24 (by omega);have e1:=Zbe ae 24 (by omega);rw[e0] at z;rw[e1] at O;have ao:(Tryz.prog.info? 76).map (·.size)=some (Zl (X3 A B)).toArray.size:=Xm (by rw[Uy hl];exact am);have ap:(Tryz.prog.info? 76).map (·.size)=some (Zl (X3 B A)).toArray.size:=Xm (by rw[Uy ae];exact an);have s0:((Zl (aF 24 0)).toArray:Array Value).size=(Zl (X3 A B)).toArray.size:=(by simp[Zl,Uy hl,am]);have s1:((Zl (aF 24 0)).toArray:Array Value).size=(Zl (X3 B A)).toArray.size:=(by simp[Zl,Uy ae,an]);have o0:=Uw (X3 A B);have o1:=Uw (X3 B A);have H2:=Zb (HG.heap cg (by omega));have H3:=Zb (HG.heap ci (by omega));have ag:=Zb (HG.below cd (by have:=Za cj;omega) (λq e=>by omega));obtain⟨P0,bs⟩:=ZF ((Zl (X3 A B)).toArray);obtain⟨P1,bt⟩:=ZF ((Zl (X3 B A)).toArray);rw[bs] at ao s0 o0 z;rw[bt] at ap s1 o1 O;have ce:=Zb s0;have cf:=Zb s1;clear e0 e1 am an hl ae s0 s1;go_wp2_with fail;refine wp_region_held_drew (S:=λV=>V.heap[w.heap.size]? = some (dW P0 76 (0,0))/\V.heap[w.heap.size+1]? = some (dW P1 76 (0,0))/\(V.heap[w.heap.size+2]? = some (dW P0 76 (0,0))\/V.heap[w.heap.size+2]? = some (dW (Zl (aF 24 0)).toArray 76 (0,0)))) (by kernel_rfl) ⟨Za z,Za O,.inr H2⟩ (λac=>?_);refine tk 0 ⟨some 22,.load 76 (.tmp 2),76, "move.go:43",#[],none⟩ (.agg P0) rfl ?_ ac ?_
   ·(intro V ax;exact Uz 76 _ rfl w.heap.size rfl P0 76 ax.1 _ _ bY ao)
   (try simp only[Act.put,ZA,ZB,ZC]);refine tk 1 ⟨some 23,.load 76 (.tmp 3),76, "move.go:43",#[⟨2,.gcOnly .lateStores⟩],none⟩ (.agg P1) rfl ?_ ac ?_
   ·(intro V ax;exact Uz 76 _ rfl (w.heap.size+1) rfl P1 76 ax.2.1 _ _ bY ap)
   (try simp only[Act.put,ZA,ZB,ZC]);refine bJ (rs:=[2]) (by kernel_rfl) (by simp) ?_;refine AllReadyH.cons (o:=⟨none,.store 76 (.tmp 4) (.tmp 22),0, "move.go:43",#[⟨0,.data⟩,⟨0,.phase⟩,⟨1,.textOnly .lateStores⟩],none⟩) rfl (λKQ hK=>?_) AllReadyH.nil;refine Vy (by rfl) 76 _ _ rfl (w.heap.size+2) rfl (Zl (aF 24 0)).toArray P0 rfl 76 H2 ao ce o0 ?_;refine hK.out _ _ ⟨(cT _ _ _ _ (by omega)).trans z,(cT _ _ _ _ (by omega)).trans O,.inl (setRow_heap _ _ _ _ _ _ H2)⟩ (λai=>?_);clear hK KQ ac;have ac:=ai;clear ai;(try simp only[Act.put]);refine bJ (rs:=[3]) (by kernel_rfl) (by simp) ?_;refine AllReadyH.cons (o:=⟨none,.store 76 (.tmp 5) (.tmp 23),0, "move.go:43",#[⟨1,.data⟩,⟨2,.chain⟩,⟨0,.phase⟩,⟨1,.phase⟩,⟨2,.phase⟩],none⟩) rfl (λKQ hK=>?_) AllReadyH.nil;refine Vy (by rfl) 76 _ _ rfl (w.heap.size+3) rfl (Zl (aF 24 0)).toArray P1 rfl 76 ((cT _ _ _ _ (by omega)).trans H3) ap cf o1 ?_;refine hK.out _ _ ⟨(cT _ _ _ _ (by omega)).trans ((cT _ _ _ _ (by omega)).trans z),(cT _ _ _ _ (by omega)).trans ((cT _ _ _ _ (by omega)).trans O),.inl ((cT _ _ _ _ (by omega)).trans (setRow_heap _ _ _ _ _ _ H2))⟩ (λai=>?_);clear hK KQ ac;have ac:=ai;clear ai;(try simp only[Act.put]);refine wpAnyH_done (by kernel_rfl) ?_ _;clear ac;go_wp2;(try simp only[Exit.inBlock,Exit.then])
   have h2:((wr.drew.setRow (w.heap.size+2) P0).setRow (w.heap.size+3) P1).heap[w.heap.size+2]? = some (dW P0 76 (0,0)):=(cT _ _ _ _ (by omega)).trans (setRow_heap _ _ _ _ _ _ H2);have h3:((wr.drew.setRow (w.heap.size+2) P0).setRow (w.heap.size+3) P1).heap[w.heap.size+3]? = some (dW P1 76 (0,0)):=setRow_heap _ _ _ _ _ _ ((cT _ _ _ _ (by omega)).trans H3);have L2:=run_loadVar_row (P:=aB) _ (w.heap.size+2) 76 76 _ (0,0) _ h2 bY rfl ao;have L3:=run_loadVar_row (P:=aB) _ (w.heap.size+3) 76 76 _ (0,0) _ h3 bY rfl ap;have hd:ZD w wr.drew:=⟨ag.os,ag.tape,ag.output,ag.size,ag.block⟩;refine aR (v:=dY #[.agg P0,.agg P1]) (Zdh rfl _ _ _ rfl rfl L2 L3) rfl ⟨by rw[bs,bt],below_setRow (below_setRow hd (by omega) _) (by omega) _⟩
open Go.RowKit Go.Shelf
attribute [local go_sem] Oper.semAt_some
abbrev Zrb(m:Nat)(f:Nat->Int)(x:{ i:Nat // i<m }):Array Value:=#[Value.int .i64 (x.1:Int),Value.int .i64 (f x.1)]
set_option maxRecDepth 100000 in
theorem Zjc(f:Nat->Int)(ab:Fence)(n:Nat)(h8:ab.fn 134)(bh:ab.round=none)(hn:1<=n)(l z n1 bb bc tb m cap:Nat)(hm:m<=24)(hb:tb<n1)(bd:tb≠bb)(be:tb≠bc)(ax:z<n1)(av:z≠bb)(aw:z≠bc)(O Jx:List { i:Nat // i<m }->World->Prop)
  (hY:∀ pre x W,O pre W->pre.length<m->YieldAt ab (n - 1) aB l (Zrb m f x) W λe W'=>
   (e = dX (eA true)/\O (pre++[x]) W'/\KpD n1 bb bc W W')\/(e = dX (eA false)/\Jx (pre++[x]) W'))
  (W:World) (af:W.cell? ⟨z,0,none⟩=some (F (some ⟨tb,0,none⟩) m cap)) (hc:∀ j,j<m->W.cell? ⟨tb,j,none⟩=some (E J (f j))) (h0:O [] W) :
  CallsIn ab n aB 134 #[.func (.yield l) #[] #[],dZ (some ⟨z,0,none⟩)] W λe W'=>(∃ v,e = dX v) /\
   ((∃ ys,ys=dnL m m (aE m)/\O ys W')\/(∃ pre,(∃ k,∃ h:k<=m,pre=dnL m k h)/\Jx pre W')):=by
 have bs:(m:Int)<=24:=by omega
 refine callsIn_of_wp func134 rfl h8 ?_ bh;simp only[ntmps134,List.size_toArray,List.length_cons,List.length_nil,Nat.reduceAdd,Nat.reduceSub,Array.replicate_succ,Array.replicate_zero,List.push_toArray,List.append_toArray,dL,cG]
 gi_wp2
 gi_loopw [3] (λi wr=>∃ (k:Nat) (h:k<=m),i = E J ((m:Int) - k - 1)/\O (dnL m k h) wr/\KpD n1 bb bc W wr)
  (λi _=>(intOf i+1).toNat)
 case atStart=>exact⟨0,aP _,by simp,h0,KpD.refl _ _ _ _⟩
 case round=>
  obtain⟨k,hk,rfl,al,ai⟩:=hrel;by_cases ah:k<m
  ·obtain⟨j,hj,an⟩:∃ j,j=m - 1 - k/\j<m:=⟨_,rfl,by omega⟩;obtain⟨fn,tmps,assign,bj,hy,hR⟩:=hY _ ⟨j,an⟩ wr al (by rw[Co];exact ah);dsimp only[Zrb] at hy;have bf:=ai.cell hb bd be (hc j an);have bk:=ai.cell ax av aw af;have e1:(m:Int) - k - 1=(j:Int):=(by omega);have e2:(m:Int) - ((k+1:Nat):Int) - 1=(j:Int) - 1:=(by omega);have HJ:Hid (j=m - 1 - k):=hj;obtain⟨tv,ao⟩:∃ tv:Int,f j=tv:=⟨_,rfl⟩;rw[ao] at hy bf;clear hj ao;rw[e1];have bn:(0:Int)<=(j:Int):=(by omega);have bo:(j:Int)<(m:Int):=(by omega);clear hc af
   gi_wp2
   refine hR.mono ?_;rintro e W3 (⟨rfl,ay,bg⟩|⟨rfl,az⟩)
   ·gi_wp2
    go_roundw
    case rel=>
     refine⟨k+1,ah,?_,?_,ai.trans bg⟩
     ·rw[e2]
     ·rw[dnL];obtain rfl:=Za HJ;exact ay
    case measure=>simp[intOf]
   ·gi_wp2
    refine aR (results_none rfl _ _ _) rfl ?_;refine⟨⟨_,rfl⟩,.inr ⟨_,⟨k+1,ah,?_⟩,az⟩⟩;rw[dnL];obtain rfl:=Za HJ;rfl
  ·obtain rfl:k=m:=(by omega);have e1:(k:Int) - k - 1 = -1:=(by omega);rw[e1];clear hc af
   gi_wp2
   go_end0;exact⟨⟨_,rfl⟩,.inl ⟨_,rfl,al⟩⟩
theorem Zco(f:Nat->Int)(aa:Fence)(n:Nat)(h8:aa.fn 134)(au:aa.round=none)(hn:1<=n)(z n1 bb bc O m cap:Nat)(hm:m<=24)(w:World)(hw:w.heap.size=n1)(hb:O<n1)(am:O≠bb)(an:O≠bc)(ai:z<n1)(ag:z≠bb)(ah:z≠bc)
  (aj:w.cell? ⟨z,0,none⟩=some (F (some ⟨O,0,none⟩) m cap)) (hc:∀ j,j<m->w.cell? ⟨O,j,none⟩=some (E J (f j))) :
  SeqStopsK aa n aB 134 #[dZ (some ⟨z,0,none⟩)] (Zrb m f) (KpD n1 bb bc) (λys=>ys=dnL m m (aE m)) (λpre=>∃ k,∃ h:k<=m,pre=dnL m k h) m w:=λl ae Jx W hW _ _ hY h0=>by
 subst hw;exact Zjc f aa n h8 au hn l z w.heap.size bb bc O m cap hm hb am an ai ag ah ae Jx hY W (Zc hW aj) (λj hj=>Zc hW (hc j hj)) h0
end Go.Proofs.YtpikejjiignchaaGreatDoor
namespace Go.Proofs.YtpikejjiignchaaGreatDoor
open Go.RowKit Go.Shelf
theorem Ja{z:Fence}{n:Nat}{P:Program}{ops rest}{o:Oper}{a:Act}{w:World}{Q:Exit->Act->World->Prop}(ad:o.guard=none)(ty:bO)(x:Operand)(O:o.op = .load ty x)
  (g:Nat) (hx:a.eval x = dZ (some ⟨g,0,none⟩)) (c:Array Value) (t:bO) (hg:w.heap[g]? = some (dW c t (0,0))) (m:Nat) (e:bO) (hu:P.underlying ty=some (.array m e)) (hi:(P.info? ty).map (·.size)=some c.size)
  (h:wpListIn z n P ops Q rest (a.put o.dst (.agg c)) w):wpListIn z n P ops Q (o :: rest) a w:=by
 refine wpListIn_plain ad λK hK=>?_;unfold Oper.wpIn;refine⟨?_,?_⟩
 ·simp[Oper.about,O]
 ·rw[Oper.semAt_plain z _ _ (by rw[O];intro c ab;cases ab)];unfold execOp;simp only[O,hx,Instr.loadAt,Instr.sureAddr,Sem.run_bind,Sem.run_pure,Result.andThen_ok,run_loadVar_row w g t ty c (0,0) _ hg hu rfl hi];exact hK _ _ h
theorem Pa{O:Fence}{n:Nat}{P:Program}{ops rest}{o:Oper}{a:Act}{w:World}{Q:Exit->Act->World->Prop}(ae:o.guard=none)(ty:bO)(x y:Operand)(ho:o.op = .store ty x y)
  (g:Nat) (hx:a.eval x = dZ (some ⟨g,0,none⟩)) (c z:Array Value) (hy:a.eval y = .agg z) (t:bO) (hg:w.heap[g]? = some (dW c t (0,0))) (hi:(P.info? ty).map (·.size)=some z.size) (hs:c.size=z.size) (h1:z.all (·.oneCell')=true)
  (h:wpListIn O n P ops Q rest (a.put o.dst undef) (w.setRow g z)):wpListIn O n P ops Q (o :: rest) a w:=by
 refine wpListIn_plain ae λK hK=>?_;unfold Oper.wpIn;refine⟨?_,?_⟩
 ·simp[Oper.about,ho]
 ·rw[Oper.semAt_plain O _ _ (by rw[ho];intro c ac;cases ac)];unfold execOp;simp only[ho,hx,hy,Instr.storeAt,Instr.sureAddr,Sem.run_bind,Sem.run_pure,Result.andThen_ok,run_storeVar_row w g t ty c z hg hi hs h1];exact hK _ _ h
theorem Mw(A B:List Int)(W):∀ (is:List Nat),(∀ i∈is,i<A.length/\i<B.length)->(Op.eqItems 9999 3 1 (Zl A).toArray (Zl B).toArray is).run aB W = .ok (is.all λi=>A.getD i 0 == B.getD i 0) W
 | [],_=>by simp[Op.eqItems]
 | i :: is,h=>by
  have z:Tryz.prog.plainKey 3=true:=by kernel_rfl
  obtain⟨h1,h2⟩:=h i (by simp);have p0:(part 3 (Zl A).toArray (i*1)).run aB W = .ok (E J A[i]) W:=run_part_plain W z (by simp[Zl,h1]);have p1:(part 3 (Zl B).toArray (i*1)).run aB W = .ok (E J B[i]) W:=run_part_plain W z (by simp[Zl,h2]);have q:(Op.equalIn 9999 3 (E J A[i]) (E J B[i])).run aB W = .ok (A[i] == B[i]) W:=run_equalIn_int W 9998 3 .i64 .i64 _ _ underlying3;have ih:=Mw A B W is (λj O=>h j (by simp[O]));simp only[Op.eqItems,Sem.run_bind,p0,p1,Result.andThen_ok,q];by_cases e:A[i]=B[i]
  ·simp[e,ih,List.getD,h1,h2]
  ·simp[e,List.getD,h1,h2]
theorem Tryz.underRow:Tryz.prog.underlying 76=some (.array 24 3):=by kernel_rfl
theorem Mx(A:List Int)(z:A.length=24)(W):(binOp .eql 76 (.agg (Zl A).toArray) (.agg (Zl (aF 24 0)).toArray)).run aB W = .ok (eA (decide (A=aF 24 0))) W:=by
 obtain⟨i0,hi,_,_,_⟩:=info_parts Tryz.infoInt;have O:Tryz.prog.cellsOf 3=1:=by kernel_rfl
 have aa:((List.range 24).all λi=>A.getD i 0 == (aF 24 (0:Int)).getD i 0)=decide (A=aF 24 0):=by
  rw[Bool.eq_iff_iff];simp only[List.all_eq_true,List.mem_range,beq_iff_eq,decide_eq_true_eq];constructor
  ·intro h;refine List.ext_getElem (by rw[z,List.length_replicate]) λi h1 h2=>?_;have:=h i (by omega);rw[Tm] at this;rw[List.getElem_replicate];simpa[List.getD,h1] using this
  ·intro h i _;rw[h]
 have e:(Op.equalIn 10000 76 (.agg (Zl A).toArray) (.agg (Zl (aF 24 0)).toArray)).run aB W = .ok (decide (A=aF 24 0)) W:=by
  rw[show (10000:Nat)=9999+1 from rfl,run_equalIn_array W 9999 _ _ Tryz.underRow hi,O,Mw A _ W _ (λi hi=>by rw[List.mem_range] at hi;rw[z,List.length_replicate];omega),aa]
 rw[run_eql_struct,e];rfl
open Go.RowKit Go.Shelf
def foL(st:Nat->List Zf->Int×List Zf):List Nat->List Zf->Int×List Zf
 | [],C=>(0,C)
 | i :: r,C=>if (st i C).1≠0 then ((st i C).1,[]) else foL st r (st i C).2
def Tp(K:List ByteArray)(N:List Int)(T:List Zj)(L:List Int)(U:List (List (List Zf)))(k:Nat)(C:List Zf):Int×List Zf:=
 if L.getD k 0=0 then (0,C) else
   if (Tr.blockE N T (L.getD k 0)).2≠0 then ((Tr.blockE N T (L.getD k 0)).2,[]) else
   if (Q0 K C (Tr.blockE N T (L.getD k 0)).1 (U.getD k [])).1≠0 then ((Q0 K C (Tr.blockE N T (L.getD k 0)).1 (U.getD k [])).1,[]) else (0,(Q0 K C (Tr.blockE N T (L.getD k 0)).1 (U.getD k [])).2)
theorem Md(K N T L U):∀ (q:Nat) (C:List Zf),Po K N T L U q C=foL (Tp K N T L U) (Qz q) C
 | 0,C=>rfl
 | q+1,C=>by
  rw[Po,Qz,foL];by_cases h1:L.getD q 0=0
  ·have e:Tp K N T L U q C=(0,C):=(by rw[Tp,if_pos h1]);rw[if_pos h1,e,if_neg (λr=>r rfl),Md K N T L U q]
  ·rw[if_neg h1];by_cases h2:(Tr.blockE N T (L.getD q 0)).2=0
   ·rw[if_neg (λr=>r h2)];by_cases h3:(Q0 K C (Tr.blockE N T (L.getD q 0)).1 (U.getD q [])).1=0
    ·have e:Tp K N T L U q C=(0,(Q0 K C (Tr.blockE N T (L.getD q 0)).1 (U.getD q [])).2):=(by rw[Tp,if_neg h1,if_neg (λr=>r h2),if_neg (λr=>r h3)]);rw[if_neg (λr=>r h3),e,if_neg (λr=>r rfl),Md K N T L U q]
    ·have e:Tp K N T L U q C=((Q0 K C (Tr.blockE N T (L.getD q 0)).1 (U.getD q [])).1,[]):=(by rw[Tp,if_neg h1,if_neg (λr=>r h2),if_pos h3]);rw[if_pos h3,e,if_pos h3]
   ·have e:Tp K N T L U q C=((Tr.blockE N T (L.getD q 0)).2,[]):=(by rw[Tp,if_neg h1,if_pos h2]);rw[if_pos h2,e,if_pos h2]
theorem Tn{st:Nat->List Zf->Int×List Zf}{i:Nat}{y:Int}{M}:∀ {l:List Nat} {C z:List Zf},foL st l C=(0,z)->st i z=(y,M)->foL st (l++[i]) C=if y≠0 then (y,[]) else (0,M)
 | [],C,z,h,hs=>by
  rw[foL] at h;injection h with _ h;subst h;rw[dL,foL,hs];rfl
 | j :: l,C,z,h,hs=>by
  rw[foL] at h;rw[cG,foL];split at h
  ·rename_i q;injection h with h _;exact absurd h q
  ·rename_i q;rw[if_neg q];exact Tn h hs
theorem Zgd{st:Nat->List Zf->Int×List Zf}{y:Int}{M r}:∀ {l:List Nat} {C:List Zf},foL st l C=(y,M)->y≠0->foL st (l++r) C=(y,[])
 | [],C,h,hy=>by
  rw[foL] at h;injection h with h _;exact absurd h.symm hy
 | j :: l,C,h,hy=>by
  rw[foL] at h;rw[cG,foL];split at h
  ·rename_i q;rw[if_pos q];injection h with h _;rw[h]
  ·rename_i q;rw[if_neg q];exact Zgd h hy
theorem Jd(w:World)(O o2 o3 o4 o5 o6 o7:Obj)(X:World)(hX:X=((((((w.alloc O).alloc o2).alloc o3).alloc o4).alloc o5).alloc o6).alloc o7) :
  ZD w X/\X.heap.size=w.heap.size+7/\X.heap[w.heap.size]? = some O/\X.heap[w.heap.size+1]? = some o2/\X.heap[w.heap.size+2]? = some o3/\X.heap[w.heap.size+3]? = some o4/\X.heap[w.heap.size+4]? = some o5/\X.heap[w.heap.size+5]? = some o6/\X.heap[w.heap.size+6]? = some o7:=by
 obtain⟨b,s,h1,h2,h3,h4,h5,h6⟩:=Hd w O o2 o3 o4 o5 o6 _ rfl;have z:=Zg ((((((w.alloc O).alloc o2).alloc o3).alloc o4).alloc o5).alloc o6) o7;have h7:=aK ((((((w.alloc O).alloc o2).alloc o3).alloc o4).alloc o5).alloc o6) o7;rw[s] at h7;subst hX;exact⟨Ze b z,by simp[World.size_alloc],ZE z h1,ZE z h2,ZE z h3,ZE z h4,ZE z h5,ZE z h6,h7⟩
set_option maxRecDepth 10000 in
theorem Zir(ka kn kc K a b n c m d N T z ln O C0)(R L:List Int)(w)(_bi:Env w)(_bj:Bk.TextsAt w ka kn K)(_bk:Tr.IntsAt w a n N)(_bn:Tr.BlksAt w b m T)(_bo:SlOk a n c)(_bq:SlOk b m d)(hC:CoinsAt w z ln C0)(sC:SlOk z ln O)(hR:R.length=24)(hL:L.length=24)(am:L=aF 24 0) :
  Calls aB 46 #[.agg #[F ka kn kc],.agg #[F a n c,F b m d],F z ln O,.agg (Zl R).toArray,.agg (Zl L).toArray] w λe w'=>CnR w w' 0 C0 e:=by
 obtain⟨X,hX⟩:=ZG (((((((w.alloc (dW #[F ka kn kc] 24)).alloc (dW #[F a n c,F b m d] 28)).alloc (dW #[F z ln O] 29)).alloc (dW (Zl R).toArray 76)).alloc (dW (Zl L).toArray 76)).alloc (dW #[F none 0 0] 29)).alloc (dW #[E J 0] 30));obtain⟨al,ak,x1,x2,x3,x4,x5,x6,x7⟩:=Jd w _ _ _ _ _ _ _ X hX;have br:=Xm hL;have bs:=Xm hR;have az:Hid ((((((((w.alloc (dW #[F ka kn kc] 24)).alloc (dW #[F a n c,F b m d] 28)).alloc (dW #[F z ln O] 29)).alloc (dW (Zl R).toArray 76)).alloc (dW (Zl L).toArray 76)).alloc (dW #[F none 0 0] 29)).alloc (dW #[E J 0] 30)).heap[w.heap.size+4]? = some (dW (Zl L).toArray 76 (0,0))):=by rw[<-hX];exact x5
 obtain⟨cd,hz⟩:=ZF (decide (L=aF 24 0));have cc:∀ V:World,(binOp .eql 76 (.agg (Zl L).toArray) (.agg #[E J 0,E J 0,E J 0,E J 0,E J 0,E J 0,E J 0,E J 0,E J 0,E J 0,E J 0,E J 0,E J 0,E J 0,E J 0,E J 0,E J 0,E J 0,E J 0,E J 0,E J 0,E J 0,E J 0,E J 0])).run aB V = .ok (eA cd) V:=λV=>by rw[Ql,<-hz];exact Mx L hL V
 have ax:=Zb al;have ba:=Zb x1;have bb:=Zb x2;have bc:=Zb x3;have bd:=Zb x4;have be:=Zb x5;have bf:=Zb x6;have bg:=Zb x7;have bh:=Zb ak;obtain rfl:cd=true:=by rw[<-hz];simpa using am
 obtain⟨Y,hY⟩:=ZG (((((((w.alloc (dW #[F ka kn kc] 24)).alloc (dW #[F a n c,F b m d] 28)).alloc (dW #[F z ln O] 29)).alloc (dW (Zl R).toArray 76)).alloc (dW (Zl L).toArray 76)).alloc (dW #[F z ln O] 29)).alloc (dW #[E J 0] 30));obtain⟨ag,bt,y1,y2,y3,y4,y5,y6,y7⟩:=Jd w _ _ _ _ _ _ _ Y hY;have z6:=Zd (X:=[F z ln O]) y6 0 _ rfl;have z7:=Zd (X:=[E J 0]) y7 0 _ rfl;have HF:Hid (CnR w Y 0 C0 (dX (dY #[F z ln O,E J 0]))):=⟨z,ln,O,rfl,hC.later ag,sC,ag⟩;clear _bi _bj _bk _bn _bo _bq hC sC hR hL al ak x1 x2 x3 x4 x5 x6 x7 hz am bs ag bt y1 y2 y3 y4 y5 y6 y7 hX ax ba bb bc bd be bf bg bh;go_enter func46,ntmps46
 go_wp2_with (refine Yu rfl 76 _ rfl _ rfl _ _ az _ _ bY br ?_)
 rw[<-hY];clear hY;(try simp only[Exit.inBlock,Exit.then]);refine aR (v:=dY #[F z ln O,E J 0]) ?_ rfl HF;simp[results,Tryz.f46,go_sem,z6,z7]
set_option maxRecDepth 10000 in
theorem Zms(O kn kc K a b n c m d N T la ln lc C0)(R L:List Int)(w)(hE:Env w)(hK:Bk.TextsAt w O kn K)(hN:Tr.IntsAt w a n N)(hT:Tr.BlksAt w b m T)(sN:SlOk a n c)(sT:SlOk b m d)(_cu:CoinsAt w la ln C0)(_cw:SlOk la ln lc)(hR:R.length=24)(hL:L.length=24)(z:Int)(C4 U4)(bw:Ue K N T R [] []=(z,C4,U4))(ca:¬L=aF 24 0)(bz:z≠0) :
  Calls aB 46 #[.agg #[F O kn kc],.agg #[F a n c,F b m d],F la ln lc,.agg (Zl R).toArray,.agg (Zl L).toArray] w λe w'=>CnR w w' z [] e:=by
 obtain⟨X,hX⟩:=ZG (((((((w.alloc (dW #[F O kn kc] 24)).alloc (dW #[F a n c,F b m d] 28)).alloc (dW #[F la ln lc] 29)).alloc (dW (Zl R).toArray 76)).alloc (dW (Zl L).toArray 76)).alloc (dW #[F none 0 0] 29)).alloc (dW #[E J 0] 30));obtain⟨ab,bq,x1,x2,x3,aw,x5,x6,x7⟩:=Jd w _ _ _ _ _ _ _ X hX;have bj:=Xm hL;have bn:=Xm hR;have bb:Hid ((((((((w.alloc (dW #[F O kn kc] 24)).alloc (dW #[F a n c,F b m d] 28)).alloc (dW #[F la ln lc] 29)).alloc (dW (Zl R).toArray 76)).alloc (dW (Zl L).toArray 76)).alloc (dW #[F none 0 0] 29)).alloc (dW #[E J 0] 30)).heap[w.heap.size+4]? = some (dW (Zl L).toArray 76 (0,0))):=by rw[<-hX];exact x5
 obtain⟨dv,hz⟩:=ZF (decide (L=aF 24 0));have da:∀ V:World,(binOp .eql 76 (.agg (Zl L).toArray) (.agg #[E J 0,E J 0,E J 0,E J 0,E J 0,E J 0,E J 0,E J 0,E J 0,E J 0,E J 0,E J 0,E J 0,E J 0,E J 0,E J 0,E J 0,E J 0,E J 0,E J 0,E J 0,E J 0,E J 0,E J 0])).run aB V = .ok (eA dv) V:=λV=>by rw[Ql,<-hz];exact Mx L hL V
 have ba:=Zb ab;have cl:=Zb x1;have cm:=Zb x2;have cn:=Zb x3;have co:=Zb aw;have cp:=Zb x5;have bd:=Zb x6;have be:=Zb x7;have cq:=Zb bq;obtain rfl:dv=false:=by rw[<-hz];simpa using ca
 have CL:=Zb (G1 O kn kc K a b n c m d N T none 0 0 [] R z C4 U4 X (hE.later ab) (hK.later ab) (hN.later ab) (hT.later ab) sN sT ⟨rfl,λh=>absurd h (by omega)⟩ Wd hR bw);have c1:=Zd (X:=[F O kn kc]) x1 0 _ rfl;have l1:=aA x1;have cx:=Zd (X:=[F a n c,F b m d]) x2 0 _ rfl;have cy:=Zd (X:=[F a n c,F b m d]) x2 1 _ rfl;have l2:=aA x2;have bc:Hid ((((((((w.alloc (dW #[F O kn kc] 24)).alloc (dW #[F a n c,F b m d] 28)).alloc (dW #[F la ln lc] 29)).alloc (dW (Zl R).toArray 76)).alloc (dW (Zl L).toArray 76)).alloc (dW #[F none 0 0] 29)).alloc (dW #[E J 0] 30)).heap[w.heap.size+3]? = some (dW (Zl R).toArray 76 (0,0))):=by rw[<-hX];exact aw
 clear hE hK hN hT sN sT _cu _cw hR hL ab bq x1 x2 x3 aw x5 x6 x7 hz ca bw;go_enter func46,ntmps46
 go_wp2_with (first|refine Yu rfl 76 _ rfl _ rfl _ _ bb _ _ bY bj ?_|refine Yu rfl 76 _ rfl _ rfl _ _ bc _ _ bY bn ?_)
 rw[<-hX];clear hX bb bc;refine CL.mono ?_;rintro e w1 ⟨oa,du,oc,cs,rfl,cz,dd,al,br⟩;have bv:=Ty al.1;have bu:=al.one;have bx:((aF 24 (Value.slice none 0 0)).toArray:Array Value).size=cs.toArray.size:=by simp[al.1]
 clear cz dd CL c1 l1 cx cy l2;obtain⟨CC,ap⟩:=ZF (cs.toArray);rw[ap] at bv bu bx;rw[ap];clear ap al;have ct:Hid ((w1.alloc (dW #[F none 0 0,F none 0 0,F none 0 0,F none 0 0,F none 0 0,F none 0 0,F none 0 0,F none 0 0,F none 0 0,F none 0 0,F none 0 0,F none 0 0,F none 0 0,F none 0 0,F none 0 0,F none 0 0,F none 0 0,F none 0 0,F none 0 0,F none 0 0,F none 0 0,F none 0 0,F none 0 0,F none 0 0] 81)).heap[w1.heap.size]? = some (dW (aF 24 (Value.slice none 0 0)).toArray 81 (0,0))):=by rw[Ly];exact aK _ _
 obtain⟨Y,hY⟩:=ZG (w1.alloc (dW CC 81));have E3:Hid ((w1.alloc (dW #[F none 0 0,F none 0 0,F none 0 0,F none 0 0,F none 0 0,F none 0 0,F none 0 0,F none 0 0,F none 0 0,F none 0 0,F none 0 0,F none 0 0,F none 0 0,F none 0 0,F none 0 0,F none 0 0,F none 0 0,F none 0 0,F none 0 0,F none 0 0,F none 0 0,F none 0 0,F none 0 0,F none 0 0] 81)).setRow w1.heap.size CC=Y):=by rw[hY];exact World.setRow_alloc_new _ _ _ _
 have bt:ZD w1 Y:=by rw[hY];exact Zg _ _
 have am:=Ze br bt;have ag:=Ze ba am;have y6:=ZE am bd;have y7:=ZE am be;have c6:=Zd (X:=[F none 0 0]) y6 0 _ rfl;have f6:=Zi y6 0;have l6:=aA y6;have f7:=Zi y7 0;have g1:Gr Y (Y.setCell ⟨w.heap.size+5,0,none⟩ (F none 0 0)) (λq=>q=w.heap.size+5):=(Gr.refl Y (λq=>q=w.heap.size+5)).set (p:=⟨w.heap.size+5,0,none⟩) (.inl rfl) _;have e7:=g1.heap y7 (by omega);have c7:=Zd (X:=[E J 0]) e7 0 _ rfl;have l7:=aA e7;have dp:=aA y7;have g2:Gr (Y.setCell ⟨w.heap.size+5,0,none⟩ (F none 0 0)) ((Y.setCell ⟨w.heap.size+5,0,none⟩ (F none 0 0)).setCell ⟨w.heap.size+6,0,none⟩ (E J z)) (λq=>q=w.heap.size+6):=(Gr.refl _ (λq=>q=w.heap.size+6)).set (p:=⟨w.heap.size+6,0,none⟩) (.inl rfl) _;have e6:(Y.setCell ⟨w.heap.size+5,0,none⟩ (F none 0 0)).heap[w.heap.size+5]? = some (dW #[F none 0 0] 29 (0,0)):=Yz y6;have k6:=g2.heap e6 (by omega);have k7:((Y.setCell ⟨w.heap.size+5,0,none⟩ (F none 0 0)).setCell ⟨w.heap.size+6,0,none⟩ (E J z)).heap[w.heap.size+6]? = some (dW #[E J z] 30 (0,0)):=Yz e7;have bs:ZD w ((Y.setCell ⟨w.heap.size+5,0,none⟩ (F none 0 0)).setCell ⟨w.heap.size+6,0,none⟩ (E J z)):=g2.below (g1.below ag ag.size (λq e=>by omega)) (g1.below ag ag.size (λq e=>by omega)).size (λq e=>by omega);have z6:=Zd (X:=[F none 0 0]) k6 0 _ rfl;have z7:=Zd (X:=[E J z]) k7 0 _ rfl
 have HF:Hid (CnR w ((Y.setCell ⟨w.heap.size+5,0,none⟩ (F none 0 0)).setCell ⟨w.heap.size+6,0,none⟩ (E J z)) z [] (dX (dY #[F none 0 0,E J z]))):=Vo rfl bs;have dq:¬w.heap.size+5=w.heap.size+6:=by omega
 have dr:¬w.heap.size+6=w.heap.size+5:=by omega
 have gx:(z != 0)=true:=by simp[bz]
 clear br bt am ag y6 y7 g1 g2 e6 e7 k6 k7 bs hY ba cl cm cn co cp bd be cq da bj bn bz
 go_wp2_with (refine Zu rfl 81 _ _ rfl _ rfl _ _ rfl _ ct bv bx bu ?_;rw[Za E3])
 (try simp only[Exit.inBlock,Exit.then]);refine aR (v:=dY #[F none 0 0,E J z]) ?_ rfl HF;simp[results,Tryz.f46,go_sem,z6,z7]
