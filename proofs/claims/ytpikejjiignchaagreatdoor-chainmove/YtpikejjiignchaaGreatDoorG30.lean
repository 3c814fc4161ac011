import Derived.Test.YtpikejjiignchaaGreatDoorH
import Derived.LoopIn
import Derived.LoopNIn
import Derived.Shelf.RegionOpen
import Derived.Test.YtpikejjiignchaaGreatDoorG29
open Go renaming heap_alloc_new->aK,lt_of_block->aA,undef->dP,wpAnyH_ready->bJ
open Go.Act renaming put->aH
open Go.Ending renaming returned->dX
open Go.IntKind renaming i64->J
open Go.KeepsOthers renaming setCell->cA
open Go.Obj renaming cells->dW
open Go.Value renaming int->E,slice->F,tuple->dY,pointer->dZ,bool->eA
open Go.World renaming cell?_of_block->cR,block_lt_of_cell?->aC
open List renaming nil_append->dL,cons_append->cG,map_append->bW,length_cons->dQ
open Nat renaming le_refl->aE,le_trans->aT,lt_of_lt_of_le->aI
set_option maxHeartbeats 6400000
namespace Go.Proofs.YtpikejjiignchaaGreatDoor
open Go.RowKit Go.Shelf
attribute [local go_sem] Oper.semAt_some
def At(T:List TxD)(N:List Int)(S:List (List Zf))(i:Nat)(C:List Zf):Int×List Zf:=
 rvD C (T.getD ((i+1) % T.length) Ut) (N.getD ((i+1) % T.length) 0) (S.getD ((i+1) % T.length) [])
def Si(T:List TxD)(N:List Int)(S:List (List Zf)):List Nat->List Zf->Int×List Zf
 | [],C=>(0,C)
 | i :: r,C=>if (At T N S i C).1≠0 then ((At T N S i C).1,[]) else Si T N S r (At T N S i C).2
def Qz:Nat->List Nat
 | 0=>[]
 | q+1=>q :: Qz q
theorem Pp(T N)(S):∀ (q:Nat) (C:List Zf),Jh T N S q C=Si T N S (Qz q) C
 | 0,C=>rfl
 | q+1,C=>by
  rw[Jh,Qz,Si,<-Pp T N S q];rfl
theorem Aw{T N S i}{y:Int}{M}:∀ {l:List Nat} {C z:List Zf},Si T N S l C=(0,z)->At T N S i z=(y,M)->Si T N S (l++[i]) C=if y≠0 then (y,[]) else (0,M)
 | [],C,z,h,hs=>by
  rw[Si] at h;injection h with _ h;subst h;rw[dL,Si,hs];rfl
 | j :: l,C,z,h,hs=>by
  rw[Si] at h;rw[cG,Si];split at h
  ·rename_i q;injection h with h _;exact absurd h q
  ·rename_i q;rw[if_neg q];exact Aw h hs
theorem Zbw{T N S}{y:Int}{M}{r}:∀ {l:List Nat} {C:List Zf},Si T N S l C=(y,M)->y≠0->Si T N S (l++r) C=(y,[])
 | [],C,h,hy=>by
  rw[Si] at h;injection h with h _;exact absurd h.symm hy
 | j :: l,C,h,hy=>by
  rw[Si] at h;rw[cG,Si];split at h
  ·rename_i q;rw[if_pos q];injection h with h _;rw[h]
  ·rename_i q;rw[if_neg q];exact Zbw h hy
def dnL(m:Nat):(k:Nat)->k<=m->List { i:Nat // i<m }
 | 0,_=>[]
 | k+1,h=>dnL m k (Nat.le_of_succ_le h)++[⟨m - 1 - k,by omega⟩]
theorem Co(m:Nat):∀ (k:Nat) (h:k<=m),(dnL m k h).length=k
 | 0,_=>rfl
 | k+1,h=>by rw[dnL,List.length_append,Co m k];rfl
theorem Gw(m:Nat):∀ (k:Nat) (h:k<=m),Qz m=(dnL m k h).map (·.1)++Qz (m - k)
 | 0,_=>rfl
 | k+1,h=>by
  rw[dnL,bW,List.append_assoc,Gw m k (Nat.le_of_succ_le h)]
  congr 1
  obtain⟨q,z⟩:∃ q,m - k=q+1:=⟨m - k - 1,by omega⟩;rw[z,Qz,show m - (k+1)=q by omega];show _=(m - 1 - k) :: Qz q
  congr 1
  omega
theorem Zgi(m:Nat):Qz m=(dnL m m (aE m)).map (·.1):=by
 have:=Gw m m (aE m);rwa [Nat.sub_self,Qz,List.append_nil] at this
structure KpD(n1 b c:Nat)(W W':World):Prop where
 os:W'.os=W.os
 tape:W'.tape=W.tape
 output:W'.output=W.output
 size:W.heap.size<=W'.heap.size
 block:∀ k,k<n1->k≠b->k≠c->W'.heap[k]? = W.heap[k]?
theorem KpD.refl(n1 b c:Nat)(W):KpD n1 b c W W:=⟨rfl,rfl,rfl,aE _,λ_ _ _ _=>rfl⟩
theorem KpD.trans{n1 b c:Nat}{A B C}(h:KpD n1 b c A B)(k:KpD n1 b c B C):KpD n1 b c A C:=
 ⟨k.os.trans h.os,k.tape.trans h.tape,k.output.trans h.output,aT h.size k.size,λi h1 h2 h3=>(k.block i h1 h2 h3).trans (h.block i h1 h2 h3)⟩
theorem KpD.put{n1 b c:Nat}(W:World)(l:Nat)(o:Obj)(h:n1<=l):KpD n1 b c W (W.putObj l o):=
 ⟨rfl,rfl,rfl,by simp,λk z _ _=>World.putObj_heap_other (by omega)⟩
theorem KpD.set{n1 b c:Nat}{W W':World}(h:KpD n1 b c W W'){p:Addr}(z:p.block=b\/p.block=c)(u):KpD n1 b c W (W'.setCell p u):=
 ⟨h.os,h.tape,h.output,by simpa[World.setCell] using h.size,λk h1 h2 h3=>(Below.heap_setCell W' p u k (λe=>by subst e;rcases z with q|q;exact h2 q;exact h3 q)).trans (h.block k h1 h2 h3)⟩
theorem KpD.on{n1 b c:Nat}{W O W2:World}(h:KpD n1 b c W O)(z:ZD O W2)(hn:n1<=O.heap.size):KpD n1 b c W W2:=
 ⟨z.os.trans h.os,z.tape.trans h.tape,z.output.trans h.output,aT h.size z.size,λk h1 h2 h3=>(z.block k (by omega)).trans (h.block k h1 h2 h3)⟩
theorem KpD.grown{n1 b c:Nat}{W z O:World}(h:KpD n1 b c W z){row:Option Nat}(g:z.grownBy O row)(hr:∀ r,row=some r->n1<=r)(hn:n1<=z.heap.size):KpD n1 b c W O:=
 ⟨g.os.trans h.os,g.tape.trans h.tape,g.output.trans h.output,aT h.size g.size,λk h1 h2 h3=>(g.block k (by omega) (λe=>by have:=hr k e.symm;omega)).trans (h.block k h1 h2 h3)⟩
theorem KpD.below{n1 b c:Nat}{w O W:World}(h:KpD n1 b c O W)(z:ZD w O)(hn:w.heap.size<=n1)(h1:w.heap.size<=b)(h2:w.heap.size<=c):ZD w W:=
 ⟨h.os.trans z.os,h.tape.trans z.tape,h.output.trans z.output,aT z.size h.size,λk hk=>(h.block k (by omega) (by omega) (by omega)).trans (z.block k hk)⟩
theorem KpD.cell{n1 b c:Nat}{W W':World}(h:KpD n1 b c W W'){k o:Nat}{v}(z:k<n1)(h2:k≠b)(h3:k≠c)(O:W.cell? ⟨k,o,none⟩=some v):W'.cell? ⟨k,o,none⟩=some v:=
 (cR (a:=⟨k,o,none⟩) (h.block k z h2 h3)).trans O
def Kb(W W':World):Prop:=W.heap.size<=W'.heap.size/\∀ b o v,W.cell? ⟨b,o,none⟩=some v->W'.cell? ⟨b,o,none⟩=some v
theorem Zic{W W'}(O:Kb W W'){a n l}(h:OpsAt W a n l):OpsAt W' a n l:=by
 refine⟨h.1,λh0=>?_⟩;obtain⟨b,off,rfl,z⟩:=h.2 h0;exact⟨b,off,rfl,λi hi=>⟨O.2 _ _ _ (z i hi).1,O.2 _ _ _ (z i hi).2⟩⟩
theorem Ji{W W'}(z:Kb W W'){a n L}(h:CoinsAt W a n L):CoinsAt W' a n L:=by
 refine⟨h.1,λh0=>?_⟩;obtain⟨b,off,rfl,hl,hc⟩:=h.2 h0;refine⟨b,off,rfl,aI hl z.1,λi hi=>?_⟩;obtain⟨c0,c1,O,⟨la,ln,lc,c3,h5,h6⟩,c4,c5⟩:=hc i hi;exact⟨z.2 _ _ _ c0,z.2 _ _ _ c1,z.2 _ _ _ O,⟨la,ln,lc,z.2 _ _ _ c3,Zic z h5,h6⟩,z.2 _ _ _ c4,z.2 _ _ _ c5⟩
theorem Rp{W W':World}{row:Option Nat}(g:W.grownBy W' row)(z:∀ r,row=some r->∃ o:Obj,W.heap[r]? = some o/\o.isCells=false):Kb W W':=
 ⟨g.size,λ_ _ _ h=>cell_kept h g z⟩
def Box1(W:World)(k:Nat):Prop:=∃ v t fr,W.heap[k]? = some (dW #[v] t fr)
theorem Box1.two{W:World}{k:Nat}(h:Box1 W k){o:Nat}{v}(h2:W.cell? ⟨k,o+1,none⟩=some v):False:=by
 obtain⟨x,t,fr,z⟩:=h;rw[cell_of_row W k (o+1) #[x] t fr z] at h2;simp at h2
theorem Zog{W W':World}{S:Nat->Prop}(hk:∀ k,k<W.heap.size->¬S k->W'.heap[k]? = W.heap[k]?)(z:∀ k,S k->Box1 W k){a n l}(h:OpsAt W a n l):OpsAt W' a n l:=by
 refine⟨h.1,λh0=>?_⟩;obtain⟨b,off,rfl,O⟩:=h.2 h0;refine⟨b,off,rfl,λi hi=>?_⟩;obtain⟨c0,c1⟩:=O i hi;have e:=hk b (aC _ _ c0) (λq=>(z b q).two c1);exact⟨(cR (a:=⟨b,_,none⟩) e).trans c0,(cR (a:=⟨b,_,none⟩) e).trans c1⟩
theorem Vw{W W':World}{S:Nat->Prop}(hs:W.heap.size<=W'.heap.size)(O:∀ k,k<W.heap.size->¬S k->W'.heap[k]? = W.heap[k]?)(z:∀ k,S k->Box1 W k){a n L}(h:CoinsAt W a n L):CoinsAt W' a n L:=by
 refine⟨h.1,λh0=>?_⟩;obtain⟨b,off,rfl,hl,hc⟩:=h.2 h0;refine⟨b,off,rfl,aI hl hs,λi hi=>?_⟩;obtain⟨c0,c1,c2,⟨la,ln,lc,c3,h5,h6⟩,c4,c5⟩:=hc i hi;have e:=O b hl (λq=>(z b q).two c1);have g:=λ(o:Nat)=>cR (a:=⟨b,o,none⟩) e;exact⟨(g _).trans c0,(g _).trans c1,(g _).trans c2,⟨la,ln,lc,(g _).trans c3,Zog O z h5,h6⟩,(g _).trans c4,(g _).trans c5⟩
theorem Lm(a len cap)(w:World) :
  Calls Tryz.prog 86 #[F a len cap] w λe w'=>e = dX (.func (.func 134) #[] #[dZ (some ⟨w.heap.size,0,none⟩)])/\w'=w.alloc (dW #[F a len cap] 25):=by
 go_enter Tryz.func86,Tryz.ntmps86;go_wp2;go_ret;exact⟨rfl,rfl⟩
abbrev Zra(m:Nat)(x:{ i:Nat // i<m }):Array Value:=#[Value.int .i64 (x.1:Int),Value.int .i64 (((x.1+1) % m:Nat):Int)]
set_option maxRecDepth 100000 in
theorem Ea(ab:Fence)(n:Nat)(h8:ab.fn 134)(bh:ab.round=none)(hn:1<=n)(l z n1 bb bc tb m cap:Nat)(hm:m<=4)(hb:tb<n1)(bd:tb≠bb)(be:tb≠bc)(ax:z<n1)(av:z≠bb)(aw:z≠bc)(O Jx:List { i:Nat // i<m }->World->Prop)
  (hY:∀ pre x W,O pre W->pre.length<m->YieldAt ab (n - 1) Tryz.prog l (Zra m x) W λe W'=>
   (e = dX (eA true)/\O (pre++[x]) W'/\KpD n1 bb bc W W')\/(e = dX (eA false)/\Jx (pre++[x]) W'))
  (W:World) (af:W.cell? ⟨z,0,none⟩=some (F (some ⟨tb,0,none⟩) m cap)) (hc:∀ j,j<m->W.cell? ⟨tb,j,none⟩=some (E J (((j+1) % m:Nat):Int))) (h0:O [] W) :
  CallsIn ab n Tryz.prog 134 #[.func (.yield l) #[] #[],dZ (some ⟨z,0,none⟩)] W λe W'=>(∃ v,e = dX v) /\
   ((∃ ys,ys=dnL m m (aE m)/\O ys W')\/(∃ pre,(∃ k,∃ h:k<=m,pre=dnL m k h)/\Jx pre W')):=by
 have bs:(m:Int)<=4:=by omega
 refine callsIn_of_wp Tryz.func134 rfl h8 ?_ bh;simp only[Tryz.ntmps134,List.size_toArray,dQ,List.length_nil,Nat.reduceAdd,Nat.reduceSub,Array.replicate_succ,Array.replicate_zero,List.push_toArray,List.append_toArray,dL,cG]
 gi_wp2
 gi_loopw [3] (λi wr=>∃ (k:Nat) (h:k<=m),i = E J ((m:Int) - k - 1)/\O (dnL m k h) wr/\KpD n1 bb bc W wr)
  (λi _=>(intOf i+1).toNat)
 case atStart=>exact⟨0,Nat.zero_le _,by simp,h0,KpD.refl _ _ _ _⟩
 case round=>
  obtain⟨k,hk,rfl,al,ai⟩:=hrel;by_cases ah:k<m
  ·obtain⟨j,hj,an⟩:∃ j,j=m - 1 - k/\j<m:=⟨_,rfl,by omega⟩;obtain⟨fn,tmps,assign,bj,hy,hR⟩:=hY _ ⟨j,an⟩ wr al (by rw[Co];exact ah);dsimp only[Zra] at hy;have bf:=ai.cell hb bd be (hc j an);have bk:=ai.cell ax av aw af;have e1:(m:Int) - k - 1=(j:Int):=(by omega);have e2:(m:Int) - ((k+1:Nat):Int) - 1=(j:Int) - 1:=(by omega);have HJ:Hid (j=m - 1 - k):=hj;obtain⟨tv,ao⟩:∃ tv:Nat,(j+1) % m=tv:=⟨_,rfl⟩;rw[ao] at hy bf;clear hj ao;rw[e1];have bn:(0:Int)<=(j:Int):=(by omega);have bo:(j:Int)<(m:Int):=(by omega);clear hc af
   gi_wp2
   refine hR.mono ?_;rintro e W3 (⟨rfl,ay,bg⟩|⟨rfl,az⟩)
   ·gi_wp2
    go_roundw
    case rel=>
     refine⟨k+1,ah,?_,?_,ai.trans bg⟩
     ·rw[e2]
     ·rw[dnL];obtain rfl:=Za HJ;exact ay
    case measure=>simp[intOf]
   ·gi_wp2
    refine bodyPost_ret (results_none rfl _ _ _) rfl ?_;refine⟨⟨_,rfl⟩,.inr ⟨_,⟨k+1,ah,?_⟩,az⟩⟩;rw[dnL];obtain rfl:=Za HJ;rfl
  ·obtain rfl:k=m:=(by omega);have e1:(k:Int) - k - 1 = -1:=(by omega);rw[e1];clear hc af
   gi_wp2
   go_end0;exact⟨⟨_,rfl⟩,.inl ⟨_,rfl,al⟩⟩
theorem D7(aa:Fence)(n:Nat)(h8:aa.fn 134)(au:aa.round=none)(hn:1<=n)(z n1 bb bc O m cap:Nat)(hm:m<=4)(w:World)(hw:w.heap.size=n1)(hb:O<n1)(am:O≠bb)(an:O≠bc)(ai:z<n1)(ag:z≠bb)(ah:z≠bc)
  (aj:w.cell? ⟨z,0,none⟩=some (F (some ⟨O,0,none⟩) m cap)) (hc:∀ j,j<m->w.cell? ⟨O,j,none⟩=some (E J (((j+1) % m:Nat):Int))) :
  SeqStopsK aa n Tryz.prog 134 #[dZ (some ⟨z,0,none⟩)] (Zra m) (KpD n1 bb bc) (λys=>ys=dnL m m (aE m)) (λpre=>∃ k,∃ h:k<=m,pre=dnL m k h) m w:=λl ae Jx W hW _ _ hY h0=>by
 subst hw;exact Ea aa n h8 au hn l z w.heap.size bb bc O m cap hm hb am an ai ag ah ae Jx hY W (Zc hW aj) (λj hj=>Zc hW (hc j hj)) h0
end Go.Proofs.YtpikejjiignchaaGreatDoor
namespace Go.Proofs.YtpikejjiignchaaGreatDoor
open Go.RowKit Go.Shelf
def tvI(m j:Nat):Int:=(((j+1) % m:Nat):Int)
attribute [local go_sem] Oper.semAt_some
theorem Hd(w:World)(z O o3 o4 o5 o6:Obj)(X:World)(hX:X=(((((w.alloc z).alloc O).alloc o3).alloc o4).alloc o5).alloc o6) :
  ZD w X/\X.heap.size=w.heap.size+6/\X.heap[w.heap.size]? = some z/\X.heap[w.heap.size+1]? = some O/\X.heap[w.heap.size+1+1]? = some o3/\X.heap[w.heap.size+1+1+1]? = some o4/\X.heap[w.heap.size+1+1+1+1]? = some o5/\X.heap[w.heap.size+1+1+1+1+1]? = some o6:=by
 have b1:=Zg w z;have b2:=Zg (w.alloc z) O;have b3:=Zg ((w.alloc z).alloc O) o3;have b4:=Zg (((w.alloc z).alloc O).alloc o3) o4;have b5:=Zg ((((w.alloc z).alloc O).alloc o3).alloc o4) o5;have b6:=Zg (((((w.alloc z).alloc O).alloc o3).alloc o4).alloc o5) o6;have h1:=aK w z;have h2:=aK (w.alloc z) O;have h3:=aK ((w.alloc z).alloc O) o3;have h4:=aK (((w.alloc z).alloc O).alloc o3) o4;have h5:=aK ((((w.alloc z).alloc O).alloc o3).alloc o4) o5;have h6:=aK (((((w.alloc z).alloc O).alloc o3).alloc o4).alloc o5) o6;have k5:=b6;have k4:=Ze b5 b6;have k3:=Ze b4 k4;have k2:=Ze b3 k3;have k1:=Ze b2 k2;have g1:=ZE k1 h1;have g2:=ZE k2 h2;have g3:=ZE k3 h3;have g4:=ZE k4 h4;have g5:=ZE k5 h5;simp only[World.size_alloc] at g2 g3 g4 g5 h6;subst hX;exact⟨Ze b1 k1,by simp[World.size_alloc],g1,g2,g3,g4,g5,h6⟩
def SDs(b4 ab z O m c ub uo un uc nb no nn nc i:Nat)(t1:Int)(ai:Option Addr)(ni ci:Nat)(ao:Option Addr)(al co:Nat)(nm:Int)(sa:Option Addr)(sn sc:Nat)(V:World):Prop:=
 V.cell? ⟨b4+1+1,4,none⟩=some (F (some ⟨z,O,none⟩) m c)/\V.cell? ⟨z,O+i*3,none⟩=some (E J t1)/\V.cell? ⟨z,O+i*3+1,none⟩=some (F ai ni ci)/\V.cell? ⟨z,O+i*3+2,none⟩=some (F ao al co) /\
 V.cell? ⟨ab,0,none⟩=some (F (some ⟨nb,no,none⟩) nn nc)/\V.cell? ⟨nb,no+i,none⟩=some (E J nm)/\V.cell? ⟨b4+1+1+1,0,none⟩=some (F (some ⟨ub,uo,none⟩) un uc)/\V.cell? ⟨ub,uo+i,none⟩=some (F sa sn sc)/\b4+1+1+1<V.heap.size/\ab<V.heap.size
theorem Zqh{u:Value}{o:Nat}{k:IntKind}{x:Int}(h:#[u][o]? = some (.int k x))(z:∀ k x,u ≠ .int k x):False:=by
 rcases o with _|o
 ·simp at h;exact z _ _ h
 ·simp at h
theorem Ck{α : Type}(l:List α)(i:Nat)(h:i<l.length){d : α}:l.getD i d=l[i]:=by simp[List.getD,h]
def DsI(W0:World)(n1 b5 aa:Nat)(L:List TxD)(N:List Int)(S:List (List Zf))(C0:List Zf){m:Nat}(pre:List { i:Nat // i<m })(W:World):Prop:=
 KpD n1 b5 aa W0 W/\n1<=W.heap.size/\∃ C z O cc,Si L N S (pre.map (·.1)) C0=(0,C)/\W.heap[b5]? = some (dW #[F z O cc] 29 (0,0))/\CoinsAt W z O C/\SlOk z O cc/\W.heap[aa]? = some (dW #[E J 0] 30 (0,0))
def DsX(w:World)(n1 z O:Nat)(L:List TxD)(N:List Int)(S:List (List Zf))(C0:List Zf){m:Nat}(cd:Code)(pre:List { i:Nat // i<m })(W:World):Prop:=
 cd = .ret/\ZD w W/\n1<=W.heap.size/\∃ y M,y≠0/\Si L N S (pre.map (·.1)) C0=(y,M)/\W.heap[z]? = some (dW #[F none 0 0] 29 (0,0))/\W.heap[O]? = some (dW #[E J y] 30 (0,0))
theorem Zpc{W0}{n1 b5 O:Nat}{L N S C0}{m:Nat}(h5:b5<n1)(h11:O<n1):OwnFrom n1 (DsI W0 n1 b5 O L N S C0 (m:=m)):=by
 rintro pre W W' row ⟨k1,k2,C,ca,cn,cc,k3,k4,k5,k6,k7⟩ z hr;refine⟨k1.grown z (λr e=>(hr r e).1) k2,aT k2 z.size,C,ca,cn,cc,k3,?_,Ji (Rp z (λr e=>(hr r e).2)) k5,k6,?_⟩
 ·exact (z.block b5 (by omega) (λe=>by have:=(hr b5 e.symm).1;omega)).trans k4
 ·exact (z.block O (by omega) (λe=>by have:=(hr O e.symm).1;omega)).trans k7
theorem Zpb{w:World}{n1 z O:Nat}{L N S C0}{m:Nat}(hw:w.heap.size<=n1)(h8:z<n1)(h9:O<n1)(cd:Code):OwnFrom n1 (DsX w n1 z O L N S C0 (m:=m) cd):=by
 rintro pre W W' row ⟨k0,k1,k2,y,M,k3,k4,k5,k6⟩ hg hr;refine⟨k0,k1.grown hg (by omega) (λr e=>by have:=(hr r e).1;omega),aT k2 hg.size,y,M,k3,k4,?_,?_⟩
 ·exact (hg.block z (by omega) (λe=>by have:=(hr z e.symm).1;omega)).trans k5
 ·exact (hg.block O (by omega) (λe=>by have:=(hr O e.symm).1;omega)).trans k6
theorem Ny{B:Nat}{W W':World}(h:ZD W W'):KeepsFrom B W W':=(KeepsOthers.from ⟨h.size,λk _ z _=>(h.block k (aA z)).trans z⟩ B)
set_option maxRecDepth 100000 in
theorem Zmr(ka qg qi K la ln lc C0)(p h k0 n:Int)(a m c L ua uc S)(N:List Int)(x:Int)(C' w)(hE:Env w)(hK:Bk.TextsAt w ka qg K)(hC:CoinsAt w la ln C0)(sC:SlOk la ln lc)(hL:TxsAt w a m L)(hU:UndosAt w ua m S)(hm:m<=4)(fe:0<m)(it:nfD K C0 (p,h,k0,n,L)=(N,0))(gz:N.length=m)(hx:Jh L N S m C0=(x,C')) :
  Calls Tryz.prog 87 #[.agg #[F ka qg qi],F la ln lc,.agg #[E J p,E J h,E J k0,E J n,F a m c],F ua m uc] w λe w'=>RvR w w' x C' e:=by
 obtain⟨X,hX⟩:=ZG ((((((w.alloc (dW #[F ka qg qi] 24)).alloc (dW #[F la ln lc] 29)).alloc (dW #[E J p,E J h,E J k0,E J n,F a m c] 68)).alloc (dW #[F ua m uc] 79)).alloc (dW #[F none 0 0] 29)).alloc (dW #[E J 0] 30));obtain⟨cn,ig,x1,x2,x3,x4,x5,x6⟩:=Hd w _ _ _ _ _ _ X hX;have NF:=Zb (Tj ka qg qi K la ln lc C0 p h k0 n a m c L N 0 X (hE.later cn) (hK.later cn) (hC.later cn) (hL.later cn) it);have c1:=Zd (X:=[F ka qg qi]) x1 0 _ rfl;have c2:=Zd (X:=[F la ln lc]) x2 0 _ rfl;have lh:=Zd (X:=[E J p,E J h,E J k0,E J n,F a m c]) x3 0 _ rfl;have li:=Zd (X:=[E J p,E J h,E J k0,E J n,F a m c]) x3 1 _ rfl;have lj:=Zd (X:=[E J p,E J h,E J k0,E J n,F a m c]) x3 2 _ rfl;have lm:=Zd (X:=[E J p,E J h,E J k0,E J n,F a m c]) x3 3 _ rfl;have lp:=Zd (X:=[E J p,E J h,E J k0,E J n,F a m c]) x3 4 _ rfl;have c4:=Zd (X:=[F ua m uc]) x4 0 _ rfl;have nr:=aA x1;have nt:=aA x2;have nu:=aA x3;have nv:=aA x4;have ke:=Zb cn;have pe:=Zb x1;have kn:=Zb x2;have fz:=Zb x3;have ga:=Zb x4;have gb:=Zb x5;have gc:=Zb x6;have HE:=Zb hE;have HC:=Zb hC;have HL:=Zb hL;have HU:=Zb hU;have gd:=Zb hx;have cw:=Zb gz;have ko:=Zb ig;clear hE hK hC hL hU it hx gz cn x1 x2 x3 x4 x5 x6 ig;refine (callsIn_wide (n:=3)).1 ?_
 refine callsIn_of_wp_marks Tryz.func87 rfl trivial ?_ rfl;simp only[Tryz.ntmps87,List.size_toArray,dQ,List.length_nil,Nat.reduceAdd,Nat.reduceSub,Array.replicate_succ,Array.replicate_zero,List.push_toArray,List.append_toArray,dL,cG]
 gi_wp2_with fail
 rw[<-hX];clear hX;refine⟨trivial,(callsIn_wide.2 NF).mono ?_⟩;rintro e z ⟨qh,qd,qf,rfl,hN,pp,de⟩;obtain⟨Y,hY⟩:=ZG ((z.alloc (dW #[F qh qd qf] 25)).alloc (dW #[E J 0] 30));have fb:ZD z Y:=by rw[hY];exact Ze (Zg _ _) (Zg _ _)
 have ih:Y.heap.size=z.heap.size+1+1:=by rw[hY];simp
 have jw:Y.heap[z.heap.size]? = some (dW [F qh qd qf].toArray 25 (0,0)):=by
  rw[hY,Below.heap_alloc _ _ _ (by simp)];exact aK _ _
 have jx:Y.heap[z.heap.size+1]? = some (dW [E J 0].toArray 30 (0,0)):=by
  rw[hY];have:=aK (z.alloc (dW #[F qh qd qf] 25)) (dW #[E J 0] 30);rw[show (z.alloc (dW #[F qh qd qf] 25)).heap.size=z.heap.size+1 by simp] at this;exact this
 have ie:=Ze de fb;have TU:=Zb (El m Y fe hm);have d3:=ZE de fz;have lw:=Zd (X:=[E J p,E J h,E J k0,E J n,F a m c]) d3 4 _ rfl;have lx:=aA d3;have d4:=ZE de ga;have ly:=Zd (X:=[F ua m uc]) d4 0 _ rfl;have lz:=aA d4;have lv:w.heap.size+1<z.heap.size:=by omega
 have lu:w.heap.size<z.heap.size:=by omega
 have gm:((m:Int) != (m:Int))=false:=by simp
 have kq:=Zb ie;have kr:=Zb jw;have ks:=Zb jx;have HN:=Zb hN;have kf:=Zb fb;have kt:=Zb ih;have kj:=Zb de.size;clear hN de fb jw jx ie d3 d4 ih c1 c2 lh li lj lm lp c4 nr nt nu nv
 gi_wp2_with fail
 rw[<-hY];refine⟨trivial,(callsIn_wide.2 TU).mono ?_⟩;rintro e w2 ⟨rfl,hF⟩;have ez:ZD Y w2:=hF.bel;have im:=λi hi=>hF.cells (aE m) i hi;have gu:=hF.lt;obtain⟨W0,dd⟩:=ZG (w2.alloc (dW #[F (some ⟨Y.heap.size,0,none⟩) m m] 25));have ey:ZD w2 W0:=by rw[dd];exact Zg _ _
 have z0:W0.heap[w2.heap.size]? = some (dW [F (some ⟨Y.heap.size,0,none⟩) m m].toArray 25 (0,0)):=by rw[dd];exact aK _ _
 have pa:=Zb ez;have di:=Zb (Ze ez ey);have kh:Hid (∀ j,j<m->W0.cell? ⟨Y.heap.size,j,none⟩=some (E J (tvI m j))):=λj hj=>Zc ey (im j hj);have ku:=Zb z0;have id:W0.heap.size=w2.heap.size+1:=by rw[dd];simp
 have km:=Zb id;have ki:=Zb gu;have BW:=Zb (Lm (some ⟨Y.heap.size,0,none⟩) m m w2);clear hF ez im ey z0 gu hY id
 gi_wp2_with fail
 refine⟨trivial,(callsIn_wide.2 BW).mono ?_⟩;rintro e w3 ⟨rfl,rfl⟩;rw[<-dd];clear dd lw lx ly lz lv lu
 gi_wp2_with fail
 have ny:=Za kt;have nw:=Za km;have nx:=Za ko;have ns:=Za kj;have nj:=Za ki;have er:ZD X W0:=Ze kq di;have df:ZD w W0:=Ze ke er;have pd:=Zb df;have cj:=Zb er;have po:w.heap.size+6<W0.heap.size:=by omega
 have nh:w.heap.size+1<W0.heap.size:=by omega
 have nf:z.heap.size+1<W0.heap.size:=by omega
 have Z5:=Zb (ZE er kn);have lf:=Zb (ZE di ks);have q1:Y.heap.size<W0.heap.size:=by omega
 have q2:Y.heap.size≠w.heap.size+1:=by omega
 have q3:Y.heap.size≠z.heap.size+1:=by omega
 have q4:w2.heap.size<W0.heap.size:=by omega
 have q5:w2.heap.size≠w.heap.size+1:=by omega
 have q6:w2.heap.size≠z.heap.size+1:=by omega
 have q7:w.heap.size<=W0.heap.size:=by omega
 have q8:w.heap.size+1+1+1+1<W0.heap.size:=by omega
 have q9:w.heap.size+1+1+1+1+1<W0.heap.size:=by omega
 have jo:w.heap.size+1≠z.heap.size+1:=by omega
 have QS:=Zb (show w.heap.size+6<=z.heap.size/\z.heap.size+1<Y.heap.size/\Y.heap.size<w2.heap.size/\w2.heap.size<W0.heap.size by omega);clear ny nw nx ns nj
 refine wpIn_rangeFunc_ownG (α:={ i:Nat // i<m }) rfl (by decide) (gf:=134) (lb:=#[dZ (some ⟨w2.heap.size,0,none⟩)]) rfl trivial (enters_of Tryz.func134 (by kernel_rfl) rfl)
  (D7 Fence.wide (3 - 1) trivial rfl (by decide) w2.heap.size W0.heap.size (w.heap.size+1) (z.heap.size+1) Y.heap.size m m hm W0 rfl q1 q2 q3 q4 q5 q6 (Zd ku 0 _ rfl) kh)
  (λh k=>KpD.trans h k) (λW l o o' hl _ _ _=>KpD.put W l o' hl) (Below.refl _ _) (λ_=>rfl)
  (DsI W0 W0.heap.size (w.heap.size+1) (z.heap.size+1) L N S C0) (DsX w W0.heap.size (w.heap.size+1+1+1+1) (w.heap.size+1+1+1+1+1) L N S C0)
  (Zpc nh nf) (Zpb q7 q8 q9)
  ⟨KpD.refl _ _ _ _,aE _,C0,la,ln,lc,rfl,Za Z5,HC.later df,sC,Za lf⟩
  (λx=>{ tmps:=#[.agg #[F ka qg qi],F la ln lc,.agg #[E J p,E J h,E J k0,E J n,F a m c],F ua m uc,dZ (some ⟨w.heap.size,0,none⟩),dZ (some ⟨w.heap.size+1,0,none⟩),dZ (some ⟨w.heap.size+1+1,0,none⟩),dZ (some ⟨w.heap.size+1+1+1,0,none⟩),dZ (some ⟨w.heap.size+1+1+1+1,0,none⟩),dZ (some ⟨w.heap.size+1+1+1+1+1,0,none⟩),dZ (some ⟨z.heap.size,0,none⟩),dZ (some ⟨z.heap.size+1,0,none⟩),dP,E J (tvI m x.1),dY #[F qh qd qf,E J 0],.agg #[F ka qg qi],F la ln lc,.agg #[E J p,E J h,E J k0,E J n,F a m c],dY #[F qh qd qf,E J 0],F qh qd qf,E J 0,E J 0,eA false,dP,F ua m uc,E J m,dZ (some ⟨w.heap.size+1+1,4,none⟩),F a m c,E J m,eA false,dZ (some ⟨w.heap.size+1+1,4,none⟩),F a m c,E J m,F (some ⟨Y.heap.size,0,none⟩) m m,.func (.func 134) #[] #[dZ (some ⟨w2.heap.size,0,none⟩)],E J (x.1:Int),E J (tvI m x.1),dP,dP,dP,dP,dP,dP,dP,dP,dP,dP,dP,dP,dP,dP,dP,dP,dP,dP,dP,dP,dP,dP],defers:=[] }) ?assign ?body ?done ?stop
 case assign=>
  intro l x W K hK
  gi_wp2
  exact hK
 case body=>
  rintro l pre x W ⟨ar,ff,C,ca,qc,cc,hd,h5,cl,fk,h11⟩ _;obtain⟨j,hj⟩:=x;have cb:=Za QS;have ad:ZD w W:=ar.below df q7 (by omega) (by omega);obtain⟨i,hi⟩:=ZF ((j+1) % m);have fd:i<m:=hi ▸ Nat.mod_lt _ fe;have nz:tvI m j=(i:Int):=by unfold tvI;rw[hi]
  have zL:L.length=m:=HL.1;have zS:S.length=m:=HU.1;obtain⟨tb,fo,rfl,_,ja⟩:=HL.2 (by omega);obtain⟨ub,uo,rfl,_,jb⟩:=HU.2 (by omega);obtain⟨qe,no,rfl,gy⟩:=HN.2 (by rw[<-(Za HN).1,Za cw];exact fe);have jr:=ja i (by omega);have js:=jb i (by omega);have dx:=gy i (by rw[Za cw];exact fd);obtain⟨t,ht⟩:=ZF (L[i]);obtain⟨s,hs⟩:=ZF (S[i]);obtain⟨nm,iu⟩:∃ nm,N[i]'(by rw[Za cw];exact fd)=nm:=⟨_,rfl⟩;rw[ht] at jr;rw[hs] at js;rw[iu] at dx;obtain⟨t1,⟨ai,ni,ci,t2,gv,ox⟩,ao,dz,co,t3,ia,pw⟩:=jr;obtain⟨sa,sn,sc,u1,ib,px⟩:=js;obtain⟨⟨y,M⟩,iv⟩:=ZF (rvD C t nm s)
  have ip:At L N S j C=(y,M):=by
   unfold At;rw[zL,hi,Ck L i (by omega),ht,Ck N i (by rw[Za cw];exact fd),iu,Ck S i (by omega),hs];exact iv
  have iy:=Aw hd ip;have z6:=(ar.block (w.heap.size+1+1) (by omega) (by omega) (by omega)).trans (ZE cj fz);have z7:=(ar.block (w.heap.size+1+1+1) (by omega) (by omega) (by omega)).trans (ZE cj ga);have fq:=(ar.block z.heap.size (by omega) (by omega) (by omega)).trans (ZE di kr)
  have zn:qe≠w.heap.size+1/\qe≠z.heap.size+1/\W.cell? ⟨qe,no+i,none⟩=some (E J nm):=by
   have e:=Zc di (Zc kf dx);have pr:qe<z.heap.size:=aC _ _ dx
   have n5:qe≠w.heap.size+1:=by
    intro q;subst q;rw[cell_of_row W0 _ (no+i) #[F la ln lc] _ _ (Za Z5)] at e;exact Zqh e (λ_ _ q=>by cases q)
   have jm:qe≠z.heap.size+1:=(by omega);exact⟨n5,jm,ar.cell (by omega) n5 jm e⟩
  have RV:=Zb (λV (hv:ZD W V)=>Zhi ca qc cc C t.1 ai ao ni ci dz co t.2.1 t.2.2 nm sa sn sc s y M V (cl.later hv) fk ((gv.later ad).later hv) ((ia.later ad).later hv) ox ((ib.later ad).later hv) iv);have np:qe≠w.heap.size+1:=zn.1;have nn:qe≠z.heap.size+1:=zn.2.1;have py:=aC _ _ t1;have pz:=aC _ _ u1;have pj:w.heap.size<=W.heap.size:=ad.size
  have KS:Hid (∀ V:World,W.heap.size<=V.heap.size->(∀ k,k<W.heap.size->k≠w.heap.size+1->k≠z.heap.size+1->V.heap[k]? = W.heap[k]?)->SDs w.heap.size z.heap.size tb fo m c ub uo m uc qe no qd qf i t.1 ai ni ci ao dz co nm sa sn sc V):=by
   intro V jc hv;have g:∀ k o v,k≠w.heap.size+1->k≠z.heap.size+1->W.cell? ⟨k,o,none⟩=some v->V.cell? ⟨k,o,none⟩=some v:=λk o v h1 h2 hc=>(cR (a:=⟨k,o,none⟩) (hv k (aC _ _ hc) h1 h2)).trans hc;exact⟨g _ _ _ (by omega) (by omega) (Zd (X:=[E J p,E J h,E J k0,E J n,F (some ⟨tb,fo,none⟩) m c]) z6 4 _ rfl),g _ _ _ (by omega) (by omega) (Zc ad t1),g _ _ _ (by omega) (by omega) (Zc ad t2),g _ _ _ (by omega) (by omega) (Zc ad t3),g _ _ _ (by omega) (by omega) (Zd (X:=[F (some ⟨qe,no,none⟩) qd qf]) fq 0 _ rfl),g _ _ _ np nn zn.2.2,g _ _ _ (by omega) (by omega) (Zd (X:=[F (some ⟨ub,uo,none⟩) m uc]) z7 0 _ rfl),g _ _ _ (by omega) (by omega) (Zc ad u1),aI (aA z7) jc,aI (aA fq) jc⟩
  have pu:qd=m:=by rw[<-Za cw];exact HN.1.symm
  have pm:(i:Int)<(m:Int):=by omega
  have pk:(0:Int)<=(i:Int):=by omega
  have pn:(i:Int)<(qd:Int):=by omega
  dsimp only;rw[nz];clear ja jb gy gv ia ib t1 t2 t3 u1 z6 z7 fq zn ip dx hi
  gi_wp2_with fail
  have na:=Zd (X:=[F ca qc cc]) h5 0 _ rfl;have oa:=aA h5;have H5:=Zb h5;have kc:=Zb h11;have ek:=Zb ar;have pb:=Zb cl;clear ar cl h11 h5 cb;refine Rg (S:=SDs w.heap.size z.heap.size tb fo m c ub uo m uc qe no qd qf i t.1 ai ni ci ao dz co nm sa sn sc) (by kernel_rfl) (by kernel_rfl) (KS _ (aE _) (λ_ _ _ _=>rfl)) (λO=>?_);refine Zt 1 ⟨some 39,.fieldAddr 68 (.tmp 6) 4,0, "connect.go:39",#[],none⟩ ?_ rfl ?_ O ?_;rotate_left
  ·(intro V aa;obtain⟨s1,s2,s3,s4,s5,s6,s7,s8,s9,av⟩:=aa;go_simp;first|done|with_reducible rfl)
  (try simp only[aH,ZA,ZB,ZC]);refine Zt 2 ⟨some 40,.load 48 (.tmp 39),48, "connect.go:39",#[⟨1,.data⟩],none⟩ ?_ rfl ?_ O ?_;rotate_left
  ·(intro V aa;obtain⟨s1,s2,s3,s4,s5,s6,s7,s8,s9,av⟩:=aa;go_simp;first|done|with_reducible rfl)
  (try simp only[aH,ZA,ZB,ZC]);refine Zt 3 ⟨some 41,.move (.tmp 13),3, "connect.go:39",#[],none⟩ ?_ rfl ?_ O ?_;rotate_left
  ·(intro V aa;obtain⟨s1,s2,s3,s4,s5,s6,s7,s8,s9,av⟩:=aa;go_simp;first|done|with_reducible rfl)
  (try simp only[aH,ZA,ZB,ZC]);refine Zt 4 ⟨some 42,.indexAddr 48 (.tmp 40) (.tmp 41),0, "connect.go:39",#[⟨2,.data⟩,⟨3,.data⟩],none⟩ ?_ rfl ?_ O ?_;rotate_left
  ·(intro V aa;obtain⟨s1,s2,s3,s4,s5,s6,s7,s8,s9,av⟩:=aa;go_simp;first|done|with_reducible rfl)
  (try simp only[aH,ZA,ZB,ZC]);refine Zt 5 ⟨some 43,.load 52 (.tmp 42),52, "connect.go:39",#[⟨4,.data⟩],none⟩ ?_ rfl ?_ O ?_;rotate_left
  ·(intro V aa;obtain⟨s1,s2,s3,s4,s5,s6,s7,s8,s9,av⟩:=aa;go_simp;first|done|with_reducible rfl)
  (try simp only[aH,ZA,ZB,ZC]);refine Zt 6 ⟨some 44,.load 25 (.tmp 10),25, "connect.go:39",#[],none⟩ ?_ rfl ?_ O ?_;rotate_left
  ·(intro V aa;obtain⟨s1,s2,s3,s4,s5,s6,s7,s8,s9,av⟩:=aa;go_simp;first|done|with_reducible rfl)
  (try simp only[aH,ZA,ZB,ZC]);refine Zt 7 ⟨some 45,.move (.tmp 13),3, "connect.go:39",#[],none⟩ ?_ rfl ?_ O ?_;rotate_left
  ·(intro V aa;obtain⟨s1,s2,s3,s4,s5,s6,s7,s8,s9,av⟩:=aa;go_simp;first|done|with_reducible rfl)
  (try simp only[aH,ZA,ZB,ZC]);refine Zt 8 ⟨some 46,.indexAddr 25 (.tmp 44) (.tmp 45),0, "connect.go:39",#[⟨6,.data⟩,⟨7,.data⟩],none⟩ ?_ rfl ?_ O ?_;rotate_left
  ·(intro V aa;obtain⟨s1,s2,s3,s4,s5,s6,s7,s8,s9,av⟩:=aa;go_simp;first|done|with_reducible rfl)
  (try simp only[aH,ZA,ZB,ZC]);refine Zt 9 ⟨some 47,.load 3 (.tmp 46),3, "connect.go:39",#[⟨8,.data⟩],none⟩ ?_ rfl ?_ O ?_;rotate_left
  ·(intro V aa;obtain⟨s1,s2,s3,s4,s5,s6,s7,s8,s9,av⟩:=aa;go_simp;first|done|with_reducible rfl)
  (try simp only[aH,ZA,ZB,ZC]);refine Zt 10 ⟨some 48,.load 79 (.tmp 7),79, "connect.go:39",#[],none⟩ ?_ rfl ?_ O ?_;rotate_left
  ·(intro V aa;obtain⟨s1,s2,s3,s4,s5,s6,s7,s8,s9,av⟩:=aa;go_simp;first|done|with_reducible rfl)
  (try simp only[aH,ZA,ZB,ZC]);refine Zt 11 ⟨some 49,.move (.tmp 13),3, "connect.go:39",#[],none⟩ ?_ rfl ?_ O ?_;rotate_left
  ·(intro V aa;obtain⟨s1,s2,s3,s4,s5,s6,s7,s8,s9,av⟩:=aa;go_simp;first|done|with_reducible rfl)
  (try simp only[aH,ZA,ZB,ZC]);refine Zt 12 ⟨some 50,.indexAddr 79 (.tmp 48) (.tmp 49),0, "connect.go:39",#[⟨10,.data⟩,⟨11,.data⟩],none⟩ ?_ rfl ?_ O ?_;rotate_left
  ·(intro V aa;obtain⟨s1,s2,s3,s4,s5,s6,s7,s8,s9,av⟩:=aa;go_simp;first|done|with_reducible rfl)
  (try simp only[aH,ZA,ZB,ZC]);refine Zt 13 ⟨some 51,.load 130 (.tmp 50),130, "connect.go:39",#[⟨12,.data⟩],none⟩ ?_ rfl ?_ O ?_;rotate_left
  ·(intro V aa;obtain⟨s1,s2,s3,s4,s5,s6,s7,s8,s9,av⟩:=aa;go_simp;first|done|with_reducible rfl)
  (try simp only[aH,ZA,ZB,ZC]);refine bJ (rs:=[0]) (by kernel_rfl) (by simp) ?_;refine AllReadyH.cons (o:=⟨some 38,.load 29 (.tmp 5),29, "connect.go:39",#[],none⟩) rfl (λK0 hK=>?_) AllReadyH.nil;go_simp;refine hK.out _ _ (KS _ (aE _) (λ_ _ _ _=>rfl)) (λae=>?_);clear hK K0 O;have O:=ae;clear ae;(try simp only[aH,ZA,ZB,ZC]);refine bJ (rs:=[14]) (by kernel_rfl) (by simp) ?_;refine AllReadyH.cons (o:=⟨some 52,.call { callee:=Callee.value (.func 135),args:=#[.tmp 38,.tmp 43,.tmp 47,.tmp 51],argTypes:=#[29,52,3,130] },31, "connect.go:39",#[⟨0,.data⟩,⟨5,.data⟩,⟨9,.data⟩,⟨13,.data⟩],none⟩) rfl (λK0 hK=>?_) AllReadyH.nil;refine Yr (by kernel_rfl) 135 #[F ca qc cc,.agg #[E J t.1,F ai ni ci,F ao dz co],E J nm,.agg #[F sa sn sc]] (by kernel_rfl) (RV _ (Zh _)) ?_;rintro e V1 ⟨am,an,ac,rfl,hM,sM,ii⟩;refine⟨_,rfl,?_⟩;have af:ZD W V1:=Ze (Zh W) ii;have v5:=ZE af H5;have jt:=ZE af kc;refine hK.out _ _ (KS _ af.size (λk hk _ _=>af.block k hk)) (λae=>?_);clear hK K0 O;have O:=ae;clear ae;(try simp only[aH,ZA,ZB,ZC]);refine Zt 15 ⟨some 37,.move (.tmp 52),31, "connect.go:39",#[⟨14,.data⟩],none⟩ ?_ rfl ?_ O ?_;rotate_left
  ·(intro V aa;go_simp;first|done|with_reducible rfl)
  (try simp only[aH,ZA,ZB,ZC]);refine Zt 16 ⟨some 53,.extract (.tmp 37) 0,29, "connect.go:39",#[⟨15,.data⟩],none⟩ ?_ rfl ?_ O ?_;rotate_left
  ·(intro V aa;go_simp;first|done|with_reducible rfl)
  (try simp only[aH,ZA,ZB,ZC]);refine Zt 17 ⟨some 54,.extract (.tmp 37) 1,30, "connect.go:39",#[⟨15,.data⟩,⟨18,.gcOnly .lateStores⟩],none⟩ ?_ rfl ?_ O ?_;rotate_left
  ·(intro V aa;go_simp;first|done|with_reducible rfl)
  (try simp only[aH,ZA,ZB,ZC]);have ls:=Zd (X:=[F ca qc cc]) v5 0 _ rfl;have nc:=Zi v5 0;have oc:=aA v5;obtain⟨V2,db⟩:=ZG (V1.setCell ⟨w.heap.size+1,0,none⟩ (F am an ac));have ju:V2.heap[w.heap.size+1]? = some (dW #[F am an ac] 29 (0,0)):=by rw[db];exact Yz v5
  have aq:Gr V1 V2 (λq=>q=w.heap.size+1):=by rw[db];exact (Gr.refl V1 (λq=>q=w.heap.size+1)).set (p:=⟨w.heap.size+1,0,none⟩) (.inl rfl) _
  have jg:KeepsOthers W V2:=by
   rw[db];exact KeepsOthers.trans ⟨af.size,λk _ hk _=>(af.block k (aA hk)).trans hk⟩ (cA _ _ _)
  have ct:V2.heap[z.heap.size+1]? = some (dW #[E J 0] 30 (0,0)):=aq.heap jt (λq=>jo q.symm);refine bJ (rs:=[18]) (by kernel_rfl) (by simp) ?_;refine AllReadyH.cons (o:=⟨none,.store 29 (.tmp 5) (.tmp 53),0, "connect.go:39",#[⟨16,.data⟩,⟨14,.chain⟩,⟨0,.phase⟩,⟨1,.phase⟩,⟨2,.phase⟩,⟨3,.phase⟩,⟨4,.phase⟩,⟨5,.phase⟩,⟨6,.phase⟩,⟨7,.phase⟩,⟨8,.phase⟩,⟨9,.phase⟩,⟨10,.phase⟩,⟨11,.phase⟩,⟨12,.phase⟩,⟨13,.phase⟩,⟨14,.phase⟩,⟨15,.phase⟩,⟨16,.phase⟩,⟨17,.textOnly .lateStores⟩],none⟩) rfl (λK0 hK=>?_) AllReadyH.nil;go_simp;rw[<-db];clear db ls nc oc;refine hK.out _ _ (KS _ (aT af.size aq.size) (λk hk h1 h2=>(aq.block k (aI hk af.size) h1).trans (af.block k hk))) (λae=>?_);clear hK K0 O;have O:=ae;clear ae;(try simp only[aH,ZA,ZB,ZC]);have lr:=Zd (X:=[E J 0]) ct 0 _ rfl;have nb:=Zi ct 0;have ob:=aA ct;obtain⟨V3,dc⟩:=ZG (V2.setCell ⟨z.heap.size+1,0,none⟩ (E J y));have ee:V3.heap[z.heap.size+1]? = some (dW #[E J y] 30 (0,0)):=by rw[dc];exact Yz ct
  have br:Gr V2 V3 (λq=>q=z.heap.size+1):=by rw[dc];exact (Gr.refl V2 (λq=>q=z.heap.size+1)).set (p:=⟨z.heap.size+1,0,none⟩) (.inl rfl) _
  have jv:=br.heap ju jo
  have qk:KeepsOthers W V3:=by
   rw[dc];exact jg.trans (cA _ _ _)
  refine bJ (rs:=[19]) (by kernel_rfl) (by simp) ?_;refine AllReadyH.cons (o:=⟨none,.store 30 (.tmp 11) (.tmp 54),0, "connect.go:39",#[⟨17,.data⟩,⟨18,.chain⟩,⟨0,.phase⟩,⟨1,.phase⟩,⟨2,.phase⟩,⟨3,.phase⟩,⟨4,.phase⟩,⟨5,.phase⟩,⟨6,.phase⟩,⟨7,.phase⟩,⟨8,.phase⟩,⟨9,.phase⟩,⟨10,.phase⟩,⟨11,.phase⟩,⟨12,.phase⟩,⟨13,.phase⟩,⟨14,.phase⟩,⟨15,.phase⟩,⟨16,.phase⟩,⟨17,.phase⟩,⟨18,.phase⟩],none⟩) rfl (λK0 hK=>?_) AllReadyH.nil;go_simp;rw[<-dc];clear dc lr nb ob;have dv:W.heap.size<=V3.heap.size:=aT af.size (aT aq.size br.size);have fc:∀ k,k<W.heap.size->k≠w.heap.size+1->k≠z.heap.size+1->V3.heap[k]? = W.heap[k]?:=λk hk h1 h2=>(br.block k (aI hk (aT af.size aq.size)) h2).trans ((aq.block k (aI hk af.size) h1).trans (af.block k hk));refine hK.out _ _ (KS _ dv fc) (λae=>?_);clear hK K0 O;have O:=ae;clear ae;(try simp only[aH,ZA,ZB,ZC]);refine wpAnyH_done (by kernel_rfl) ⟨by simp,?_⟩ _;clear O;have fj:KpD W0.heap.size (w.heap.size+1) (z.heap.size+1) W V3:=⟨br.os.trans (aq.os.trans af.os),br.tape.trans (aq.tape.trans af.tape),br.output.trans (aq.output.trans af.output),dv,λk hk h1 h2=>fc k (by omega) h1 h2⟩;have io:CoinsAt V3 am an M:=Vw (S:=λq=>q=z.heap.size+1) br.size br.block (λk e=>by subst e;exact⟨_,_,_,ct⟩) (Vw (S:=λq=>q=w.heap.size+1) aq.size aq.block (λk e=>by subst e;exact⟨_,_,_,v5⟩) hM);have c3:=Zd (X:=[E J y]) ee 0 _ rfl;have l3:=aA ee;have eo:=Zb fj;have KO:=Zb qk
  have kb:=Zb io;have le:=Zb jv;have gh:=Zb ee;have fw:=Zb iy;have fx:=Zb (aT ff dv);have dj:Hid (ZD w V3):=(ek.trans fj).below df q7 (by omega) (by have:=Za QS;omega);clear fj qk jg io jv ju ct ee v5 jt aq br fc dv af ii hM iy na oa;by_cases hy:y=0
  ·subst hy
   gi_wp2
   refine⟨KO.from _,Za eo,ek.trans eo,Za fx,M,am,an,ac,?_,Za le,Za kb,sM,Za gh⟩;rw[bW];have e:=Za fw;rw[if_neg (by decide)] at e;exact e
  ·have qm:(y != 0)=true:=by simp[hy]
   gi_wp2_with fail
   have cb:=Za QS;have qj:=ek.trans eo;have v8:=(qj.block (w.heap.size+1+1+1+1) (by omega) (by omega) (by omega)).trans (ZE cj gb);have v9:=(qj.block (w.heap.size+1+1+1+1+1) (by omega) (by omega) (by omega)).trans (ZE cj gc);have dw:¬w.heap.size+1+1+1+1=w.heap.size+1+1+1+1+1:=(by omega);have od:¬z.heap.size+1=w.heap.size+1+1+1+1:=(by omega);have oe:¬z.heap.size+1=w.heap.size+1+1+1+1+1:=(by omega);refine Rg (S:=λV=>V.cell? ⟨z.heap.size+1,0,none⟩=some (E J y)/\z.heap.size+1<V.heap.size) (by kernel_rfl) (by kernel_rfl) ⟨c3,l3⟩ (λO=>?_);obtain⟨VD,ev⟩:=ZG (V3.drew);rw[<-ev] at O ⊢;have bh:ZD V3 VD:=(by rw[ev];exact Zh _);have d8:=ZE bh v8;have d9:=ZE bh v9;have gn:=ZE bh gh;clear ev v8 v9 c3 l3 qj cb;refine Zt 0 ⟨some 57,.load 30 (.tmp 11),30, "connect.go:40",#[],none⟩ ?_ rfl ?_ O ?_;rotate_left
   ·(intro V aa;obtain⟨s1,s2⟩:=aa;go_simp;first|done|with_reducible rfl)
   (try simp only[aH,ZA,ZB,ZC]);have c8:=Zd (X:=[F none 0 0]) d8 0 _ rfl;have f8:=Zi d8 0;have l8:=aA d8;obtain⟨V4,bf⟩:=ZG (VD.setCell ⟨w.heap.size+1+1+1+1,0,none⟩ (F none 0 0));have g4:Gr VD V4 (λq=>q=w.heap.size+1+1+1+1):=(by rw[bf];exact (Gr.refl VD (λq=>q=w.heap.size+1+1+1+1)).set (p:=⟨w.heap.size+1+1+1+1,0,none⟩) (.inl rfl) _);have e8:V4.heap[w.heap.size+1+1+1+1]? = some (dW #[F none 0 0] 29 (0,0)):=(by rw[bf];exact Yz d8);have e9:=g4.heap d9 (λq=>dw q.symm);have du:=g4.heap gn od
   have jh:KeepsOthers W V4:=by
    rw[bf];exact (KO.trans ⟨bh.size,λk _ hk _=>(bh.block k (aA hk)).trans hk⟩).trans (cA _ _ _)
   refine bJ (rs:=[1]) (by kernel_rfl) (by simp) ?_;refine AllReadyH.cons (o:=⟨none,.store 29 (.tmp 8) (.const (Value.slice none 0 0)),0, "connect.go:40",#[⟨0,.textOnly .inlinedCapture⟩],none⟩) rfl (λK0 hK=>?_) AllReadyH.nil;go_simp;rw[<-bf];clear bf c8 f8 l8;refine hK.out _ _ ⟨Zd (X:=[E J y]) du 0 _ rfl,aA du⟩ (λae=>?_);clear hK K0 O;have O:=ae;clear ae;(try simp only[aH,ZA,ZB,ZC]);have c9:=Zd (X:=[E J 0]) e9 0 _ rfl;have f9:=Zi e9 0;have l9:=aA e9;obtain⟨V5,bg⟩:=ZG (V4.setCell ⟨w.heap.size+1+1+1+1+1,0,none⟩ (E J y));have g5:Gr V4 V5 (λq=>q=w.heap.size+1+1+1+1+1):=(by rw[bg];exact (Gr.refl V4 (λq=>q=w.heap.size+1+1+1+1+1)).set (p:=⟨w.heap.size+1+1+1+1+1,0,none⟩) (.inl rfl) _);have k9:V5.heap[w.heap.size+1+1+1+1+1]? = some (dW #[E J y] 30 (0,0)):=(by rw[bg];exact Yz e9);have k8:=g5.heap e8 dw;have fg:=g5.heap du oe
   have ji:KeepsOthers W V5:=by
    rw[bg];exact jh.trans (cA _ _ _)
   refine bJ (rs:=[2]) (by kernel_rfl) (by simp) ?_;refine AllReadyH.cons (o:=⟨none,.store 30 (.tmp 9) (.tmp 57),0, "connect.go:40",#[⟨0,.data⟩,⟨1,.chain⟩,⟨0,.phase⟩,⟨1,.phase⟩],none⟩) rfl (λK0 hK=>?_) AllReadyH.nil;go_simp;rw[<-bg];clear bg c9 f9 l9;refine hK.out _ _ ⟨Zd (X:=[E J y]) fg 0 _ rfl,aA fg⟩ (λae=>?_);clear hK K0 O;have O:=ae;clear ae;(try simp only[aH,ZA,ZB,ZC]);refine wpAnyH_done (by kernel_rfl) ⟨by simp,?_⟩ _;clear O;have bv:ZD w V5:=g5.below (g4.below (Ze dj bh) (Ze dj bh).size (λk q=>by omega)) (g4.below (Ze dj bh) (Ze dj bh).size (λk q=>by omega)).size (λk q=>by omega);have ix:W0.heap.size<=V5.heap.size:=aT fx (aT bh.size (aT g4.size g5.size));have ky:=Zb ji;have KB:=Zb bv;have kz:=Zb ix;have K8:=Zb k8;have K9:=Zb k9;clear ji jh bv ix k8 k9 fg e8 e9 du d8 d9 gn g4 g5 bh
   gi_wp2
   refine⟨ky.from _,rfl,Za KB,Za kz,y,[],hy,?_,Za K8,Za K9⟩;rw[bW];have e:=Za fw;rw[if_pos hy] at e;exact e
 case done=>
  rintro D ys W hD rfl ⟨ar,ff,C,ca,qc,cc,hd,h5,cl,fk,h11⟩ hK;have cb:=Za QS;have cd:=Za gd;rw[Pp,Zgi,hd] at cd;obtain⟨rfl,rfl⟩:=Prod.mk.inj cd;have v8:=(ar.block (w.heap.size+1+1+1+1) (by omega) (by omega) (by omega)).trans (ZE cj gb);have v9:=(ar.block (w.heap.size+1+1+1+1+1) (by omega) (by omega) (by omega)).trans (ZE cj gc);have ad:ZD w W:=ar.below df q7 (by omega) (by omega);have dw:¬w.heap.size+1+1+1+1=w.heap.size+1+1+1+1+1:=by omega
  have og:¬w.heap.size+1+1+1+1+1=w.heap.size+1+1+1+1:=by omega
  have c5:=Zd (X:=[F ca qc cc]) h5 0 _ rfl;have l5:=aA h5;have c8:=Zd (X:=[F none 0 0]) v8 0 _ rfl;have f8:=Zi v8 0;have l8:=aA v8;obtain⟨V4,bf⟩:=ZG (W.setCell ⟨w.heap.size+1+1+1+1,0,none⟩ (F ca qc cc));have g4:Gr W V4 (λq=>q=w.heap.size+1+1+1+1):=by rw[bf];exact (Gr.refl W (λq=>q=w.heap.size+1+1+1+1)).set (p:=⟨w.heap.size+1+1+1+1,0,none⟩) (.inl rfl) _
  have e8:V4.heap[w.heap.size+1+1+1+1]? = some (dW #[F ca qc cc] 29 (0,0)):=by rw[bf];exact Yz v8
  have e9:=g4.heap v9 og;have je:V4.heap[D]? = some (.deferred (some [])):=by rw[bf];exact (cA W _ _).same D _ hK rfl
  have c9:=Zd (X:=[E J 0]) v9 0 _ rfl;have f9:=Zi v9 0;have l9:=aA v9;obtain⟨V5,bg⟩:=ZG (V4.setCell ⟨w.heap.size+1+1+1+1+1,0,none⟩ (E J 0));have g5:Gr V4 V5 (λq=>q=w.heap.size+1+1+1+1+1):=by rw[bg];exact (Gr.refl V4 (λq=>q=w.heap.size+1+1+1+1+1)).set (p:=⟨w.heap.size+1+1+1+1+1,0,none⟩) (.inl rfl) _
  have k9:V5.heap[w.heap.size+1+1+1+1+1]? = some (dW #[E J 0] 30 (0,0)):=by rw[bg];exact Yz e9
  have k8:=g5.heap e8 dw;have fh:V5.heap[D]? = some (.deferred (some [])):=by rw[bg];exact (cA V4 _ _).same D _ je rfl
  have fa:ZD w V5:=g5.below (g4.below ad ad.size (λk q=>by omega)) (g4.below ad ad.size (λk q=>by omega)).size (λk q=>by omega);have ik:CoinsAt V5 ca qc C:=Vw (S:=λq=>q=w.heap.size+1+1+1+1+1) g5.size g5.block (λk e=>by subst e;exact⟨_,_,_,e9⟩) (Vw (S:=λq=>q=w.heap.size+1+1+1+1) g4.size g4.block (λk e=>by subst e;exact⟨_,_,_,v8⟩) cl);have gp:=grownBy_putObj' V5 D (.deferred none);have bw:∀ r,(some D:Option Nat)=some r->∃ o:Obj,V5.heap[r]? = some o/\o.isCells=false:=λr e=>by cases e;exact⟨_,fh,rfl⟩
  have il:=Ji (Rp gp bw) ik;have bv:ZD w (V5.putObj D (.deferred none)):=fa.grown gp fa.size (λk e=>by cases e;omega);have z8:=cell_kept (Zd (X:=[F ca qc cc]) k8 0 _ rfl) gp bw;have z9:=cell_kept (Zd (X:=[E J 0]) k9 0 _ rfl) gp bw;have HF:Hid (RvR w (V5.putObj D (.deferred none)) 0 C (dX (dY #[F ca qc cc,E J 0]))):=⟨ca,qc,cc,rfl,il,fk,bv⟩;have KD:=Zb fh;clear il bv ik fa k8 k9 e8 je fh cl ar h5 h11 ad v8 e9 g4 g5 hK cb hd gp bw cd;have kk:=Zb bf;have kl:=Zb bg;clear bf bg v9
  gi_wp2
  rw[<-Za kk,<-Za kl];refine⟨by simp,.inl ⟨_,_,rfl,run_takeDeferred KD,?_⟩⟩;refine⟨dY #[F ca qc cc,E J 0],?_,Za HF⟩;simp[results,Tryz.f87,go_sem,z8,z9]
 case stop=>
  rintro D ql pre W hD ⟨k,hk,rfl⟩ ⟨rfl,ad,ff,y,M,hy,hd,h8,h9⟩ hK;have cd:=Za gd;rw[Pp,Gw m k hk,Zbw hd hy] at cd;obtain⟨rfl,rfl⟩:=Prod.mk.inj cd;have cb:=Za QS;have gp:=grownBy_putObj' W D (.deferred none);have bw:∀ r,(some D:Option Nat)=some r->∃ o:Obj,W.heap[r]? = some o/\o.isCells=false:=λr e=>by cases e;exact⟨_,hK,rfl⟩
  have bv:ZD w (W.putObj D (.deferred none)):=ad.grown gp ad.size (λk e=>by cases e;omega);have z8:=cell_kept (Zd (X:=[F none 0 0]) h8 0 _ rfl) gp bw;have z9:=cell_kept (Zd (X:=[E J y]) h9 0 _ rfl) gp bw;have HF:Hid (RvR w (W.putObj D (.deferred none)) y [] (dX (dY #[F none 0 0,E J y]))):=Wl rfl bv;have KD:=Zb hK;clear bv ad hd hK gp bw cd h8 h9 cb
  gi_wp2
  refine⟨by simp,.inl ⟨_,_,rfl,run_takeDeferred KD,?_⟩⟩;refine⟨dY #[F none 0 0,E J y],?_,Za HF⟩;simp[results,Tryz.f87,go_sem,z8,z9]
