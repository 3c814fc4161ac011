import Derived.Test.YtmomfkikogbdeaaGreatDoorH
import Derived.Test.YtmomfkikogbdeaaGreatDoorG44
open Go renaming lt_of_block->aA,heap_alloc_new->aH,bodyPost_ret->aW
open Go.Ending renaming returned->dA
open Go.IntKind renaming i64->J
open Go.Obj renaming cells->cZ
open Go.Proofs.Tryz renaming prog->aB
open Go.Value renaming int->E,slice->F,tuple->dB
open List renaming getElem_mem->aQ,replicate->bB
open Nat renaming zero_le->aL,le_refl->aF,le_of_eq->bL
open Prod renaming fst->bI
set_option maxHeartbeats 12800000
set_option maxRecDepth 10000
namespace Go.Proofs.YtmomfkikogbdeaaGreatDoor
theorem Zbg(l):chk l≠5:=by
 unfold chk;split
 ·decide
 ·induction l with
  | nil=>rw[U8];decide
  | cons o r ih=>
   rw[U8];split
   ·exact ih (by rename_i q _;simp at q;omega)
   ·unfold Xy;split
    ·decide
    split <;> decide
theorem Sn(L):Z4 L≠5:=by
 unfold Z4;split
 ·decide
 ·have:∀ (L:List Zj) p s,Y7 p s L≠5:=by
   intro L
   induction L with
   | nil=>intro p s;rw[Y7];decide
   | cons c L ih=>
    intro p s;rw[Y7];unfold ck1;have:=Zbg (ck c)
    repeat' split
    all_goals first|exact ih _ _|assumption|decide|omega
  exact this _ _ _
theorem n5_tx(t):Zu t≠5:=by
 have h1:∀ (l p:List InD),Ya p l≠5:=by
  intro l
  induction l with
  | nil=>intro p;rw[Ya];decide
  | cons x r ih=>
   intro p;rw[Ya];unfold Wf;have:=Zbg x.2.2
   repeat' split
   all_goals first|exact ih _|assumption|decide|omega
 have h2:∀ l:List Zy,Yi l≠5:=by
  intro l
  induction l with
  | nil=>rw[Yi];decide
  | cons x r ih=>
   rw[Yi];unfold Xa;have:=Zbg x.2
   repeat' split
   all_goals first|exact ih|assumption|decide|omega
 have h3:∀ (l:List Int) s,(sm s l).2≠5:=by
  intro l
  induction l with
  | nil=>intro s;rw[sm];simp
  | cons x r ih=>
   intro s;rw[sm]
   repeat' split
   all_goals first|exact ih _|decide
 unfold Zu Yq;have z:=h1 t.2.1 [];have Q:=h2 t.2.2;have a3:=h3 (t.2.2.map (·.1)) 0
 repeat' split
 all_goals first|assumption|decide
theorem n5_ap(C t)(n h:Int):(apD C t n h).1≠5:=by
 have h1:∀ (l:List InD) S L,(Zr h l S L).1≠5:=by
  intro l
  induction l with
  | nil=>intro S L;rw[Zr];simp
  | cons x r ih=>
   intro S L;rw[Zr]
   repeat' split
   all_goals first|exact ih _ _|decide
 have h2:∀ (l:List Zy) i r L,(Z8 n h r i l L).1≠5:=by
  intro l
  induction l with
  | nil=>intro i r L;rw[Z8];simp
  | cons x q ih=>
   intro i r L;rw[Z8];split
   ·decide
   ·exact ih _ _ _
 have z:=h1 t.2.1 [] C;have Q:=h2 t.2.2 0 (isR t) (Zr h t.2.1 [] C).2.2;have a3:=Sn (Z8 n h (isR t) 0 t.2.2 (Zr h t.2.1 [] C).2.2).2
 have a4:Wo C t n h≠5:=by
  unfold Wo Vp;have:=Sn C;have:=n5_tx t
  repeat' split
  all_goals first|assumption|decide
 have a5:Mw (Zr h t.2.1 [] C).2.1 t≠5:=by
  unfold Mw;split <;> decide
 unfold apD
 repeat' split
 all_goals first|assumption|simp
theorem Zea(K):Bk.bkChk K≠5:=by
 unfold Bk.bkChk;split
 ·decide
 ·have:∀ L s:List ByteArray,Bk.bkGo s L≠5:=by
   intro L
   induction L with
   | nil=>intro s;rw[Bk.bkGo];decide
   | cons c L ih=>
    intro s;rw[Bk.bkGo]
    repeat' split
    all_goals first|exact ih _|decide
  exact this _ _
theorem Zkr(K)(b:Zl)(h:Yk b=0):(Xl K b).2.2.2≠5:=by
 have h1:∀ (l L:List ByteArray) N,(Bk.nmGo L N l).2.2≠5:=by
  intro l
  induction l with
  | nil=>intro L N;rw[Bk.nmGo];simp
  | cons x r ih=>
   intro L N;rw[Bk.nmGo];split
   ·exact ih _ _
   ·unfold Bk.nm
    repeat' split
    all_goals simp
 have z:=h1 (Yf b) K [];have Q:=Zea K
 have a3:(Bk.allR K (Yf b)).2.2≠5:=by
  unfold Bk.allR;split
  ·exact z
  ·exact Q
 unfold Xl;rw[if_neg (λq=>q h)];split
 ·exact a3
 ·simp
theorem Zrj(K C)(b:Zl)(h:Yk b=0):(Vd K C b).1≠5:=by
 have h1:∀ (h r:Int) T N (q k:Nat) C S,(Xo h r T N q k C S).1≠5:=by
  intro h r T N q
  induction q with
  | zero=>intro k C S;rw[Xo];simp
  | succ q ih=>
   intro k C S;rw[Xo];have:=n5_ap C (T.getD ((k+1) % T.length) Yz) (N.getD ((k+1) % T.length) 0) h
   repeat' split
   all_goals first|exact ih _ _ _|assumption|decide
 have z:(nfD K C b).2≠5:=by
  unfold nfD;split
  ·exact Sn C
  ·exact Zkr K b h
 unfold Vd;split
 ·exact z
 ·exact h1 _ _ _ _ _ _ _ _
theorem Zob{K N T P}{tip:Int}{b:Zl}(hc:Tr.chkTr N T=0)(z:Yk b=0)(β : Int->List Zj)(h:(tkR ⟨K,N,T,P,tip,β⟩ b).1=5):nmE b.1=0:=by
 by_cases h0:b.1=0
 ·exfalso
  revert h
  unfold tkR;simp only;obtain⟨⟨Q,s,Ns,x1⟩,h1⟩:=ZF (Xl K b);obtain⟨⟨N1,T1,x2⟩,h2⟩:=ZF (Tr.addE N T s b);have a1:=Zkr K b z;rw[h1] at a1 ⊢;simp only[h2]
  have a2:x2≠5:=by
   have e:(Tr.addE N T s b).2.2=x2:=by rw[h2]
   have q:Tr.nextD N T s b≠5:=by
    unfold Tr.nextD;rw[z]
    repeat' split
    all_goals first|decide|(rename_i q;exact absurd h0 q.1)
   rw[<-e];unfold Tr.addE;rw[if_neg (λq=>q hc)];split
   ·exact q
   split <;> simp
  have a3:=Zrj Q (β b.1) b z
  have a4:x2=0->(Tr.bstD N1 T1).2=0:=by
   intro e;subst e;unfold Tr.bstD;rw[if_neg (λq=>q (Zmp h2).2.2)]
  have a5:∀ C P an,(Zad Q C P an).2.2≠5:=by
   intro C P an;unfold Zad swE J7;have:=Zea Q;have:=Sn C
   repeat' split
   all_goals first|assumption|decide|simp
  repeat' split
  all_goals first|assumption|exact a5 _ _ _|(rename_i q;exact absurd (a4 (by simp_all)) q)|simp
 ·unfold nmE;unfold Yk at z;split at z
  ·cases z
  rename_i q;simp[W9] at q;rw[if_pos (by omega)]
open Go.RowKit
theorem nt_mk{K N T P}{tip nm:Int}{b:Zl}{D:Dsk}(o:opE K N T P tip=0)(e:tkR ⟨K,N,T,P,tip,(Z0 K N T noB).2⟩ b=(0,nm,D)):ntR K N T P tip b=(0,nm,D):=by
 unfold ntR;rw[if_neg (by rw[o];decide),e];rfl
theorem N6{W:WD}(h:Xp W.k W.n W.m=0){i:Nat}(hi:i<W.n.length){b:Zl}{nm:Int}{D:Dsk}(z:ntR W.k W.n[i].1 W.n[i].2.1 W.n[i].2.2.1 W.n[i].2.2.2 b=(0,nm,D)):Wz W (W.put i D)/\Yk b=0:=by
 obtain⟨o,tk⟩:=nt_tk z;obtain⟨Q,_,t3,_,t5,t6,_⟩:=Rk o tk;obtain⟨_,_,_,g,_⟩:=Cp z;exact⟨Ll h hi Q t6 ⟨⟨[nm],t3⟩,g⟩,(Wc t5).1⟩
theorem Vg:Tr.BlkSmall Ym:=⟨by decide,λt z=>by cases z⟩
theorem Ju:Tr.TxSmall Yz:=⟨aL _,aL _,by simp[Yz],by simp[Yz]⟩
theorem Ga{W V:WD}{k:Nat}(h:Wz (W.lost k) V):Wz W V:=⟨h.1,h.2.1,h.2.2.1,h.2.2.2.1,λq=>h.2.2.2.2 (λm z=>q m (Lj z))⟩
theorem Uj{i:Int}{n:Nat}(h:Xu i n=true):∃ k:Nat,i=k/\k<n:=by
 unfold Xu at h;simp at h;exact⟨i.toNat,by omega,by omega⟩
theorem Rv{z nm:Int}{b:Zl}{t}{i n:Nat}{j:Int}(hi:i<n)(Q:Xu j n=true)(aa:j≠i)(h:(if z=1 then Yk b else if z=2 then nmE nm else if z=3 then Zu t else 3)=0):Ry (z,i,j,nm,b,t) n=0:=by
 unfold Ry;rw[if_neg (by simp[Xg hi,Q];omega)];exact h
theorem Qx{N T}{s:Int}(h:(Tr.blockE N T s).2=0):Yk (Tr.blockE N T s).1=0:=by
 unfold Tr.blockE at *;split at h
 ·rename_i q;exact absurd h q
 rename_i q;rw[if_neg q];split at h
 ·rename_i q2;rw[if_pos q2];have z:=Decidable.not_not.1 q;have Q:=(Vj z).1;unfold Tr.chkTr at z;rw[if_neg (by omega)] at z;split at z
  ·cases z
  exact Tr.chkGo_blks _ _ _ _ Q z _ (Tr.fnd_at Q (by simpa using q2))
 ·cases h
theorem Hc(N T)(s:Int):Tr.BlkSmall (Tr.blockE N T s).1:=by
 by_cases h:(Tr.blockE N T s).2=0
 ·exact Tr.blk_small (Qx h)
 ·unfold Tr.blockE at *;split
  ·exact Vg
  rename_i q;rw[if_neg q] at h;split
  ·rename_i z;rw[if_pos z] at h;exact absurd rfl h
  ·exact Vg
theorem Zbi(K N T P)(tip wk no:Int)(l):Tr.BlkSmall (nmR K N T P tip wk no l).2.1:=by
 obtain⟨⟨x,b,D⟩,z⟩:=ZF (nmR K N T P tip wk no l);by_cases h:x=0
 ·subst h;obtain⟨o,_,_,_,_,_,e⟩:=Lg z;rw[z];exact Tr.blk_small (Wc (Rk o e).2.2.2.2.1).1
 ·have e:b=Ym:=by
   unfold nmR at z;split at z
   ·exact (congrArg (·.2.1) z).symm
   split at z
   ·exact (congrArg (·.2.1) z).symm
   ·exact absurd (congrArg bI z).symm h
  rw[z,e];exact Vg
theorem HapP.mono{P P':World->Prop}{v}{W W':WD}{y:Int}(h:HapP P v W y W')(hp:∀ U,P' U->P U):HapP P' v W y W':=λZ V s hE z=>h Z V s (λU g=>hp U (hE U g)) z
theorem Zgx{W W':WD}(hc:Xp W.k W.n W.m=0){i:Nat}(hi:i<W.n.length){wk no n:Int}(hx:W.mine i wk no n=(0,W')):Wz W W':=by
 unfold WD.mine at hx;rw[dif_pos hi] at hx;simp only at hx;split at hx;rotate_left
 ·rename_i q;exact absurd (congrArg bI hx) q
 rename_i q;obtain⟨⟨x,b,D⟩,Q⟩:=ZF (nmR W.k W.n[i].1 W.n[i].2.1 W.n[i].2.2.1 W.n[i].2.2.2 wk no [(1,n),(7,0)]);rw[Q] at hx q;have q:x=0:=q;subst q;obtain⟨o,_,_,_,_,_,e⟩:=Lg Q;obtain⟨z,k2⟩:=N6 hc hi (nt_mk o e);have hx:(W.put i D).sendAll 1 i 0 b Yz W.n.length=W':=congrArg Prod.snd hx;rw[<-hx];refine Ln z (λj h1 h2=>?_) (Tr.blk_small k2) Ju _ (by rw[z.2.1];exact aF _);rw[z.2.1] at h1 ⊢;exact Rv hi (Xg h1) h2 (by simpa using k2)
theorem Lm{W W':WD}(z:Xp W.k W.n W.m=0){i:Nat}(hi:i<W.n.length){t}{x:Int}(hx:W.offer i t=(x,W')):Wz W W'/\(x=0->Zu t=0):=by
 unfold WD.offer at hx;rw[dif_pos hi] at hx;simp only at hx;obtain⟨⟨ah,D⟩,Q⟩:=ZF (noR W.k W.n[i].1 W.n[i].2.1 W.n[i].2.2.1 W.n[i].2.2.2 t);rw[Q] at hx;simp only[Prod.mk.injEq] at hx;obtain⟨rfl,rfl⟩:=hx;split
 ·rename_i q;subst q;obtain⟨o,o',_,_,e1,e2,e3,e4,e5⟩:=Zau Q;exact⟨Ll z hi o' e4 (Jc o e1 e2 e3),λ_=>e5⟩
 ·rename_i q;exact⟨Wi z,λe=>absurd e q⟩
theorem Cd{W W':WD}(hc:Xp W.k W.n W.m=0){i:Nat}(hi:i<W.n.length){t}(hx:W.submit i t=(0,W')):Wz W W':=by
 unfold WD.submit at hx;obtain⟨⟨x,V⟩,z⟩:=ZF (W.offer i t);obtain⟨Q,k2⟩:=Lm hc hi z;rw[z] at hx;simp only[Prod.mk.injEq] at hx;obtain⟨rfl,rfl⟩:=hx;refine Ln Q (λj h1 h2=>?_) Vg (Tr.tx_small (k2 rfl)) _ (aF _);rw[Q.2.1] at h1 ⊢;exact Rv hi (Xg h1) h2 (by simpa using k2 rfl)
theorem Zgw{W:WD}(Q:Xp W.k W.n W.m=0){i:Nat}(hi:i<W.n.length){fr:Int}{b:Zl}(hf:Xu fr W.n.length=true)(ac:fr≠i)(hb:Yk b=0):Wz W (W.told i fr b):=by
 unfold WD.told;rw[dif_pos hi];simp only;obtain⟨⟨ae,nm,D⟩,z⟩:=ZF (ntR W.k W.n[i].1 W.n[i].2.1 W.n[i].2.2.1 W.n[i].2.2.2 b);rw[z];simp only;split
 ·rename_i q;subst q;exact (N6 Q hi z).1
 split
 ·rename_i q;subst q;have o:=(Ye Q).2.2.2.2.2.1 _ (aQ hi);refine Um (Wi Q) (Rv hi hf ac ?_) ⟨Vg,Ju⟩;simp only[show ¬((2:Int)=1) by decide,if_false,if_true];unfold ntR at z;rw[if_neg (λq=>q o)] at z;split at z
  ·exact Zob (Yb (Yg o).2.1).1 hb _ (congrArg bI z)
  ·exact absurd (show (0:Int)=5 from congrArg bI z) (by decide)
 ·exact Wi Q
theorem Zbo{W:WD}(z:Xp W.k W.n W.m=0){i:Nat}(hi:i<W.n.length){fr nm:Int}(Q:Xu fr W.n.length=true)(aa:fr≠i):Wz W (W.asked i fr nm):=by
 unfold WD.asked;rw[dif_pos hi];simp only;split
 ·rename_i q;exact Um (Wi z) (Rv hi Q aa (by simpa using Qx q)) ⟨Tr.blk_small (Qx q),Ju⟩
 ·exact Wi z
theorem Ce{W:WD}(z:Xp W.k W.n W.m=0){i:Nat}(hi:i<W.n.length):Wz W (W.forget i):=by
 have o:=(Ye z).2.2.2.2.2.1 _ (aQ hi)
 have e:W.forget i=W.put i ⟨W.k,W.n[i].1,W.n[i].2.1,[],W.n[i].2.2.2,noB⟩:=by
  unfold WD.forget;rw[dif_pos hi];rfl
 rw[e];refine Ll z hi ?_ ⟨[],by simp⟩ (Jc o rfl rfl rfl);obtain⟨Q,o2,o3,_⟩:=Yg o;unfold opE;rw[if_neg (λq=>q Q),o2];simp only[ne_eq,not_true_eq_false,if_false,o3];rfl
theorem Zlt{W:WD}{xk xn xt xi xw xN th:Int}{ai ao ni ci no co I O}(Q:Xp W.k W.n W.m=0)(hm:∀ m∈W.m,Vf m)(sI:SlOk ai ni ci)(sO:SlOk ao no co)(hz:Tr.TxSmall (th,I,O)) :
  ∃ y W',HapP (λU=>Env U/\InsAt U ai ni I/\OutsAt U ao no O) (.agg #[E J xk,E J xn,E J xt,E J xi,E J xw,E J xN,E J th,F ai ni ci,F ao no co]) W y W'/\(y=0->Wz W W'):=by
 by_cases z:(decide (1<=xk) && decide (xk<=8))=false
 ·exact⟨4,W,Zbu z,λh=>absurd h (by decide)⟩
 have z:xk=1\/xk=2\/xk=3\/xk=4\/xk=5\/xk=6\/xk=7\/xk=8:=by
  simp at z;omega
 have q6:=(Ye Q).2.2.2.2.2.2
 rcases z with rfl|rfl|rfl|rfl|rfl|rfl|rfl|rfl
 ·by_cases h:Xu xn W.n.length=true
  ·obtain⟨i,rfl,hi⟩:=Uj h;exact⟨_,_,(Gc Q hi (Zbi _ _ _ _ _ _ _ _) rfl).mono (λ_ h=>h.1),λe=>Zgx Q hi (Prod.ext e rfl)⟩
  ·exact⟨5,W,Zhj (by simpa using h),λh=>absurd h (by decide)⟩
 ·by_cases h:Xu xn W.n.length=true
  ·obtain⟨i,rfl,hi⟩:=Uj h;exact⟨_,_,Cm Q hi sI sO hz rfl,λe=>Cd Q hi (Prod.ext e rfl)⟩
  ·exact⟨5,W,Zhi (by simpa using h),λh=>absurd h (by decide)⟩
 ·by_cases h:Xu xi W.m.length=true
  ·obtain⟨k,rfl,z⟩:=Uj h;have hq:=q6 _ (aQ z);have hl:=Eo Q k;unfold Ry at hq;split at hq
   ·cases hq
   rename_i q;simp only[not_or,Bool.not_eq_false] at q;obtain⟨p1,p2,p3⟩:=q;obtain⟨ti,e2,ab⟩:=Uj p2;rw[e2] at p3;split at hq
   ·rename_i q1;exact⟨0,_,(Gw Q z ⟨q1,e2⟩ ab rfl).mono (λ_ h=>h.1),λ_=>Ga (Zgw (W:=W.lost k) hl ab p1 p3 hq)⟩
   split at hq
   ·rename_i q2;exact⟨0,_,Zlj Q z ⟨q2,e2⟩ ab (Hc _ _ _) rfl,λ_=>Ga (Zbo (W:=W.lost k) hl ab p1 p3)⟩
   split at hq
   ·rename_i q3;exact⟨0,_,(Zli Q z ⟨q3,e2⟩ ab rfl).mono (λ_ h=>h.1),λ_=>Ga (Lm (W:=W.lost k) hl ab rfl).1⟩
   ·cases hq
  ·exact⟨5,W,Zhh (by simpa using h),λh=>absurd h (by decide)⟩
 ·by_cases h:Xu xi W.m.length=true
  ·obtain⟨k,rfl,z⟩:=Uj h;exact⟨0,_,(Zhb Q z).mono (λ_ h=>h.1),λ_=>Zgy (Wi Q) k⟩
  ·exact⟨5,W,Zhg (by simpa using h),λh=>absurd h (by decide)⟩
 ·by_cases h:Xu xi W.m.length=true
  ·obtain⟨k,rfl,z⟩:=Uj h;exact⟨_,_,(Co z (hm _ (aQ z)) rfl).mono (λ_ h=>h.1),λ_=>Um (Wi Q) (q6 _ (aQ z)) (hm _ (aQ z))⟩
  ·exact⟨5,W,Zhf (by simpa using h),λh=>absurd h (by decide)⟩
 ·by_cases h:Xu xn W.n.length=true
  ·obtain⟨i,rfl,hi⟩:=Uj h;obtain⟨⟨x,W'⟩,hx⟩:=ZF (W.share i xt);obtain⟨o,ho⟩:=ZF (Xu xt W.n.length);refine⟨_,W',Zbt hi (Hc _ _ _) ho hx rfl rfl,λe=>?_⟩;split at e;rotate_left
   ·cases e
   rename_i o1;split at e
   ·cases e
   rename_i ae;split at e
   ·cases e
   subst e;unfold WD.share at hx;rw[dif_pos hi] at hx;simp only at hx;split at hx;rotate_left
   ·rename_i q;exact absurd (congrArg bI hx) q
   rename_i q;rw[<-(Prod.mk.inj hx).2];exact Um (Wi Q) (Rv hi (ho.trans o1) ae (by simpa using Qx q)) ⟨Tr.blk_small (Qx q),Ju⟩
  ·exact⟨5,W,Zhe (by simpa using h),λh=>absurd h (by decide)⟩
 ·by_cases h:Xu xn W.n.length=true
  ·obtain⟨i,rfl,hi⟩:=Uj h;exact⟨0,_,Cn hi,λ_=>Ce Q hi⟩
  ·exact⟨5,W,Zhd (by simpa using h),λh=>absurd h (by decide)⟩
 ·by_cases h:Xu xn W.n.length=true
  ·obtain⟨i,rfl,hi⟩:=Uj h;obtain⟨⟨x,W'⟩,hx⟩:=ZF (W.fetch i xt xi);obtain⟨o,ho⟩:=ZF (Xu xt W.n.length);refine⟨_,W',Zbv hi ho hx rfl rfl,λe=>?_⟩;split at e;rotate_left
   ·cases e
   rename_i o1;split at e
   ·cases e
   rename_i ae;split at e
   ·cases e
   subst e;unfold WD.fetch at hx;split at hx;rotate_left
   ·rename_i q;exact absurd (congrArg bI hx) q
   rename_i q;rw[<-(Prod.mk.inj hx).2];exact Um (Wi Q) (Rv hi (ho.trans o1) ae (by simpa using q)) ⟨Vg,Ju⟩
  ·exact⟨5,W,Zhc (by simpa using h),λh=>absurd h (by decide)⟩
def n0:U9:=([],[],[],0)
def nzC(c:Nat):List Value:=(bB c [F none 0 0,F none 0 0,F none 0 0,E J 0]).flatten
def sdL(X:Nat->Int)(L k:Nat):List Value:=(List.range L).map (λj=>E J (if j<k then X j else 0))
theorem Zjk(X:Nat->Int)(L:Nat):sdL X L 0=bB L (E J 0):=by
 unfold sdL;refine List.ext_getElem (by simp) (λi h1 h2=>by simp)
theorem Znq(X:Nat->Int){L k:Nat}(z:k<L):(sdL X L k)[k]? = some (E J 0):=by
 unfold sdL;simp[z]
theorem Zdr(X:Nat->Int){L k:Nat}(_hk:k<L):(sdL X L k).set k (E J (X k))=sdL X L (k+1):=by
 unfold sdL;refine List.ext_getElem (by simp) (λi h1 h2=>?_);rw[List.getElem_set];simp only[List.getElem_map,List.getElem_range];by_cases e:k=i
 ·subst e;simp
 ·rw[if_neg e];by_cases q:i<k
  ·rw[if_pos q,if_pos (by omega)]
  ·rw[if_neg q,if_neg (by omega)]
theorem Zgg{w:World}{g c:Nat}(h1:1<=c)(h4:c<=4)(h:w.heap[g]? = some (cZ (nzC c).toArray 67 (0,0))):NodsAt w (some ⟨g,0,none⟩) c (bB c n0):=by
 refine⟨by simp,λ_=>⟨g,0,rfl,aA h,λj z=>?_⟩⟩;have nil:Tr.IntsAt w none 0 []/\Tr.BlksAt w none 0 []/\TxsAt w none 0 []:=⟨⟨rfl,λh=>absurd h (by decide)⟩,RowsAt.nil _ _,RowsAt.nil _ _⟩;rw[List.getElem_replicate];have ac:j<c:=by simpa using z
 have key:∀ i,i<4->(nzC c)[j*4+i]? = ([F none 0 0,F none 0 0,F none 0 0,E J 0]:List Value)[i]?:=λi hi=>by
  clear h nil;have Q:c=1\/c=2\/c=3\/c=4:=by omega
  have qj:j=0\/j=1\/j=2\/j=3:=by omega
  have qi:i=0\/i=1\/i=2\/i=3:=by omega
  rcases Q with rfl|rfl|rfl|rfl <;> rcases qj with rfl|rfl|rfl|rfl <;> rcases qi with rfl|rfl|rfl|rfl <;> first|rfl|omega
 have ck:∀ i (_:i<4) (v:Value),([F none 0 0,F none 0 0,F none 0 0,E J 0]:List Value)[i]? = some v->w.cell? ⟨g,0+j*4+i,none⟩=some v:=λi hi v e=>by
  rw[Nat.zero_add];exact Zb h _ _ ((key i hi).trans e)
 exact⟨none,0,0,none,0,0,none,0,0,ck 0 (by decide) _ rfl,ck 1 (by decide) _ rfl,ck 2 (by decide) _ rfl,ck 3 (by decide) _ rfl,nil.1,nil.2.1,nil.2.2,Zq,Zq,Zq⟩
theorem Zrn(c:Nat)(h1:1<=c)(h4:c<=4)(w:World):(Instr.makeSlice 87 (E J c) (E J c)).run aB w = .ok (F (some ⟨w.heap.size,0,none⟩) c c) (w.alloc (cZ (nzC c).toArray 67)):=by
 obtain⟨i0,hi,aa,z,ab⟩:=info_parts Tr.Tryz.infoNodeC;have h:=run_makeSlice (P:=aB) (w:=w) 87 67 i0 _ Tryz.underlying87 hi aa .i64 .i64 c c (by omega) (by omega) (by rw[z];omega) (by rw[ab];omega) (by omega);rw[z] at h;have Q:c=1\/c=2\/c=3\/c=4:=by omega
 have e:madeCells (Value.agg #[F none 0 0,F none 0 0,F none 0 0,E J 0]).cells (Int.toNat (c:Int)*4)=(nzC c).toArray:=by
  rcases Q with rfl|rfl|rfl|rfl <;> kernel_rfl
 rw[e] at h;exact h
theorem Tryz.infoErr:(Tryz.prog.info? 30).map (λi=>(i.zero,i.size,i.bytes))=some (some (E J 0),1,8):=by kernel_rfl
theorem Zro(X:Nat->Int)(L:Nat)(h:L<=60)(w:World):(Instr.makeSlice 110 (E J L) (E J L)).run aB w = .ok (F (some ⟨w.heap.size,0,none⟩) L L) (w.alloc (cZ (sdL X L 0).toArray 30)):=by
 obtain⟨i0,hi,Q,z,aa⟩:=info_parts Tryz.infoErr;have h:=run_makeSlice (P:=aB) (w:=w) 110 30 i0 _ Tryz.underlying110 hi Q .i64 .i64 L L (by omega) (by omega) (by rw[z];omega) (by rw[aa];omega) (by omega);rw[z] at h
 have e:madeCells (Value.int .i64 0).cells (Int.toNat (L:Int)*1)=(sdL X L 0).toArray:=by
  rw[Zjk,Nat.mul_one,Int.toNat_natCast];exact Array.toList_inj.1 ((toList_madeCells_one _ _).trans (by simp))
 rw[e] at h;exact h
theorem Zdh(c:Nat)(h1:1<=c)(h4:c<=4)(w:World):Calls aB 130 #[E J c] w λe w'=>∃ g,e = dA (dB #[.agg #[F none 0 0,F (some ⟨g,0,none⟩) c c,F none 0 0],E J 0])/\w'.heap[g]? = some (cZ (nzC c).toArray 67 (0,0))/\w.heap.size<=g/\ZD w w':=by
 obtain⟨X,hX,aj,ak⟩:=ka11 w [F none 0 0,F none 0 0,F none 0 0] 90;have C1:=Zd (Ty c true X (by simp;omega));go_enter Tryz.func130,Tryz.ntmps130
 go_upto_region 1 with fail
 rw[<-hX];clear hX;go_wp2_with fail;refine C1.mono ?_;rintro e z ⟨rfl,ac⟩;have ae:=onb aj ac;have Q:=mvd ac ak;obtain⟨Y,hY⟩:=ZG (z.alloc (cZ (nzC c).toArray 67));have ad:ZD z Y:=by rw[hY];exact Zh _ _
 have HY:Hid (Y.heap[z.heap.size]? = some (cZ (nzC c).toArray 67 (0,0))):=by rw[hY];exact aH _ _
 have af:=onb ae ad;have aa:=mvd ad Q;have hs:=ae.size;obtain⟨r0,r1,r2,rl⟩:=cl3 Q;have f0:=Zg Q 0;have f1:=Zg Q 1;have f2:=Zg Q 2;obtain⟨y0,y1,y2,yl⟩:=cl3 aa;have g0:=Zg aa 0;have g1:=Zg aa 1;have g2:=Zg aa 2;have av:=aA Q;have ah:Hid (∀ V,Gr Y V (λq=>q=w.heap.size)->∃ g,Ending.returned (dB #[.agg #[F none 0 0,F (some ⟨z.heap.size,0,none⟩) c c,F none 0 0],E J 0]) = dA (dB #[.agg #[F none 0 0,F (some ⟨g,0,none⟩) c c,F none 0 0],E J 0])/\V.heap[g]? = some (cZ (nzC c).toArray 67 (0,0))/\w.heap.size<=g/\ZD w V):=λV g=>⟨z.heap.size,rfl,g.heap HY (by show ¬z.heap.size=w.heap.size;omega),hs,g.below af af.size (λq e=>bL (Eq.symm e))⟩;have am:=Zrn c h1 h4 z;rw[<-hY] at am;clear ac ad C1 hY;go_wp2;(try simp only[Exit.inBlock,Exit.then]);refine aW (v:=dB #[.agg #[F none 0 0,F (some ⟨z.heap.size,0,none⟩) c c,F none 0 0],E J 0]) ?_ rfl ?_
 ·rw[Zn rfl];go_simp
 ·refine ah _ ?_
  repeat' first|refine Gr.one ?_ _ _ ?_ _|exact Gr.refl _ _
  all_goals exact Or.inl rfl
structure RunI(w:World)(L bw sd:Nat)(S:Nat->WD)(X:Nat->Int)(k:Nat)(wr:World):Prop where
 bel:ZD w wr
 box:∃ ka kn kc na nn nc ma mn mc,wr.heap[bw]? = some (cZ [F ka kn kc,F na nn nc,F ma mn mc].toArray 90 (0,0))/\(∀ V,Gr wr V (λq=>q=bw\/q=sd\/q=w.heap.size)->WorldAt V (S k) ka kn na nn ma mn)/\SlOk ka kn kc/\SlOk na nn nc/\SlOk ma mn mc
 said:wr.heap[sd]? = some (cZ (sdL X L k).toArray 30 (0,0))
 res:wr.heap[w.heap.size]? = some (cZ [F none 0 0,F none 0 0,F none 0 0].toArray 90 (0,0))
section
variable {w wr wx : World} {L bw sd : Nat} {S : Nat -> WD} {X : Nat -> Int} {k : Nat}
theorem RunI.step{U}(h:RunI w L bw sd S X k wr)(Q:bw≠sd/\bw≠w.heap.size/\sd≠w.heap.size/\w.heap.size<bw/\w.heap.size<sd)(hU:ZD wr U)(hg:Gr U wx (λq=>q=sd))(ad:wx.heap[sd]? = some (cZ (sdL X L (k+1)).toArray 30 (0,0)))(hS:S (k+1)=S k):RunI w L bw sd S X (k+1) wx:=by
 obtain⟨ka,kn,kc,na,nn,nc,ma,mn,mc,h1,h2,h3⟩:=h.box;have z:Gr wr wx (λq=>q=sd):=(Gr.of hU).trans hg;refine⟨z.below h.bel h.bel.size (λq e=>by have e:q=sd:=e;omega),⟨ka,kn,kc,na,nn,nc,ma,mn,mc,z.heap h1 (λe=>Q.1 e),λV g=>?_,h3⟩,ad,z.heap h.res (λe=>Q.2.2.1 (Eq.symm e))⟩;rw[hS];exact h2 V ((z.mono (λq _ e=>.inr (.inl e))).trans g)
theorem RunI.took{W':WD}{U Y:World}{H0:Nat}{ka na ma kn kc nn nc mn mc}(h:RunI w L bw sd S X k wr)(aa:bw≠sd/\bw≠w.heap.size/\sd≠w.heap.size/\w.heap.size<bw/\w.heap.size<sd)(h0:wr.heap.size<=H0)(hU:ZD wr U)(Q:ZD U Y)(hg:Gr Y wx (λq=>q=bw\/q=sd))(ae:wx.heap[bw]? = some (cZ [F ka kn kc,F na nn nc,F ma mn mc].toArray 90 (0,0)))(af:wx.heap[sd]? = some (cZ (sdL X L (k+1)).toArray 30 (0,0)))
  (hF:Fresh H0 U (λw2=>WorldAt w2 W' ka kn na nn ma mn)) (s1:SlOk ka kn kc) (s2:SlOk na nn nc) (s3:SlOk ma mn mc) (hS:S (k+1)=W'):RunI w L bw sd S X (k+1) wx:=by
 obtain⟨_,_,_,_,_,_,_,_,_,h1,_⟩:=h.box;have l1:=aA h1;have l2:=aA h.said;have l3:=aA h.res;have z:Gr wr wx (λq=>q=bw\/q=sd):=(Gr.of (Zf hU Q)).trans hg;refine⟨z.below h.bel h.bel.size (λq e=>by rcases e with e|e <;> omega),⟨ka,kn,kc,na,nn,nc,ma,mn,mc,ae,λV g=>?_,s1,s2,s3⟩,af,z.heap h.res (λe=>by rcases e with e|e;exact aa.2.1 (Eq.symm e);exact aa.2.2.1 (Eq.symm e))⟩;rw[hS];exact hF V ((((Gr.of Q).trans (hg.mono (λq _ e=>by rcases e with e|e <;> omega)))).trans (g.mono (λq _ e=>by rcases e with e|e|e <;> omega)))
end
def RunR(w w':World)(L:Nat)(S:Nat->WD)(X:Nat->Int)(e:Ending):Prop:=∃ ka kn kc na nn nc ma mn mc sd,e = dA (dB #[.agg #[F ka kn kc,F na nn nc,F ma mn mc],F (some ⟨sd,0,none⟩) L L,E J 0])/\WorldAt w' (S L) ka kn na nn ma mn/\SlOk ka kn kc/\SlOk na nn nc/\SlOk ma mn mc/\w'.heap[sd]? = some (cZ (sdL X L L).toArray 30 (0,0))/\ZD w w'
theorem Zdg(c:Nat)(h1:1<=c)(h4:c<=4)(sa)(L sc:Nat)(hL:L<=60)(H:Nat->Int×Int×Int×Int×Int×Int×Int)(S W':Nat->WD)(X:Nat->Int)(w:World)(hE:Env w)
  (hr:∀ k,k<L->∃ g o ai ni ci ao no co P,sa=some ⟨g,o,none⟩/\g<w.heap.size/\(∀ j v,([E J (H k).1,E J (H k).2.1,E J (H k).2.2.1,E J (H k).2.2.2.1,E J (H k).2.2.2.2.1,E J (H k).2.2.2.2.2.1,E J (H k).2.2.2.2.2.2,F ai ni ci,F ao no co]:List Value)[j]? = some v->w.cell? ⟨g,o+k*9+j,none⟩=some v)/\(∀ U,ZD w U->P U)/\HapP P (.agg #[E J (H k).1,E J (H k).2.1,E J (H k).2.2.1,E J (H k).2.2.2.1,E J (H k).2.2.2.2.1,E J (H k).2.2.2.2.2.1,E J (H k).2.2.2.2.2.2,F ai ni ci,F ao no co]) (S k) (X k) (W' k))
  (h0:S 0=⟨[],bB c n0,[]⟩) (hc:∀ k,k<L->Xp (S k).k (S k).n (S k).m=0) (hm:∀ k,k<L->∀ m∈(S k).m,Vf m) (hS:∀ k,k<L->S (k+1)=if X k=0 then W' k else S k) :
  Calls aB 55 #[E J c,F sa L sc] w λe w'=>RunR w w' L S X e:=by
 obtain⟨A,hA,bz,bf⟩:=ka11 w [F none 0 0,F none 0 0,F none 0 0] 90;obtain⟨C1,HE,HR,dg,HC,HM,HS⟩:=kh7 (Zdh c h1 h4 A) hE hr h0 hc hm hS;have ez:¬(60:Int)<(L:Int):=by omega
 clear hE hr h0 hc hm hS;go_enter Tryz.func55,Tryz.ntmps55
 go_upto_region 1 with fail
 rw[<-hA];clear hA;go_wp2_with fail;refine C1.mono ?_;rintro e z ⟨ng,rfl,bj,ej,aw⟩;have ef:=aA bf;obtain⟨Y,hY⟩:=ZG ((z.alloc (cZ #[F none 0 0,F (some ⟨ng,0,none⟩) c c,F none 0 0] 90)).alloc (cZ (sdL X L 0).toArray 30));have aa:ZD z Y:=by rw[hY];exact Zf (Zh _ _) (Zh _ _)
 have y0:Y.heap[z.heap.size]? = some (cZ [F none 0 0,F (some ⟨ng,0,none⟩) c c,F none 0 0].toArray 90 (0,0)):=by rw[hY];exact Zk [cZ #[F none 0 0,F (some ⟨ng,0,none⟩) c c,F none 0 0] 90,cZ (sdL X L 0).toArray 30] z 0 _ rfl
 have y1:Y.heap[z.heap.size+1]? = some (cZ (sdL X L 0).toArray 30 (0,0)):=by rw[hY];exact Zk [cZ #[F none 0 0,F (some ⟨ng,0,none⟩) c c,F none 0 0] 90,cZ (sdL X L 0).toArray 30] z 1 _ rfl
 have ei:=aA bj;have ey:=aw.size;have cc:Hid (ZD w Y):=Zf (Zf bz aw) aa
 have ST:Hid (RunI w L z.heap.size (z.heap.size+1) S X 0 Y):=by
  refine⟨Za cc,⟨none,0,0,some ⟨ng,0,none⟩,c,c,none,0,0,y0,λV gV=>?_,Zq,⟨aF _,by unfold maxLen;omega,λe=>by cases e⟩,Zq⟩,y1,(aa.block _ (by omega)).trans ((aw.block _ ef).trans bf)⟩;rw[Za dg];refine⟨Bk.TextsAt.nil _ _,Zgg h1 h4 (gV.heap ((aa.block _ ei).trans bj) (λe=>?_)),RowsAt.nil _ _⟩
  rcases e with e|e|e
  ·omega
  ·omega
  ·omega
 have cz:=Zro X L hL (z.alloc (cZ #[F none 0 0,F (some ⟨ng,0,none⟩) c c,F none 0 0] 90));rw[<-hY] at cz;have bi:z.heap.size≠z.heap.size+1/\z.heap.size≠w.heap.size/\z.heap.size+1≠w.heap.size/\w.heap.size<z.heap.size/\w.heap.size<z.heap.size+1:=by omega
 have ap:=Zd bi;clear bj ej aw aa y0 y1 C1 bz bf hY bi;go_wp2_with fail
 go_loopw [32] (λi wr=>∃ k:Nat,k<=L/\i = E J k/\Hid (RunI w L z.heap.size (z.heap.size+1) S X k wr)) (λi _=>L - (intOf i).toNat)
 case atStart=>exact⟨0,aL _,rfl,ST⟩
 case round=>
  obtain⟨k,hk,rfl,Q⟩:=hrel;clear ST cz cc;by_cases al:k<L
  ·have fc:(k:Int)<(L:Int):=(by omega);obtain⟨g,o,ai,ni,ci,ao,no,co,P,rfl,hg,ac,ct,cq⟩:=HR k al;have c0:wr.cell? ⟨g,o+k*9,none⟩=some (E J (H k).1):=Ze Q.bel (ac 0 _ rfl);have c1:=Ze Q.bel (ac 1 _ rfl);have c2:=Ze Q.bel (ac 2 _ rfl);have c3:=Ze Q.bel (ac 3 _ rfl);have c4:=Ze Q.bel (ac 4 _ rfl);have c5:=Ze Q.bel (ac 5 _ rfl);have c6:=Ze Q.bel (ac 6 _ rfl);have c7:=Ze Q.bel (ac 7 _ rfl);have c8:=Ze Q.bel (ac 8 _ rfl);have fa:g<wr.heap.size:=Nat.lt_of_lt_of_le hg Q.bel.size;obtain⟨ka,kn,kc,na,nn,nc,ma,mn,mc,h1,h2,s1,s2,s3⟩:=Q.box;obtain⟨X1,av⟩:∃ V,V=wr.alloc (cZ #[E J (H k).1,E J (H k).2.1,E J (H k).2.2.1,E J (H k).2.2.2.1,E J (H k).2.2.2.2.1,E J (H k).2.2.2.2.2.1,E J (H k).2.2.2.2.2.2,F ai ni ci,F ao no co] 103):=⟨_,rfl⟩;have ae:ZD wr X1:=(by rw[av];exact Zh _ _);have x1:X1.heap[wr.heap.size]? = some (cZ [E J (H k).1,E J (H k).2.1,E J (H k).2.2.1,E J (H k).2.2.2.1,E J (H k).2.2.2.2.1,E J (H k).2.2.2.2.2.1,E J (H k).2.2.2.2.2.2,F ai ni ci,F ao no co].toArray 103 (0,0)):=(by rw[av];exact aH _ _);obtain⟨b0,b1,b2,b3,b4,b5,b6,b7,b8,bl⟩:=kc9 x1;have H1:Hid (X1.heap[z.heap.size]? = some (cZ [F ka kn kc,F na nn nc,F ma mn mc].toArray 90 (0,0))):=ZE ae h1;have ce:Hid (X1.heap[z.heap.size+1]? = some (cZ (sdL X L k).toArray 30 (0,0))):=ZE ae Q.said;obtain⟨t0,t1,t2,tl⟩:=cl3 H1;obtain⟨d1,d2,d3⟩:=h2 X1 (Gr.of ae);have ck:=HC k al
   obtain⟨CO,cw,cb⟩:=kh3 (Znb P ka kn kc na nn nc ma mn mc (H k).1 (H k).2.1 (H k).2.2.1 (H k).2.2.2.1 (H k).2.2.2.2.1 (H k).2.2.2.2.2.1 (H k).2.2.2.2.2.2 ai ao ni ci no co (S k) 0 (X k) (X k) (W' k) X1 (HE.later (Zf Q.bel ae)) d1 d2 d3 s1 s2 s3 (λy hy=>Ux ((Ye ck).2.2.2.2.2.1 y hy)) (HM k al) ck (λU hu=>ct U (Zf (Zf Q.bel ae) hu)) (λ_=>cq) (if_pos rfl)) (HS k al) ae;have ek:=ae.size;clear h1 h2 s1 s2 s3 d1 d2 d3 ck x1 ae ac ct cq
   go_upto_region 10 with fail
   rw[<-av];clear av c0 c1 c2 c3 c4 c5 c6 c7 c8;go_wp2_with fail;refine CO.mono ?_;rintro e U ⟨ax,hr⟩;have ca:=onb cb ax;have bg:=mvd ax H1;have aq:=mvd ax ce;clear CO ax H1 ce cb t0 t1 t2 tl b0 b1 b2 b3 b4 b5 b6 b7 b8 bl;obtain⟨v,hv⟩:∃ v,(sdL X L k)[k]? = some v:=⟨_,Znq X al⟩
   rcases hr with ⟨hx,rfl⟩|⟨hx,k1,bq,bo,n1,bu,bt,m1,bs,br,rfl,hF,s1,s2,s3⟩
   ·have gx:(X k == 0)=false:=(by simp[hx]);obtain⟨Y,hY⟩:=ZG (U.alloc (cZ #[F none 0 0,F none 0 0,F none 0 0] 90));have aa:ZD U Y:=(by rw[hY];exact Zh _ _);have ad:=mvd aa aq;have vc:=Zb ad k _ hv;have vf:=Zg ad k;have vl:=aA ad
    have NX:Hid (RunI w L z.heap.size (z.heap.size+1) S X (k+1) (Y.setCell ⟨z.heap.size+1,k,none⟩ (E J (X k)))):=by
     refine Q.step ap (Zf ca aa) ((Gr.refl Y (λq=>q=z.heap.size+1)).one _ k (.inl rfl) _) ?_ ?_
     ·have:=Tr.set_cells ad k (E J (X k));rw[Zdr X al] at this;exact this
     ·rw[Za cw,if_neg hx]
    clear aa aq bg ad hx
    go_upto_region 11 with fail
    rw[<-hY];clear hY;go_wp2;go_roundw
    case rel=>exact⟨k+1,by omega,by go_num,NX⟩
    case measure=>simp[intOf];omega
   ·obtain⟨Y,hY,aa,cf⟩:=ka01 U [F k1 bq bo,F n1 bu bt,F m1 bs br] 90;have ad:=mvd aa aq;have am:=mvd aa bg;obtain⟨u0,u1,u2,ul⟩:=cl3 cf;obtain⟨t0,t1,t2,tl⟩:=cl3 am;have e0:=Zg am 0;have e1:=Zg am 1;have e2:=Zg am 2;obtain⟨fi,hQ⟩:=ZG (((Y.setCell ⟨z.heap.size,0,none⟩ (F k1 bq bo)).setCell ⟨z.heap.size,1,none⟩ (F n1 bu bt)).setCell ⟨z.heap.size,2,none⟩ (F m1 bs br));have gQ:Gr Y fi (λq=>q=z.heap.size):=(by rw[hQ];exact (((Gr.refl Y (λq=>q=z.heap.size)).one _ 0 (.inl rfl) _).one _ 1 (.inl rfl) _).one _ 2 (.inl rfl) _);have cd:Hid (fi.heap[z.heap.size]? = some (cZ [F k1 bq bo,F n1 bu bt,F m1 bs br].toArray 90 (0,0))):=(by rw[hQ];exact Tr.set_cells (Tr.set_cells (Tr.set_cells am 0 _) 1 _) 2 _);have an:Hid (fi.heap[z.heap.size+1]? = some (cZ (sdL X L k).toArray 30 (0,0))):=gQ.heap ad (by show ¬z.heap.size+1=z.heap.size;omega);have vc:=Zb an k _ hv;have vf:=Zg an k;have vl:=aA an
    have NX:Hid (RunI w L z.heap.size (z.heap.size+1) S X (k+1) (fi.setCell ⟨z.heap.size+1,k,none⟩ (E J (X k)))):=by
     have gS:Gr fi (fi.setCell ⟨z.heap.size+1,k,none⟩ (E J (X k))) (λq=>q=z.heap.size+1):=(Gr.refl fi (λq=>q=z.heap.size+1)).one _ k (.inl rfl) _;refine Q.took ap (H0:=X1.heap.size) ek ca aa ((gQ.mono (λq _ e=>.inl e)).trans (gS.mono (λq _ e=>.inr e))) (gS.heap cd (by show ¬z.heap.size=z.heap.size+1;omega)) ?_ hF s1 s2 s3 ?_
     ·have:=Tr.set_cells an k (E J (X k));rw[Zdr X al] at this;exact this
     ·rw[Za cw,if_pos hx]
    have es:=Zd hx;rw[hx] at NX;clear aa aq bg ad am hF s1 s2 s3 gQ cd an cf
    go_upto_region 11 with fail
    rw[<-hY];clear hY
    go_upto_region 13 with fail
    rw[<-hQ];clear hQ t0 t1 t2 e0 e1 e2 u0 u1 u2;go_wp2;go_roundw
    case rel=>exact⟨k+1,by omega,by go_num,NX⟩
    case measure=>simp[intOf];omega
  ·have e:L=k:=(by omega);subst e;obtain⟨ka,kn,kc,na,nn,nc,ma,mn,mc,h1,h2,s1,s2,s3⟩:=Q.box;obtain⟨t0,t1,t2,tl⟩:=cl3 (Zd h1);obtain⟨r0,r1,r2,rl⟩:=cl3 (Zd Q.res);have f0:=Zg Q.res 0;have f1:=Zg Q.res 1;have f2:=Zg Q.res 2
   have df:Hid (∀ V,Gr wr V (λq=>q=w.heap.size)->RunR w V L S X (dA (dB #[.agg #[F ka kn kc,F na nn nc,F ma mn mc],F (some ⟨z.heap.size+1,0,none⟩) L L,E J 0]))):=λV g=>by
    have bi:=Za ap;exact⟨ka,kn,kc,na,nn,nc,ma,mn,mc,z.heap.size+1,rfl,h2 V (g.mono (λq _ e=>.inr (.inr e))),s1,s2,s3,g.heap Q.said (λe=>by have e:z.heap.size+1=w.heap.size:=e;omega),g.below Q.bel Q.bel.size (λq e=>bL (Eq.symm e))⟩
   have nd:z.heap.size≠w.heap.size:=ap.2.1;clear h1 h2 s1 s2 s3;go_wp2;(try simp only[Exit.inBlock,Exit.then]);refine aW (v:=dB #[.agg #[F ka kn kc,F na nn nc,F ma mn mc],F (some ⟨z.heap.size+1,0,none⟩) L L,E J 0]) ?_ rfl ?_
   ·rw[Bk.results_cell_tmp2 rfl];go_simp
   ·refine df _ ?_
    repeat' first|refine Gr.one ?_ _ _ ?_ _|exact Gr.refl _ _
    all_goals exact Or.inl rfl
theorem Zri{c:Nat}(h1:1<=c)(h4:c<=4):Xp [] (bB c n0) []=0:=by
 refine Hu (W:=⟨[],bB c n0,[]⟩) (by simpa using h1) (by simpa using h4) rfl (aL _) (λy Q=>?_) (λm z=>by cases z);rw[(List.mem_replicate.1 Q).2]
 kernel_rfl
theorem Zfp{c:Nat}(h1:1<=c)(h4:c<=4)(L:Nat)(P:Nat->World->Prop)(z:Nat->Value)(hD:∀ k,k<L->∀ W:WD,Xp W.k W.n W.m=0->(∀ m∈W.m,Vf m)->∃ y W',HapP (P k) (z k) W y W'/\(y=0->Wz W W')) :
  ∃ (S W':Nat->WD) (X:Nat->Int),S 0=⟨[],bB c n0,[]⟩/\(∀ k,k<L->HapP (P k) (z k) (S k) (X k) (W' k)/\S (k+1)=if X k=0 then W' k else S k)/\∀ k,k<=L->Xp (S k).k (S k).n (S k).m=0/\∀ m∈(S k).m,Vf m:=by
 have ax:∀ q:Nat×WD,∃ r:Int×WD,q.1<L->Xp q.2.k q.2.n q.2.m=0->(∀ m∈q.2.m,Vf m)->HapP (P q.1) (z q.1) q.2 r.1 r.2/\(r.1=0->Wz q.2 r.2):=λq=>by
  by_cases h:q.1<L/\Xp q.2.k q.2.n q.2.m=0/\∀ m∈q.2.m,Vf m
  ·obtain⟨y,W',a⟩:=hD q.1 h.1 q.2 h.2.1 h.2.2;exact⟨(y,W'),λ_ _ _=>a⟩
  ·exact⟨(0,q.2),λa b c=>absurd ⟨a,b,c⟩ h⟩
 obtain⟨f,hf⟩:=Classical.axiomOfChoice ax;obtain⟨S,Q⟩:∃ S:Nat->WD,S=λk=>Nat.rec (⟨[],bB c n0,[]⟩:WD) (λk W=>if (f (k,W)).1=0 then (f (k,W)).2 else W) k:=⟨_,rfl⟩;have s0:S 0=⟨[],bB c n0,[]⟩:=by subst Q;rfl
 have s1:∀ k,S (k+1)=if (f (k,S k)).1=0 then (f (k,S k)).2 else S k:=λk=>by subst Q;rfl
 have good:∀ k,k<=L->Xp (S k).k (S k).n (S k).m=0/\∀ m∈(S k).m,Vf m:=by
  intro k
  induction k with
  | zero=>intro _;rw[s0];exact⟨Zri h1 h4,λm hm=>by cases hm⟩
  | succ k ih=>
   intro hk;obtain⟨a,b⟩:=ih (by omega);rw[s1];split
   ·rename_i q;obtain⟨k1,_,_,_,k5⟩:=(hf (k,S k) (by omega) a b).2 q;exact⟨k1,k5 b⟩
   ·exact⟨a,b⟩
 exact⟨S,λk=>(f (k,S k)).2,λk=>(f (k,S k)).1,s0,λk hk=>⟨(hf (k,S k) hk (good k (by omega)).1 (good k (by omega)).2).1,s1 k⟩,good⟩
abbrev Zmv:=Int×Int×Int×Int×Int×Int×TxD
def hapC(w:World)(cs:List Value)(x:Zmv):Prop:=∃ ai ni ci ao no co,cs=[E J x.1,E J x.2.1,E J x.2.2.1,E J x.2.2.2.1,E J x.2.2.2.2.1,E J x.2.2.2.2.2.1,E J x.2.2.2.2.2.2.1,F ai ni ci,F ao no co]/\InsAt w ai ni x.2.2.2.2.2.2.2.1/\OutsAt w ao no x.2.2.2.2.2.2.2.2/\SlOk ai ni ci/\SlOk ao no co
def hapR:Tr.Rec Zmv where
 sz:=9
 C:=hapC
 R w b o x:=∃ cs,Tr.CellsAt w b o cs/\hapC w cs x
 wide _ _ _:=by rintro ⟨_,_,_,_,_,_,rfl,_⟩;rfl
 one _ _ _:=by rintro ⟨_,_,_,_,_,_,rfl,_⟩ v z;simp at z;rcases z with rfl|rfl|rfl|rfl|rfl|rfl|rfl|rfl|rfl <;> rfl
 kept _ _ _ _ hb:=by rintro ⟨ai,ni,ci,ao,no,co,rfl,h1,h2,h3⟩;exact⟨ai,ni,ci,ao,no,co,rfl,h1.later hb,h2.later hb,h3⟩
 rc _ _ _ _ h:=h
 cr _ _ _ _ _ h1 h2:=⟨_,h1,h2⟩
theorem Zah{c:Nat}(h1:1<=c)(h4:c<=4){w:World}(hE:Env w){sa L l}(hl:RowsAt hapR.R 9 w sa L l)(hz:∀ y∈l,Tr.TxSmall y.2.2.2.2.2.2) :
  ∃ (H:Nat->Int×Int×Int×Int×Int×Int×Int) (S W':Nat->WD) (X:Nat->Int),S 0=⟨[],bB c n0,[]⟩ /\
   (∀ k,k<L->∃ g o ai ni ci ao no co P,sa=some ⟨g,o,none⟩/\g<w.heap.size/\(∀ j v,([E J (H k).1,E J (H k).2.1,E J (H k).2.2.1,E J (H k).2.2.2.1,E J (H k).2.2.2.2.1,E J (H k).2.2.2.2.2.1,E J (H k).2.2.2.2.2.2,F ai ni ci,F ao no co]:List Value)[j]? = some v->w.cell? ⟨g,o+k*9+j,none⟩=some v)/\(∀ U,ZD w U->P U)/\HapP P (.agg #[E J (H k).1,E J (H k).2.1,E J (H k).2.2.1,E J (H k).2.2.2.1,E J (H k).2.2.2.2.1,E J (H k).2.2.2.2.2.1,E J (H k).2.2.2.2.2.2,F ai ni ci,F ao no co]) (S k) (X k) (W' k)) /\
   (∀ k,k<L->S (k+1)=if X k=0 then W' k else S k)/\∀ k,k<=L->Xp (S k).k (S k).n (S k).m=0/\∀ m∈(S k).m,Vf m:=by
 have aw:l.length=L:=hl.1
 have ax:∀ k:Nat,∃ t:Nat×Nat×Option Addr×Nat×Nat×Option Addr×Nat×Nat,∀ z:k<l.length,sa=some ⟨t.1,t.2.1,none⟩/\t.1<w.heap.size/\Tr.CellsAt w t.1 (t.2.1+k*9) [E J l[k].1,E J l[k].2.1,E J l[k].2.2.1,E J l[k].2.2.2.1,E J l[k].2.2.2.2.1,E J l[k].2.2.2.2.2.1,E J l[k].2.2.2.2.2.2.1,.slice t.2.2.1 t.2.2.2.1 t.2.2.2.2.1,.slice t.2.2.2.2.2.1 t.2.2.2.2.2.2.1 t.2.2.2.2.2.2.2]/\InsAt w t.2.2.1 t.2.2.2.1 l[k].2.2.2.2.2.2.2.1/\OutsAt w t.2.2.2.2.2.1 t.2.2.2.2.2.2.1 l[k].2.2.2.2.2.2.2.2/\SlOk t.2.2.1 t.2.2.2.1 t.2.2.2.2.1/\SlOk t.2.2.2.2.2.1 t.2.2.2.2.2.2.1 t.2.2.2.2.2.2.2:=λk=>by
  by_cases z:k<l.length
  ·obtain⟨g,o,e,hg,hr⟩:=hl.2 (by omega);obtain⟨cs,hc,ai,ni,ci,ao,no,co,rfl,q1,q2,q3,q4⟩:=hr k z;exact⟨(g,o,ai,ni,ci,ao,no,co),λ_=>⟨e,hg,hc,q1,q2,q3,q4⟩⟩
  ·exact⟨(0,0,none,0,0,none,0,0),λh=>absurd h z⟩
 obtain⟨f,hf⟩:=Classical.axiomOfChoice ax;obtain⟨H,hH⟩:∃ H:Nat->Zmv,∀ k (z:k<l.length),H k=l[k]:=⟨λk=>l.getD k (0,0,0,0,0,0,Yz),λk z=>by simp[List.getD,z]⟩
 obtain⟨S,W',X,s0,s1,s2⟩:=Zfp h1 h4 L (λk U=>Env U/\InsAt U (f k).2.2.1 (f k).2.2.2.1 (H k).2.2.2.2.2.2.2.1/\OutsAt U (f k).2.2.2.2.2.1 (f k).2.2.2.2.2.2.1 (H k).2.2.2.2.2.2.2.2)
  (λk=>.agg #[E J (H k).1,E J (H k).2.1,E J (H k).2.2.1,E J (H k).2.2.2.1,E J (H k).2.2.2.2.1,E J (H k).2.2.2.2.2.1,E J (H k).2.2.2.2.2.2.1,.slice (f k).2.2.1 (f k).2.2.2.1 (f k).2.2.2.2.1,.slice (f k).2.2.2.2.2.1 (f k).2.2.2.2.2.2.1 (f k).2.2.2.2.2.2.2]) (λk z W hc hm=>by
   have Q:k<l.length:=(by omega);obtain⟨_,_,_,_,_,q3,q4⟩:=hf k Q
   exact Zlt hc hm q3 q4 (by
    have:=hz _ (aQ Q);rw[hH k Q];exact this))
 refine⟨λk=>((H k).1,(H k).2.1,(H k).2.2.1,(H k).2.2.2.1,(H k).2.2.2.2.1,(H k).2.2.2.2.2.1,(H k).2.2.2.2.2.2.1),S,W',X,s0,λk z=>?_,λk z=>(s1 k z).2,s2⟩;have Q:k<l.length:=by omega
 obtain⟨q0,q1,q2,q3,q4,_,_⟩:=hf k Q;refine⟨(f k).1,(f k).2.1,_,_,_,_,_,_,_,q0,q1,?_,λU hU=>?_,(s1 k z).1⟩
 ·rw[<-hH k Q] at q2;exact q2
 ·show Env U/\InsAt U _ _ (H k).2.2.2.2.2.2.2.1/\OutsAt U _ _ (H k).2.2.2.2.2.2.2.2;rw[hH k Q];exact⟨hE.later hU,q3.later hU,q4.later hU⟩
