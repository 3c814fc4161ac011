import Derived.Test.YtmomfkikogbdeaaGreatDoorG53
import Derived.Test.YtmomfkikogbdeaaGreatDoorG47
import Derived.Test.YtmomfkikogbdeaaGreatDoorG42
import Derived.Test.YtmomfkikogbdeaaGreatDoorG55
namespace Go.Proofs.YtmomfkikogbdeaaGreatDoor
open Go.RowKit
theorem Cd{K:List ByteArray}{C:List Zh}{z:Int}(h:(Pj K C [] z).2.2=0):Pj K C [] z=(K,[],0):=by
 by_cases q:1000<z
 ·unfold Pj;rw[if_pos q]
 ·have e:Pj K C [] z=((swF K C [] z (swE K C [] z)).1,(swF K C [] z (swE K C [] z)).2.1,swE K C [] z):=by unfold Pj;rw[if_neg q]
  rw[e] at h ⊢
  have h:swE K C [] z=0:=h
  rw[h]
  unfold swF
  rw[if_pos rfl]
  rfl
theorem Zhv{K:List ByteArray}{C:List Zh}{z:Int}(hK:Bk.Right K)(hC:Z6 C)(h1:1≤z)(h2:z≤1000):Pj K C [] z=(K,[],0):=by
 refine Cd ?_
 unfold Pj
 rw[if_neg (by omega)]
 show swE K C [] z=0
 unfold swE
 rw[Tf hK hC h1 h2]
 rfl
theorem Fs{K:List ByteArray}:∀ (N:List Int) (T:List Zk) (β : Int→List Zh),(∀ x,Z6 (β x))→∀ x,Z6 ((Zq K N T β).2 x)
 | [],_,β,h,x=>by rw[Zq];exact h x
 | _ :: _,[],β,h,x=>by rw[Zq];exact h x
 | s :: N,b :: T,β,h,x=>by
  rw[Zq]
  split
  ·exact h x
  split
  ·exact h x
  rename_i q
  have q:=Decidable.not_not.1 q
  refine Fs N T _ (fun y=>?_) x
  unfold Xq
  split
  ·exact (Mn (show Wf K (β b.1) b=(0,(Wf K (β b.1) b).2.1,(Wf K (β b.1) b).2.2) from Prod.ext q rfl)).2.1
  ·exact h y
theorem Zaa(x:Int):Z6 (noB x):=(Zz []).1 rfl
theorem Zdd{K:List ByteArray}{N:List Int}{T:List Zk}{P:List TxD}{tip:Int}{b:Zk}{s:Int}{D:Dsk}(h:ntR K N T P tip b=(0,s,D)):opE K N T P tip=0∧tkR ⟨K,N,T,P,tip,(Zq K N T noB).2⟩ b=(0,s,D):=by
 unfold ntR at h
 split at h
 ·rename_i q;exact absurd (congrArg Prod.fst h) q
 rename_i q1;have q1:=Decidable.not_not.1 q1
 split at h
 ·rename_i q;exact absurd (congrArg Prod.fst h) q
 rename_i q2;have q2:=Decidable.not_not.1 q2
 simp only[Prod.mk.injEq,true_and] at h
 exact⟨q1,Prod.ext q2 (Prod.ext h.1 h.2)⟩
theorem Qg{K:List ByteArray}{N:List Int}{T:List Zk}{tip:Int}{b:Zk}{s:Int}{D:Dsk}(h:ntR K N T [] tip b=(0,s,D)) :
  opE K N T [] tip=0∧(∃ M,D.k=K++M)∧Bk.Right D.k∧kbD D.k s b=true∧s≠0∧Tr.addE N T s b=(D.n,D.t,0)∧D.p=[]∧(∃ C U,Wf D.k ((Zq K N T noB).2 b.1) b=(0,C,U)∧D.β = Xq (Zq K N T noB).2 s C)∧opE D.k D.n D.t D.p D.tip=0∧(Zq D.k D.n D.t noB).2=D.β:=by
 obtain⟨q1,e⟩:=Zdd h
 obtain⟨t1,t2,_,_,t5,t6,t7⟩:=Uv q1 e
 have hR:=(Bk.right_iff _).1 (Yf t1).1
 have hs0:s≠0:=by
  obtain⟨_,a2,_,_,_⟩:=Tr.addE_ok t7
  have:=(Tr.nextD_ok a2).1
  omega
 obtain⟨⟨K1,s1,Ns,x1⟩,h1⟩:∃ r,Xf K b=r:=⟨_,rfl⟩
 obtain⟨⟨N1,T1,x2⟩,h2⟩:∃ r,Tr.addE N T s1 b=r:=⟨_,rfl⟩
 obtain⟨⟨x3,C3,U3⟩,h3⟩:∃ r,Wf K1 ((Zq K N T noB).2 b.1) b=r:=⟨_,rfl⟩
 obtain⟨⟨t,x4⟩,h4⟩:∃ r,Tr.bstD N1 T1=r:=⟨_,rfl⟩
 obtain⟨z,hz⟩:∃ z,Ya N1 T1 t=z:=⟨_,rfl⟩
 unfold tkR at e
 simp only[h1,h2,h3,h4,hz] at e
 split at e
 ·rename_i q;exact absurd (congrArg Prod.fst e) q
 split at e
 ·rename_i q;exact absurd (congrArg Prod.fst e) q
 split at e
 ·rename_i q;exact absurd (congrArg Prod.fst e) q
 rename_i q3;have q3:=Decidable.not_not.1 q3;subst q3
 split at e
 ·rename_i q;exact absurd (congrArg Prod.fst e) q
 split at e
 ·rename_i q;exact absurd (congrArg Prod.fst e) q
 rename_i q5;have q5:=Decidable.not_not.1 q5
 have sw:=Cd q5
 rw[sw] at e
 simp only[Prod.mk.injEq,true_and] at e
 obtain⟨rfl,rfl⟩:=e
 exact⟨q1,t6,hR,t5,hs0,t7,rfl,⟨C3,U3,h3,rfl⟩,t1,t2⟩
theorem Cb{K:List ByteArray}{N:List Int}{T:List Zk}{tip:Int}{b:Zk}{s:Int}{C:List Zh}{U:List (List Zh)}(h:opE K N T [] tip=0)(hk:kbD K s b=true)(hs:s≠0)(ha:Tr.addE N T s b=(N++[s],T++[b],0))(hc:Wf K ((Zq K N T noB).2 b.1) b=(0,C,U)) :
  ∃ D,ntR K N T [] tip b=(0,s,D)∧D.k=K∧D.n=N++[s]∧D.t=T++[b]:=by
 obtain⟨o1,o2,o3,_⟩:=Yf h
 have hK:=(Bk.right_iff K).1 o1
 have hn:=U7 hK hs hk
 obtain⟨a1,a2,a3,_,_⟩:=Tr.addE_ok ha
 have hc1:=Tr.chkTr_snoc a1 a2 a3
 obtain⟨t,h4⟩:∃ t,Tr.bstD (N++[s]) (T++[b])=(t,0):=⟨_,Tr.bstD_mk hc1⟩
 have hz:=Ca h4
 have hR:Z6 (Xq (Zq K N T noB).2 s C t):=by
  unfold Xq
  split
  ·exact (Mn hc).2.1
  ·exact Fs N T noB Zaa t
 have sw:=Zhv hK hR (z:=Ya (N++[s]) (T++[b]) t+1) (by omega) (by omega)
 have e:tkR ⟨K,N,T,[],tip,(Zq K N T noB).2⟩ b=(0,s,⟨K,N++[s],T++[b],[],t,Xq (Zq K N T noB).2 s C⟩):=by
  unfold tkR
  simp only[hn,ha,hc,h4,sw,ne_eq,not_true_eq_false,if_false]
 refine⟨⟨K,N++[s],T++[b],[],t,Xq (Zq K N T noB).2 s C⟩,?_,rfl,rfl,rfl⟩
 unfold ntR
 rw[if_neg (by rw[h];decide),e]
 simp
theorem Zac{N:List Int}{T:List Zk}{x:Int}{b:Zk}(h1:1≤x∧x≤120)(h2:Yt b=0)(h3:x∉N)(h4:b.1≠0)(h5:b.1∉N):Tr.nextD N T x b=5:=by
 unfold Tr.nextD
 rw[if_neg (by simp[h1]),if_neg (by simp[h2]),if_neg (by simp[h3]),if_pos ⟨h4,by simp[h5]⟩]
theorem Ai{K M:List ByteArray}{N:List Int}{T:List Zk}{tip:Int}(h:opE K N T [] tip=0)(hM:Bk.Right (K++M)):opE (K++M) N T [] tip=0∧Zq (K++M) N T noB=Zq K N T noB:=by
 obtain⟨o1,o2,o3,_⟩:=Yf h
 have ok:=Tr.TrOk.of (Yh o2).1
 have cb:=Jk ((Bk.right_iff K).1 o1) hM N T noB (fun x hx=>by have:=(ok.nm x hx).1;omega) o3
 refine⟨?_,cb⟩
 unfold opE
 rw[if_neg (by rw[(Bk.right_iff _).2 hM];decide),o2]
 simp only[ne_eq,not_true_eq_false,if_false,cb,o3]
 rfl
theorem Ec{β : Int→List Zh}{s s':Int}{C C':List Zh}(h:s≠s'):Xq (Xq β s C) s' C'=Xq (Xq β s' C') s C:=by
 funext x
 unfold Xq
 by_cases e:x=s
 ·rw[if_neg (fun q=>h (e.symm.trans q)),if_pos e,if_pos e]
 ·rw[if_neg e,if_neg e]
theorem Ea{N:List Int}{T:List Zk}{x:Int}{b:Zk}(h1:Tr.chkTr N T=0)(h2:Tr.nextD N T x b=0)(h3:N.length≠24):Tr.addE N T x b=(N++[x],T++[b],0):=by
 unfold Tr.addE
 rw[if_neg (fun q=>q h1),if_neg (fun q=>q h2),if_neg h3]
theorem Df{K:List ByteArray}{N:List Int}{T:List Zk}{tip:Int}{b c:Zk}{s r:Int}{D E:Dsk}(h1:ntR K N T [] tip b=(0,s,D))(h2:ntR D.k D.n D.t D.p D.tip c=(0,r,E)) :
  D.p=[]∧E.p=[]∧(ntR E.k N T [] tip c=(5,0,Dsk.none)∨∃ F G,ntR E.k N T [] tip c=(0,r,F)∧F.p=[]∧ntR F.k F.n F.t F.p F.tip b=(0,s,G)∧G.p=[]∧G.tip=E.tip∧G.k=E.k∧opE E.k E.n E.t E.p E.tip=0∧opE G.k G.n G.t G.p G.tip=0∧(Zq G.k G.n G.t noB).2 G.tip=(Zq E.k E.n E.t noB).2 E.tip):=by
 obtain⟨b1,⟨M1,b2⟩,b3,b4,b5,b6,b7,⟨C1,U1,b8,b9⟩,b10,b11⟩:=Qg h1
 rw[b7] at h2
 obtain⟨c1,⟨M2,c2⟩,c3,c4,c5,c6,c7,⟨C2,U2,c8,c9⟩,c10,c11⟩:=Qg h2
 refine⟨b7,c7,?_⟩
 rw[b11,b9] at c8 c9
 obtain⟨x1,x2,x3,x4,x5⟩:=Tr.addE_ok b6
 obtain⟨y1,y2,y3,y4,y5⟩:=Tr.addE_ok c6
 rw[x4,x5] at y1 y2
 rw[x4] at y3 y4
 rw[x5] at y5
 have okN:=Tr.TrOk.of x1
 obtain⟨p1,p2,p3,p4,p5⟩:=Tr.nextD_ok x2
 obtain⟨q1,q2,q3,q4,q5⟩:=Tr.nextD_ok y2
 have hlen:N.length+1≠24:=by simpa using y3
 have hl24:N.length≤24:=(Wp x1).2.1
 have hKE:E.k=K++(M1++M2):=by rw[c2,b2,List.append_assoc]
 obtain⟨ol,cl⟩:=Ai b1 (hKE ▸ c3)
 rw[←hKE] at ol cl
 have hrN:r∉N:=fun q=>q3 (by simp[q])
 have hrs:r≠s:=fun q=>q3 (by simp[q])
 have hn:=U7 c3 c5 c4
 by_cases hst:c.1=0∨c.1∈N
 ·right
  have hcs:c.1≠s:=by
   rcases hst with q|q
   ·rw[q];omega
   ·exact fun e=>p3 (e ▸ q)
  have hfn:=okN.same (b:=b) p1.1 hst
  have aD:Tr.nextD N T r c=0:=Tr.nextD_mk q1 q2 hrN hst (by rw[←hfn];exact q5)
  have aC:=Ea x1 aD x3
  have e1:Xq (Zq K N T noB).2 s C1 c.1=(Zq K N T noB).2 c.1:=by unfold Xq;rw[if_neg hcs]
  rw[e1] at c8
  obtain⟨F,f1,f2,f3,f4⟩:=Cb ol c4 c5 aC (by rw[cl];exact c8)
  obtain⟨g1,_,g3,g4,_,g6,g7,⟨C3,U3,g8,g9⟩,g10,g11⟩:=Qg f1
  rw[f2,cl,c8] at g8
  obtain⟨_,g8⟩:=Prod.mk.inj g8
  obtain⟨g8,_⟩:=Prod.mk.inj g8
  subst g8
  obtain⟨z1,z2,z3,_,_⟩:=Tr.addE_ok g6
  have okF:=Tr.TrOk.of (Tr.chkTr_snoc z1 z2 z3)
  have hsF:s∉N++[r]:=by
   intro q
   rcases List.mem_append.1 q with q|q
   ·exact p3 q
   ·exact hrs (List.mem_singleton.1 q).symm
  have hbr:b.1≠r:=by
   rcases p4 with q|q
   ·rw[q];omega
   ·exact fun e=>hrN (e ▸ q)
  have bD:Tr.nextD (N++[r]) (T++[c]) s b=0:=Tr.nextD_mk p1 p2 hsF (p4.imp id (fun q=>by simp[q])) (by rw[okN.same (b:=c) q1.1 p4];exact p5)
  have aB:=Ea (Tr.chkTr_snoc z1 z2 z3) bD (by simpa using hlen)
  have hk:kbD E.k s b=true:=by rw[c2];exact Ui b5 b4
  have hcon:Wf E.k ((Zq F.k F.n F.t noB).2 b.1) b=(0,C1,U1):=by
   rw[g11,g9,cl]
   have e2:Xq (Zq K N T noB).2 r C2 b.1=(Zq K N T noB).2 b.1:=by unfold Xq;rw[if_neg hbr]
   rw[e2,c2,Lu b3 (c2 ▸ c3) b5 b4]
   exact b8
  rw[f2,f3,f4,g7] at g10
  rw[f2,f3,f4] at hcon
  obtain⟨G,k1,k2,k3,k4⟩:=Cb g10 hk b5 aB hcon
  obtain⟨_,_,_,_,_,_,l7,⟨C4,U4,l8,l9⟩,l10,l11⟩:=Qg k1
  rw[k2,hcon] at l8
  obtain⟨_,l8⟩:=Prod.mk.inj l8
  obtain⟨l8,_⟩:=Prod.mk.inj l8
  subst l8
  have hβ : (Zq G.k G.n G.t noB).2=(Zq E.k E.n E.t noB).2:=by
   rw[l11,l9,c11,c9]
   have:(Zq E.k (N++[r]) (T++[c]) noB).2=Xq (Zq K N T noB).2 r C2:=by
    rw[f2,f3,f4] at g11
    rw[g11,g9,cl]
   rw[this]
   exact Ec hrs
  have htip:G.tip=E.tip:=by
   have t1:=(Yf l10).2.1
   have t2:=(Yf c10).2.1
   have ch1:=(Yh t1).1
   have ch2:=(Yh t2).1
   unfold Tr.bstD at t1 t2
   rw[if_neg (fun q=>q ch1)] at t1
   rw[if_neg (fun q=>q ch2)] at t2
   have t1:=congrArg Prod.fst t1
   have t2:=congrArg Prod.fst t2
   simp only at t1 t2
   rw[←t1,←t2]
   rw[k3,k4] at ch1 ⊢
   rw[y4,y5] at ch2 ⊢
   refine Tr.best_same ⟨ch1,fun y hy=>?_,fun y hy=>?_⟩ ch2 (fun y hy=>?_)
   ·simp only[List.mem_append,List.mem_singleton] at hy ⊢
    rcases hy with (hy|hy)|hy
    ·exact .inl (.inl hy)
    ·exact .inr hy
    ·exact .inl (.inr hy)
   ·have okG:=Tr.TrOk.of (Tr.chkTr_snoc x1 x2 x3)
    simp only[List.mem_append,List.mem_singleton] at hy
    rcases hy with (hy|hy)|hy
    ·rw[okF.same p1.1 (.inr (by simp[hy])),okN.same q1.1 (.inr hy),okG.same q1.1 (.inr (by simp[hy])),okN.same p1.1 (.inr hy)]
    ·subst hy
     rw[okF.same p1.1 (.inr (by simp)),okN.new hrN,okG.new q3]
    ·subst hy
     rw[okF.new hsF,okG.same q1.1 (.inr (by simp)),okN.new p3]
   ·simp only[List.mem_append,List.mem_singleton] at hy ⊢
    rcases hy with (hy|hy)|hy
    ·exact .inl (.inl hy)
    ·exact .inr hy
    ·exact .inl (.inr hy)
  refine⟨F,G,f1,g7,?_,l7,htip,k2,c10,l10,by rw[hβ,htip]⟩
  rw[f2,f3,f4,g7]
  exact k1
 ·left
  have hst:c.1≠0∧c.1∉N:=⟨fun q=>hst (.inl q),fun q=>hst (.inr q)⟩
  have aD:=Zac (T:=T) q1 q2 hrN hst.1 hst.2
  have aC:Tr.addE N T r c=([],[],5):=by
   unfold Tr.addE
   rw[if_neg (fun q=>q x1),aD,if_pos (by decide)]
  have e:tkR ⟨E.k,N,T,[],tip,(Zq E.k N T noB).2⟩ c=(5,0,⟨E.k,N,T,[],tip,(Zq E.k N T noB).2⟩):=by
   unfold tkR
   simp only[hn,aC]
   rw[if_neg (fun q=>q rfl),if_pos (by decide)]
  unfold ntR
  rw[if_neg (by rw[ol];decide),e,if_pos (by simp)]
set_option maxRecDepth 10000 in
set_option maxHeartbeats 12800000 in
theorem Ki(ka:Option Addr)(kn kc:Nat)(K:List ByteArray)(na ba pa:Option Addr)(nn nc bn bc pn pc:Nat)(N:List Int)(T:List Zk)(tip:Int)(p hh k o:Int)(a:Option Addr)(n c:Nat)(L:List TxD)(p' hh' k' o':Int)(a':Option Addr)(n' c':Nat)(L':List TxD)(w:World)(hE:Env w)(hK:Bk.TextsAt w ka kn K)(hN:Tr.IntsAt w na nn N)(hT:Tr.BlksAt w ba bn T)(sN:SlOk na nn nc)(sT:SlOk ba bn bc)(hL:TxsAt w a n L)(sL:SlOk a n c)(hL':TxsAt w a' n' L')(sL':SlOk a' n' c') :
  Calls Tryz.prog 10 #[.agg #[.slice ka kn kc],.agg #[.slice na nn nc,.slice ba bn bc,.slice pa pn pc,.int .i64 tip],.agg #[.int .i64 p,.int .i64 hh,.int .i64 k,.int .i64 o,.slice a n c],.agg #[.int .i64 p',.int .i64 hh',.int .i64 k',.int .i64 o',.slice a' n' c']] w fun e w'=>e = .returned (.bool true)∧Below w.heap.size w w':=by
 obtain⟨X,hX⟩:∃ X,X=Z9 w [.cells #[.slice ka kn kc] 24,.cells #[.slice na nn nc,.slice ba bn bc,.slice none 0 0,.int .i64 tip] 67,.cells #[.int .i64 p,.int .i64 hh,.int .i64 k,.int .i64 o,.slice a n c] 39,.cells #[.int .i64 p',.int .i64 hh',.int .i64 k',.int .i64 o',.slice a' n' c'] 39]:=⟨_,rfl⟩
 have hX':X=((((w.alloc (.cells #[.slice ka kn kc] 24)).alloc (.cells #[.slice na nn nc,.slice ba bn bc,.slice none 0 0,.int .i64 tip] 67)).alloc (.cells #[.int .i64 p,.int .i64 hh,.int .i64 k,.int .i64 o,.slice a n c] 39)).alloc (.cells #[.int .i64 p',.int .i64 hh',.int .i64 k',.int .i64 o',.slice a' n' c'] 39)):=hX
 have hbX:Below w.heap.size w X:=by rw[hX];exact Zp _ _
 have Fk_X:Hid (X.heap[w.heap.size]? = some (.cells [.slice ka kn kc].toArray 24 (0,0))):=by show X.heap[w.heap.size]? = _;rw[hX];exact Zm _ w 0 _ rfl
 have Fn_X:Hid (X.heap[w.heap.size+1]? = some (.cells [.slice na nn nc,.slice ba bn bc,.slice none 0 0,.int .i64 tip].toArray 67 (0,0))):=by show X.heap[w.heap.size+1]? = _;rw[hX];exact Zm _ w 1 _ rfl
 have Fb_X:Hid (X.heap[w.heap.size+2]? = some (.cells [.int .i64 p,.int .i64 hh,.int .i64 k,.int .i64 o,.slice a n c].toArray 39 (0,0))):=by show X.heap[w.heap.size+2]? = _;rw[hX];exact Zm _ w 2 _ rfl
 have Fc_X:Hid (X.heap[w.heap.size+3]? = some (.cells [.int .i64 p',.int .i64 hh',.int .i64 k',.int .i64 o',.slice a' n' c'].toArray 39 (0,0))):=by show X.heap[w.heap.size+3]? = _;rw[hX];exact Zm _ w 3 _ rfl
 obtain⟨⟨x,s,D⟩,hx⟩:∃ r,ntR K N T [] tip (p,hh,k,o,L)=r:=⟨_,rfl⟩
 have HD:Hid (∀ V,Below w.heap.size w V→Env V∧Bk.TextsAt V ka kn K∧Tr.IntsAt V na nn N∧Tr.BlksAt V ba bn T∧TxsAt V none 0 []∧TxsAt V a n L∧TxsAt V a' n' L'):=fun V hv=>⟨hE.later hv,hK.later hv,hN.later hv,hT.later hv,RowsAt.nil _ _,hL.later hv,hL'.later hv⟩
 have HS:=Zb (⟨sN,sT,sL,sL'⟩:SlOk na nn nc∧SlOk ba bn bc∧SlOk a n c∧SlOk a' n' c')
 have C1:=Zb (U8 ka kn kc K na ba none nn nc bn bc 0 0 N T [] tip X (hE.later hbX) (hK.later hbX) (hN.later hbX) (hT.later hbX) (RowsAt.nil _ _) sN sT Zw (by decide) (fun t ht=>by cases ht) p hh k o a n c L (hL.later hbX) sL x s D hx)
 have HX1:=Zb hx
 have Bw_X:Hid (Below w.heap.size w X):=hbX
 clear hE hK hN hT sN sT hL sL hL' sL' hx hbX hX
 obtain⟨mk0,mlk⟩:=cl1 Fk_X
 obtain⟨mn0,mn1,mn2,mn3,mln⟩:=cl4 Fn_X
 obtain⟨mb0,mb1,mb2,mb3,mb4,mlb⟩:=cl5 Fb_X
 obtain⟨mc0,mc1,mc2,mc3,mc4,mlc⟩:=cl5 Fc_X
 go_enter Tryz.func10,Tryz.ntmps10
 go_wp2_with fail
 rw[←hX']
 clear hX'
 (try go_wp2_with fail)
 refine (Za C1).mono ?_
 rintro e w1 ⟨k5,k5n,k5c,n5,n5n,n5c,b5,b5n,b5c,p5,p5n,p5c,rfl,hF,s1,s2,s3,s4,hb1⟩
 clear mk0 mlk mn0 mn1 mn2 mn3 mln mb0 mb1 mb2 mb3 mb4 mlb mc0 mc1 mc2 mc3 mc4 mlc
 clear C1
 obtain⟨Y,hY⟩:∃ Y,Y=Z9 w1 [.cells #[.slice k5 k5n k5c] 24,.cells #[.slice n5 n5n n5c,.slice b5 b5n b5c,.slice p5 p5n p5c,.int .i64 D.tip] 67]:=⟨_,rfl⟩
 have hY':Y=((w1.alloc (.cells #[.slice k5 k5n k5c] 24)).alloc (.cells #[.slice n5 n5n n5c,.slice b5 b5n b5c,.slice p5 p5n p5c,.int .i64 D.tip] 67)):=hY
 have hbY:Below w1.heap.size w1 Y:=by rw[hY];exact Zp _ _
 have Fk5_Y:Hid (Y.heap[w1.heap.size]? = some (.cells [.slice k5 k5n k5c].toArray 24 (0,0))):=by show Y.heap[w1.heap.size]? = _;rw[hY];exact Zm _ w1 0 _ rfl
 have Fn5_Y:Hid (Y.heap[w1.heap.size+1]? = some (.cells [.slice n5 n5n n5c,.slice b5 b5n b5c,.slice p5 p5n p5c,.int .i64 D.tip].toArray 67 (0,0))):=by show Y.heap[w1.heap.size+1]? = _;rw[hY];exact Zm _ w1 1 _ rfl
 have hbXY:=Zf hb1 hbY
 have HDD:=Zb (hF Y (Gr.of hbY))
 have HS5:=Zb (⟨s2,s3,s4⟩:SlOk n5 n5n n5c∧SlOk b5 b5n b5c∧SlOk p5 p5n p5c)
 have Fk_Y:=mvd hbXY Fk_X
 have Fn_Y:=mvd hbXY Fn_X
 have Fb_Y:=mvd hbXY Fb_X
 have Fc_Y:=mvd hbXY Fc_X
 have Bw_Y:=onb Bw_X hbXY
 clear Fk_X Fn_X Fb_X Fc_X Bw_X
 have BY_Y:Hid (Below Y.heap.size Y Y):=Below.refl _ _
 have D1:=Zb (W9 Y ((Za HD) Y (Za Bw_Y)).1)
 clear hY hbY hb1 hF s1 s2 s3 s4 hbXY
 by_cases h0:x=0
 ·subst h0
  obtain⟨⟨x2,r,E⟩,hx2⟩:∃ q,ntR D.k D.n D.t D.p D.tip (p',hh',k',o',L')=q:=⟨_,rfl⟩
  obtain⟨q1,q2⟩:=Zdd (Za HX1)
  have tn:=(Uv q1 q2).1
  have psm:=Vw tn
  have nd:=Za HDD
  have pl:D.p.length=p5n:=nd.p.1
  obtain⟨z2,z3,z4⟩:=Za HS5
  have C2:=Zb (fun V (hv:Below Y.heap.size Y V)=>U8 k5 k5n k5c D.k n5 b5 p5 n5n n5c b5n b5c p5n p5c D.n D.t D.p D.tip V ((Za HD) V (Zf (Za Bw_Y) hv)).1 (nd.k.later hv) (nd.n.later hv) (nd.b.later hv) (nd.p.later hv) z2 z3 z4 (by omega) psm.2 p' hh' k' o' a' n' c' L' ((Za HD) V (Zf (Za Bw_Y) hv)).2.2.2.2.2.2 (Za HS).2.2.2 x2 r E hx2)
  have HX2:=Zb hx2
  clear q1 q2 tn psm nd pl z2 z3 z4 hx2 HDD HS5
  go_upto_region 3 with fail
  rw[←hY']
  clear hY'
  go_wp2_with fail
  refine (Za D1).mono ?_
  rintro e w2 ⟨rfl,hb2⟩
  have Fk_w2:=mvd hb2 Fk_Y
  have Fn_w2:=mvd hb2 Fn_Y
  have Fb_w2:=mvd hb2 Fb_Y
  have Fc_w2:=mvd hb2 Fc_Y
  have Fk5_w2:=mvd hb2 Fk5_Y
  have Fn5_w2:=mvd hb2 Fn5_Y
  have Bw_w2:=onb Bw_Y hb2
  have BY_w2:=onb BY_Y hb2
  clear Fk_Y Fn_Y Fb_Y Fc_Y Fk5_Y Fn5_Y Bw_Y BY_Y
  have E2:=Zb ((Za C2) w2 (Za BY_w2))
  clear hb2 D1 C2
  obtain⟨mk0,mlk⟩:=cl1 Fk_w2
  obtain⟨mn0,mn1,mn2,mn3,mln⟩:=cl4 Fn_w2
  obtain⟨mb0,mb1,mb2,mb3,mb4,mlb⟩:=cl5 Fb_w2
  obtain⟨mc0,mc1,mc2,mc3,mc4,mlc⟩:=cl5 Fc_w2
  obtain⟨mk50,mlk5⟩:=cl1 Fk5_w2
  obtain⟨mn50,mn51,mn52,mn53,mln5⟩:=cl4 Fn5_w2
  go_wp2_with fail
  refine (Za E2).mono ?_
  rintro e w3 ⟨k6,k6n,k6c,n6,n6n,n6c,b6,b6n,b6c,p6,p6n,p6c,rfl,hF,s1,s2,s3,s4,hb3⟩
  clear mk0 mlk mn0 mn1 mn2 mn3 mln mb0 mb1 mb2 mb3 mb4 mlb mc0 mc1 mc2 mc3 mc4 mlc mk50 mlk5 mn50 mn51 mn52 mn53 mln5
  clear E2
  clear Fk5_w2
  clear Fn5_w2
  clear BY_w2
  obtain⟨Z,hZ⟩:∃ Z,Z=Z9 w3 [.cells #[.slice k6 k6n k6c] 24,.cells #[.slice n6 n6n n6c,.slice b6 b6n b6c,.slice p6 p6n p6c,.int .i64 E.tip] 67]:=⟨_,rfl⟩
  have hZ':Z=((w3.alloc (.cells #[.slice k6 k6n k6c] 24)).alloc (.cells #[.slice n6 n6n n6c,.slice b6 b6n b6c,.slice p6 p6n p6c,.int .i64 E.tip] 67)):=hZ
  have hbZ:Below w3.heap.size w3 Z:=by rw[hZ];exact Zp _ _
  have Fk6_Z:Hid (Z.heap[w3.heap.size]? = some (.cells [.slice k6 k6n k6c].toArray 24 (0,0))):=by show Z.heap[w3.heap.size]? = _;rw[hZ];exact Zm _ w3 0 _ rfl
  have Fn6_Z:Hid (Z.heap[w3.heap.size+1]? = some (.cells [.slice n6 n6n n6c,.slice b6 b6n b6c,.slice p6 p6n p6c,.int .i64 E.tip].toArray 67 (0,0))):=by show Z.heap[w3.heap.size+1]? = _;rw[hZ];exact Zm _ w3 1 _ rfl
  have hbYZ:=Zf hb3 hbZ
  have HDE:=Zb (hF Z (Gr.of hbZ))
  have HS6:=Zb (⟨s1,s2,s3,s4⟩:SlOk k6 k6n k6c∧SlOk n6 n6n n6c∧SlOk b6 b6n b6c∧SlOk p6 p6n p6c)
  have Fk_Z:=mvd hbYZ Fk_w2
  have Fn_Z:=mvd hbYZ Fn_w2
  have Fb_Z:=mvd hbYZ Fb_w2
  have Fc_Z:=mvd hbYZ Fc_w2
  have Bw_Z:=onb Bw_w2 hbYZ
  clear Fk_w2 Fn_w2 Fb_w2 Fc_w2 Bw_w2
  have BZ_Z:Hid (Below Z.heap.size Z Z):=Below.refl _ _
  clear hZ hbZ hb3 hF s1 s2 s3 s4 hbYZ
  by_cases h2:x2=0
  ·subst h2
   obtain⟨⟨x3,s3,F⟩,hx3⟩:∃ q,ntR E.k N T [] tip (p',hh',k',o',L')=q:=⟨_,rfl⟩
   have op:=Df (Za HX1) (Za HX2)
   have nd:=Za HDE
   obtain⟨z2,z3,z4,z5⟩:=Za HS
   obtain⟨d1,d2,d3,d4,d5,d6,d7⟩:=(Za HD) Z (Za Bw_Z)
   have C3:=Zb (U8 k6 k6n k6c E.k na ba none nn nc bn bc 0 0 N T [] tip Z d1 nd.k d3 d4 d5 z2 z3 Zw (by decide) (fun t ht=>by cases ht) p' hh' k' o' a' n' c' L' d7 z5 x3 s3 F hx3)
   have HOP:=Zb op
   have HX3:=Zb hx3
   clear op nd z2 z3 z4 z5 d1 d2 d3 d4 d5 d6 d7 hx3 HX1 HX2
   go_upto_region 6 with fail
   rw[←hZ']
   clear hZ'
   obtain⟨mk0,mlk⟩:=cl1 Fk_Z
   obtain⟨mn0,mn1,mn2,mn3,mln⟩:=cl4 Fn_Z
   obtain⟨mb0,mb1,mb2,mb3,mb4,mlb⟩:=cl5 Fb_Z
   obtain⟨mc0,mc1,mc2,mc3,mc4,mlc⟩:=cl5 Fc_Z
   obtain⟨mk60,mlk6⟩:=cl1 Fk6_Z
   obtain⟨mn60,mn61,mn62,mn63,mln6⟩:=cl4 Fn6_Z
   go_wp2_with fail
   refine (Za C3).mono ?_
   rintro e w4 ⟨k7,k7n,k7c,n7,n7n,n7c,b7,b7n,b7c,p7,p7n,p7c,rfl,hF,s1,s2,s4,s5,hb4⟩
   clear mk0 mlk mn0 mn1 mn2 mn3 mln mb0 mb1 mb2 mb3 mb4 mlb mc0 mc1 mc2 mc3 mc4 mlc mk60 mlk6 mn60 mn61 mn62 mn63 mln6
   clear C3
   have HLk6:Hid (w3.heap.size+1<w4.heap.size):=Nat.lt_of_lt_of_le (lt_of_block (Za Fn6_Z)) hb4.size
   have HLn6:=HLk6
   have HLZ:Hid (Z.heap.size≤w4.heap.size):=hb4.size
   have HLw:Hid (w.heap.size≤w4.heap.size):=Nat.le_trans (Za Bw_Z).size hb4.size
   obtain⟨U,hU⟩:∃ U,U=Z9 w4 [.cells #[.slice k7 k7n k7c] 24,.cells #[.slice n7 n7n n7c,.slice b7 b7n b7c,.slice p7 p7n p7c,.int .i64 F.tip] 67]:=⟨_,rfl⟩
   have hU':U=((w4.alloc (.cells #[.slice k7 k7n k7c] 24)).alloc (.cells #[.slice n7 n7n n7c,.slice b7 b7n b7c,.slice p7 p7n p7c,.int .i64 F.tip] 67)):=hU
   have hbU:Below w4.heap.size w4 U:=by rw[hU];exact Zp _ _
   have Fk7_U:Hid (U.heap[w4.heap.size]? = some (.cells [.slice k7 k7n k7c].toArray 24 (0,0))):=by show U.heap[w4.heap.size]? = _;rw[hU];exact Zm _ w4 0 _ rfl
   have Fn7_U:Hid (U.heap[w4.heap.size+1]? = some (.cells [.slice n7 n7n n7c,.slice b7 b7n b7c,.slice p7 p7n p7c,.int .i64 F.tip].toArray 67 (0,0))):=by show U.heap[w4.heap.size+1]? = _;rw[hU];exact Zm _ w4 1 _ rfl
   have hbZU:=Zf hb4 hbU
   have HDF:=Zb (hF U (Gr.of hbU))
   have HS7:=Zb (⟨s2,s4,s5⟩:SlOk n7 n7n n7c∧SlOk b7 b7n b7c∧SlOk p7 p7n p7c)
   have Fk_U:=mvd hbZU Fk_Z
   have Fn_U:=mvd hbZU Fn_Z
   have Fb_U:=mvd hbZU Fb_Z
   have Fc_U:=mvd hbZU Fc_Z
   have Fk6_U:=mvd hbZU Fk6_Z
   have Fn6_U:=mvd hbZU Fn6_Z
   have Bw_U:=onb Bw_Z hbZU
   have BZ_U:=onb BZ_Z hbZU
   clear Fk_Z Fn_Z Fb_Z Fc_Z Fk6_Z Fn6_Z Bw_Z BZ_Z
   have BU_U:Hid (Below U.heap.size U U):=Below.refl _ _
   have Bw4_U:Hid (Below w4.heap.size w4 U):=hbU
   have HLU:Hid (w4.heap.size+1<U.heap.size):=lt_of_block (Za Fn7_U)
   clear hU hbU hb4 hF s1 s2 s4 s5 hbZU
   obtain⟨op1,op2,op3⟩:=Za HOP
   clear HOP
   rcases op3 with op3|⟨F',G,f1,f2,f3,f4,f5,f6,f7,f8,f9⟩
   ·have e3:=(Za HX3).symm.trans op3
    simp only[Prod.mk.injEq] at e3
    obtain⟨rfl,rfl,rfl⟩:=e3
    clear op1 op2 op3
    go_upto_region 9 with fail
    rw[←hU']
    clear hU'
    go_wp2
    go_ret
    exact⟨rfl,Za Bw_U⟩
   ·have e3:=(Za HX3).symm.trans f1
    simp only[Prod.mk.injEq] at e3
    obtain⟨rfl,rfl,rfl⟩:=e3
    clear HX3
    obtain⟨q1,q2⟩:=Zdd f1
    have psm:=Vw (Uv q1 q2).1
    have nd:=Za HDF
    have pl:F.p.length=p7n:=nd.p.1
    obtain⟨z2,z3,z4⟩:=Za HS7
    obtain⟨d1,d2,d3,d4,d5,d6,d7⟩:=(Za HD) U (Za Bw_U)
    have C4:=Zb (U8 k7 k7n k7c F.k n7 b7 p7 n7n n7c b7n b7c p7n p7c F.n F.t F.p F.tip U d1 nd.k nd.n nd.b nd.p z2 z3 z4 (by omega) psm.2 p hh k o a n c L d6 (Za HS).2.2.1 0 s G f3)
    have HFF:=Zb (⟨f4,f5,f6,f7,f8,f9,op2⟩:G.p=[]∧G.tip=E.tip∧G.k=E.k∧opE E.k E.n E.t E.p E.tip=0∧opE G.k G.n G.t G.p G.tip=0∧(Zq G.k G.n G.t noB).2 G.tip=(Zq E.k E.n E.t noB).2 E.tip∧E.p=[])
    clear op1 op2 f1 f2 f3 f4 f5 f6 f7 f8 f9 q1 q2 psm nd pl z2 z3 z4 d1 d2 d3 d4 d5 d6 d7 HDF HS7
    go_upto_region 9 with fail
    rw[←hU']
    clear hU'
    obtain⟨mk0,mlk⟩:=cl1 Fk_U
    obtain⟨mn0,mn1,mn2,mn3,mln⟩:=cl4 Fn_U
    obtain⟨mb0,mb1,mb2,mb3,mb4,mlb⟩:=cl5 Fb_U
    obtain⟨mc0,mc1,mc2,mc3,mc4,mlc⟩:=cl5 Fc_U
    obtain⟨mk60,mlk6⟩:=cl1 Fk6_U
    obtain⟨mn60,mn61,mn62,mn63,mln6⟩:=cl4 Fn6_U
    obtain⟨mk70,mlk7⟩:=cl1 Fk7_U
    obtain⟨mn70,mn71,mn72,mn73,mln7⟩:=cl4 Fn7_U
    go_wp2_with fail
    refine (Za C4).mono ?_
    rintro e w5 ⟨k8,k8n,k8c,n8,n8n,n8c,b8,b8n,b8c,p8,p8n,p8c,rfl,hF,s1,s2,s4,s5,hb5⟩
    clear mk0 mlk mn0 mn1 mn2 mn3 mln mb0 mb1 mb2 mb3 mb4 mlb mc0 mc1 mc2 mc3 mc4 mlc mk60 mlk6 mn60 mn61 mn62 mn63 mln6 mk70 mlk7 mn70 mn71 mn72 mn73 mln7
    clear C4
    have Fk_w5:=mvd hb5 Fk_U
    have Fn_w5:=mvd hb5 Fn_U
    have Fb_w5:=mvd hb5 Fb_U
    have Fc_w5:=mvd hb5 Fc_U
    have Fk6_w5:=mvd hb5 Fk6_U
    have Fn6_w5:=mvd hb5 Fn6_U
    have Fk7_w5:=mvd hb5 Fk7_U
    have Fn7_w5:=mvd hb5 Fn7_U
    have Bw_w5:=onb Bw_U hb5
    have BZ_w5:=onb BZ_U hb5
    have BU_w5:=onb BU_U hb5
    have Bw4_w5:=onb Bw4_U hb5
    clear Fk_U Fn_U Fb_U Fc_U Fk6_U Fn6_U Fk7_U Fn7_U Bw_U BZ_U BU_U Bw4_U
    have tk0:=Zd (Za Fk7_w5) 0 _ rfl
    have tfk0:=Zg (Za Fk7_w5) 0
    have tlk:=lt_of_block (Za Fk7_w5)
    have tn0:=Zd (Za Fn7_w5) 0 _ rfl
    have tfn0:=Zg (Za Fn7_w5) 0
    have tn1:=Zd (Za Fn7_w5) 1 _ rfl
    have tfn1:=Zg (Za Fn7_w5) 1
    have tn2:=Zd (Za Fn7_w5) 2 _ rfl
    have tfn2:=Zg (Za Fn7_w5) 2
    have tn3:=Zd (Za Fn7_w5) 3 _ rfl
    have tfn3:=Zg (Za Fn7_w5) 3
    have tln:=lt_of_block (Za Fn7_w5)
    obtain⟨V,hV⟩:∃ V,V=((((w5.setCell ⟨w4.heap.size,0,none⟩ (.slice k8 k8n k8c)).setCell ⟨w4.heap.size+1,0,none⟩ (.slice n8 n8n n8c)).setCell ⟨w4.heap.size+1,1,none⟩ (.slice b8 b8n b8c)).setCell ⟨w4.heap.size+1,2,none⟩ (.slice p8 p8n p8c)).setCell ⟨w4.heap.size+1,3,none⟩ (.int .i64 G.tip):=⟨_,rfl⟩
    have g0:Gr w5 (w5.setCell ⟨w4.heap.size,0,none⟩ (.slice k8 k8n k8c)) (fun q=>q=w4.heap.size):=(Gr.refl w5 (fun q=>q=w4.heap.size)).one (w4.heap.size) 0 (.inl rfl) _
    have g1:Gr (w5.setCell ⟨w4.heap.size,0,none⟩ (.slice k8 k8n k8c)) V (fun q=>q=w4.heap.size+1):=by rw[hV];exact (Gr.refl _ (fun q=>q=w4.heap.size+1)).four (w4.heap.size+1) (.inl rfl) _ _ _ _
    have gV:Gr w5 V (fun q=>q=w4.heap.size∨q=w4.heap.size+1):=(g0.mono (fun _ _ e=>.inl e)).trans (g1.mono (fun _ _ e=>.inr e))
    have Fk7_V:Hid (V.heap[w4.heap.size]? = some (.cells [.slice k8 k8n k8c].toArray 24 (0,0))):=g1.heap (Tr.set_cells (Za Fk7_w5) 0 _) (fun e=>by have e:w4.heap.size=w4.heap.size+1:=e;omega)
    have Fn7_V:Hid (V.heap[w4.heap.size+1]? = some (.cells [.slice n8 n8n n8c,.slice b8 b8n b8c,.slice p8 p8n p8c,.int .i64 G.tip].toArray 67 (0,0))):=by
     show V.heap[w4.heap.size+1]? = _
     rw[hV]
     exact Tr.set_cells (Tr.set_cells (Tr.set_cells (Tr.set_cells (g0.heap (Za Fn7_w5) (fun e=>by have e:w4.heap.size+1=w4.heap.size:=e;omega)) 0 _) 1 _) 2 _) 3 _
    clear Fk7_w5 Fn7_w5
    clear Fk_w5
    clear Fn_w5
    clear Fb_w5
    clear Fc_w5
    have Fk6_V:Hid (V.heap[w3.heap.size]? = some (.cells [.slice k6 k6n k6c].toArray 24 (0,0))):=gV.heap (Za Fk6_w5) (fun e=>by have:=Za HLk6;rcases e with e|e <;> omega)
    clear Fk6_w5
    have Fn6_V:Hid (V.heap[w3.heap.size+1]? = some (.cells [.slice n6 n6n n6c,.slice b6 b6n b6c,.slice p6 p6n p6c,.int .i64 E.tip].toArray 67 (0,0))):=gV.heap (Za Fn6_w5) (fun e=>by have:=Za HLn6;rcases e with e|e <;> omega)
    clear Fn6_w5
    have BwV:Hid (Below w.heap.size w V):=gV.below (Za Bw_w5) (Za Bw_w5).size (fun q e=>by have:=Za HLw;rcases e with e|e <;> omega)
    have BZV:Hid (Below Z.heap.size Z V):=gV.below (Za BZ_w5) (Za BZ_w5).size (fun q e=>by have:=Za HLZ;rcases e with e|e <;> omega)
    have nG:=hF V (gV.mono (fun q hq e=>by have:=Za HLU;rcases e with e|e <;> omega))
    clear Bw_w5 BZ_w5 BU_w5 Bw4_w5
    have BV_V:Hid (Below V.heap.size V V):=Below.refl _ _
    have nE:=Za HDE
    have hbZ:=Za BZV
    obtain⟨f4,f5,f6,f7,f8,f9,op2⟩:=Za HFF
    obtain⟨z1,z2,z3,z4⟩:=Za HS6
    have plE:E.p.length=p6n:=nE.p.1
    have plG:G.p.length=p8n:=nG.p.1
    rw[op2] at plE
    rw[f4] at plG
    have plE:p6n=0:=plE.symm
    have plG:p8n=0:=plG.symm
    have QE:=Zb (fun W (hw:Below V.heap.size V W)=>Bk.eqStr_is k8 k6 k8n k6n k8c k6c G.k E.k true W (Nat.le_trans s1.1 s1.2.1) (nG.k.later hw) (nE.k.later (Zf hbZ hw)) (by simp[f6]))
    obtain⟨C,hC⟩:∃ C,(Zq E.k E.n E.t noB).2 E.tip=C:=⟨_,rfl⟩
    have Q1:=Zb (fun W (hw:Below V.heap.size V W)=>U9 k6 k6n k6c E.k n6 b6 p6 n6n n6c b6n b6c p6n p6c E.n E.t E.p E.tip 0 W ((Za HD) W (Zf (Za BwV) hw)).1 (nE.k.later (Zf hbZ hw)) (nE.n.later (Zf hbZ hw)) (nE.b.later (Zf hbZ hw)) (nE.p.later (Zf hbZ hw)) z2 z3 z4 (by omega) (fun t h=>by rw[op2] at h;cases h) f7 C ((if_pos rfl).trans hC))
    have Q2:=Zb (fun W (hw:Below V.heap.size V W)=>U9 k8 k8n k8c G.k n8 b8 p8 n8n n8c b8n b8c p8n p8c G.n G.t G.p G.tip 0 W ((Za HD) W (Zf (Za BwV) hw)).1 (nG.k.later hw) (nG.n.later hw) (nG.b.later hw) (nG.p.later hw) s2 s4 s5 (by omega) (fun t h=>by rw[f4] at h;cases h) f8 C ((if_pos rfl).trans (f9.trans hC)))
    have HTI:Hid (G.tip=E.tip):=f5
    clear nE hbZ f4 f5 f6 f7 f8 f9 op2 z1 z2 z3 z4 plE plG hC nG s1 s2 s4 s5 hb5 hF g0 g1 gV HFF HDE HS6 HD HS
    go_upto_region 12 with fail
    rw[←hV]
    clear hV tk0 tfk0 tlk tn0 tfn0 tn1 tfn1 tn2 tfn2 tn3 tfn3 tln
    have EQ:=Zb ((Za QE) V (Below.refl _ _))
    clear QE
    obtain⟨mk60,mlk6⟩:=cl1 Fk6_V
    obtain⟨mn60,mn61,mn62,mn63,mln6⟩:=cl4 Fn6_V
    obtain⟨mk70,mlk7⟩:=cl1 Fk7_V
    obtain⟨mn70,mn71,mn72,mn73,mln7⟩:=cl4 Fn7_V
    have htip:=Za HTI
    have htb:(G.tip != E.tip)=false:=by simp[htip]
    have htn:¬(G.tip≠E.tip):=fun q=>q htip
    clear htip
    go_wp2_with fail
    refine (Za EQ).mono ?_
    rintro e w6 ⟨rfl,hb6⟩
    clear mk60 mlk6 mn60 mn61 mn62 mn63 mln6 mk70 mlk7 mn70 mn71 mn72 mn73 mln7
    have Fk6_w6:=mvd hb6 Fk6_V
    have Fn6_w6:=mvd hb6 Fn6_V
    have Fk7_w6:=mvd hb6 Fk7_V
    have Fn7_w6:=mvd hb6 Fn7_V
    have Bw_w6:=onb BwV hb6
    have BZ_w6:=onb BZV hb6
    have BV_w6:=onb BV_V hb6
    clear Fk6_V Fn6_V Fk7_V Fn7_V BwV BZV BV_V
    have R1:=Zb ((Za Q1) w6 (Za BV_w6))
    clear hb6 EQ Q1 htb htn
    obtain⟨mk60,mlk6⟩:=cl1 Fk6_w6
    obtain⟨mn60,mn61,mn62,mn63,mln6⟩:=cl4 Fn6_w6
    obtain⟨mk70,mlk7⟩:=cl1 Fk7_w6
    obtain⟨mn70,mn71,mn72,mn73,mln7⟩:=cl4 Fn7_w6
    go_wp2_with fail
    refine (Za R1).mono ?_
    rintro e w7 ⟨ca,cn,cc,rfl,hc1,sc1,hb7⟩
    clear mk60 mlk6 mn60 mn61 mn62 mn63 mln6 mk70 mlk7 mn70 mn71 mn72 mn73 mln7
    have Fk6_w7:=mvd hb7 Fk6_w6
    have Fn6_w7:=mvd hb7 Fn6_w6
    have Fk7_w7:=mvd hb7 Fk7_w6
    have Fn7_w7:=mvd hb7 Fn7_w6
    have Bw_w7:=onb Bw_w6 hb7
    have BZ_w7:=onb BZ_w6 hb7
    have BV_w7:=onb BV_w6 hb7
    clear Fk6_w6 Fn6_w6 Fk7_w6 Fn7_w6 Bw_w6 BZ_w6 BV_w6
    have R2:=Zb ((Za Q2) w7 (Za BV_w7))
    have HC1:=Zb hc1
    have HSC:=Zb sc1
    clear hb7 R1 Q2 hc1 sc1
    obtain⟨mk60,mlk6⟩:=cl1 Fk6_w7
    obtain⟨mn60,mn61,mn62,mn63,mln6⟩:=cl4 Fn6_w7
    obtain⟨mk70,mlk7⟩:=cl1 Fk7_w7
    obtain⟨mn70,mn71,mn72,mn73,mln7⟩:=cl4 Fn7_w7
    go_wp2_with fail
    refine (Za R2).mono ?_
    rintro e w8 ⟨da,dn,dc,rfl,hc2,sc2,hb8⟩
    clear mk60 mlk6 mn60 mn61 mn62 mn63 mln6 mk70 mlk7 mn70 mn71 mn72 mn73 mln7
    have R3:=Zb (Zbs ca da cn dn cc dc C C true w8 (Nat.le_trans (Za HSC).1 (Za HSC).2.1) ((Za HC1).later hb8) hc2 (T6 rfl))
    have Fk6_w8:=mvd hb8 Fk6_w7
    have Fn6_w8:=mvd hb8 Fn6_w7
    have Fk7_w8:=mvd hb8 Fk7_w7
    have Fn7_w8:=mvd hb8 Fn7_w7
    have Bw_w8:=onb Bw_w7 hb8
    have BZ_w8:=onb BZ_w7 hb8
    have BV_w8:=onb BV_w7 hb8
    clear Fk6_w7 Fn6_w7 Fk7_w7 Fn7_w7 Bw_w7 BZ_w7 BV_w7
    clear hb8 R2 hc2 sc2 HC1
    obtain⟨mk60,mlk6⟩:=cl1 Fk6_w8
    obtain⟨mn60,mn61,mn62,mn63,mln6⟩:=cl4 Fn6_w8
    obtain⟨mk70,mlk7⟩:=cl1 Fk7_w8
    obtain⟨mn70,mn71,mn72,mn73,mln7⟩:=cl4 Fn7_w8
    go_wp2_with fail
    refine (Za R3).mono ?_
    rintro e w9 ⟨rfl,hb9⟩
    clear mk60 mlk6 mn60 mn61 mn62 mn63 mln6 mk70 mlk7 mn70 mn71 mn72 mn73 mln7
    have Fk6_w9:=mvd hb9 Fk6_w8
    have Fn6_w9:=mvd hb9 Fn6_w8
    have Fk7_w9:=mvd hb9 Fk7_w8
    have Fn7_w9:=mvd hb9 Fn7_w8
    have Bw_w9:=onb Bw_w8 hb9
    have BZ_w9:=onb BZ_w8 hb9
    have BV_w9:=onb BV_w8 hb9
    clear Fk6_w8 Fn6_w8 Fk7_w8 Fn7_w8 Bw_w8 BZ_w8 BV_w8
    clear hb9 R3
    go_wp2
    go_ret
    exact⟨rfl,Za Bw_w9⟩
  ·have gx:(x2 != 0)=true:=by simp[h2]
   go_upto_region 6 with fail
   rw[←hZ']
   clear hZ'
   go_wp2
   go_ret
   exact⟨rfl,Za Bw_Z⟩
 ·have gx:(x != 0)=true:=by simp[h0]
  go_upto_region 3 with fail
  rw[←hY']
  clear hY'
  go_wp2_with fail
  refine (Za D1).mono ?_
  rintro e w5 ⟨rfl,hb5⟩
  have Fk_w5:=mvd hb5 Fk_Y
  have Fn_w5:=mvd hb5 Fn_Y
  have Fb_w5:=mvd hb5 Fb_Y
  have Fc_w5:=mvd hb5 Fc_Y
  have Fk5_w5:=mvd hb5 Fk5_Y
  have Fn5_w5:=mvd hb5 Fn5_Y
  have Bw_w5:=onb Bw_Y hb5
  have BY_w5:=onb BY_Y hb5
  clear Fk_Y Fn_Y Fb_Y Fc_Y Fk5_Y Fn5_Y Bw_Y BY_Y
  have D2:=Zb (W9 w5 ((Za HD) w5 (Za Bw_w5)).1)
  clear hb5 D1
  go_wp2_with fail
  refine (Za D2).mono ?_
  rintro e w6 ⟨rfl,hb6⟩
  have Fk_w6:=mvd hb6 Fk_w5
  have Fn_w6:=mvd hb6 Fn_w5
  have Fb_w6:=mvd hb6 Fb_w5
  have Fc_w6:=mvd hb6 Fc_w5
  have Fk5_w6:=mvd hb6 Fk5_w5
  have Fn5_w6:=mvd hb6 Fn5_w5
  have Bw_w6:=onb Bw_w5 hb6
  have BY_w6:=onb BY_w5 hb6
  clear Fk_w5 Fn_w5 Fb_w5 Fc_w5 Fk5_w5 Fn5_w5 Bw_w5 BY_w5
  clear hb6 D2
  go_wp2
  go_ret
  exact⟨rfl,Za Bw_w6⟩
end Go.Proofs.YtmomfkikogbdeaaGreatDoor
