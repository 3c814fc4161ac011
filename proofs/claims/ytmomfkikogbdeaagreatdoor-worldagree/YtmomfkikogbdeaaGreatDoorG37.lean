import Derived.Test.YtmomfkikogbdeaaGreatDoorH
import Derived.Test.YtmomfkikogbdeaaGreatDoorG36
open Go.Proofs.Tryz
open Decidable renaming not_not->aT
open Go.Ending renaming returned->dF
open Go.IntKind renaming i64->J
open Go.Lib renaming run_eql_slice_nil->bD
open Go.Obj renaming cells->dE
open Go.Proofs.Tryz renaming prog->aB
open Go.Value renaming int->E,slice->F,bool->dI
open List renaming mem_cons->aO,mem_map->bN,drop_eq_getElem_cons->aJ,mem_cons_of_mem->cH,length_eq_zero_iff->aL
open Prod renaming fst->cZ
open Prod.mk renaming injEq->aU
set_option maxHeartbeats 6400000
set_option maxRecDepth 10000
namespace Go.Proofs.YtmomfkikogbdeaaGreatDoor
open Go.RowKit
theorem Ku:∀ (l L:List ByteArray) (N:List Int) (M:List ByteArray) (N':List Int),Bk.nmGo L N l=(M,N',0)->N'=N++l.map (λs=>(Bk.place s M:Int))/\∀ s∈l,0<Bk.place s M
 | [],L,N,M,N',h=>by
  rw[Bk.nmGo] at h;simp only[aU,and_true] at h;obtain⟨_,rfl⟩:=h;simp
 | s :: r,L,N,M,N',h=>by
  rw[Bk.nmGo] at h;split at h
  ·rename_i q;obtain⟨p1,p2,_⟩:=Bk.nm_place q;obtain⟨e1,e2⟩:=Ku r _ _ M N' h;have hg:=Bk.nmGo_grows r (Bk.nm L s).1 (N++[(Bk.nm L s).2.1]) (by rw[h]);obtain⟨M2,aa⟩:=hg;rw[h] at aa;have aa:M=(Bk.nm L s).1++M2:=aa;have hs:Bk.place s M=Bk.place s (Bk.nm L s).1:=(by rw[aa];exact Bk.place_stays M2 p2);refine⟨?_,λx hx=>?_⟩
   ·rw[e1,p1,<-hs];simp
   ·rcases aO.1 hx with rfl|hx
    ·rw[hs];exact p2
    ·exact e2 x hx
  ·rename_i q;simp only[aU] at h;exact absurd h.2.2 q
theorem Zgl{b:Zk}(h:Yq b=0):∀ t∈b.2.2.2.2,Zq t=0:=by
 obtain⟨p,hh,k,n,L⟩:=b;exact (Ww h).2.2.2.2
theorem Zfz{K K1}{b:Zk}{s:Int}{Ns}(hK:Bk.Right K)(h:Xl K b=(K1,s,Ns,0)):Bk.Right K1/\(∃ M,K1=K++M)/\kbD K1 s b=true/\s≠0:=by
 unfold Xl at h;split at h
 ·rename_i q;simp only[aU] at h;exact absurd h.2.2.2 q
 rename_i hc;have hc:=aT.1 hc;split at h
 ·rename_i q;simp only[aU] at h;exact absurd h.2.2.2 q
 rename_i ha;have ha:=aT.1 ha;simp only[aU] at h;obtain⟨h1,h2,_,_⟩:=h;obtain⟨⟨A,B,z⟩,hr⟩:=ZF (Bk.allR K (Yb b));rw[hr] at h1 h2 ha;have ha:z=0:=ha;subst ha;have h1:A=K1:=h1;subst h1
 have ae:Bk.nmGo K [] (Yb b)=(A,B,0):=by
  unfold Bk.allR at hr;rw[if_pos ((Bk.right_iff K).2 hK)] at hr;exact hr
 have hg:=Bk.nmGo_grows (Yb b) K [] (by rw[ae]);have hR:=Bk.nmGo_right (Yb b) K [] hK (by rw[ae]);rw[ae] at hg hR;obtain⟨e1,e2⟩:=Ku _ _ _ _ _ ae;have hb:0<Bk.place (Yw b) A:=e2 _ (by unfold Yb;simp)
 have hs:s=(Bk.place (Yw b) A:Int):=by
  rw[<-h2,e1];simp only[Yb,List.map_append,List.map_map,List.map_cons,List.map_nil,List.nil_append];rw[List.getD_eq_getElem?_getD,List.getElem?_append_right (by simp)];simp
 refine⟨hR,hg,Cm hc (by rw[Ql hc];exact hs.symm) (λt ht=>?_),by omega⟩;have ak:=(Zgl hc t ht);refine⟨ak,?_⟩;rw[Ji ak];have:=e2 (Zy t) (by unfold Yb;simp only[List.mem_append,bN];exact .inl ⟨t,ht,rfl⟩);omega
theorem Zeh{K}{s:Int}{b:Zk}:∀ (N:List Int) (T:List Zk) (β γ : Int->List Zj),N.length=T.length->Z1 K N T β = (0,γ)->kbD K s b=true->(Xw K (γ b.1) b).1=0->Z1 K (N++[s]) (T++[b]) β = (0,Uz γ s (Xw K (γ b.1) b).2.1)
 | [],[],β,γ,_,h,h1,h2=>by
  rw[Z1] at h;simp only[aU,true_and] at h;subst h;show Z1 K [s] [b] β = _;rw[Z1,h1,Z1];simp[h2]
 | [],_ :: _,β,γ,hl,_,_,_=>by simp at hl
 | _ :: _,[],β,γ,hl,_,_,_=>by simp at hl
 | x :: N,c :: T,β,γ,hl,h,h1,h2=>by
  rw[Z1] at h;show Z1 K (x :: (N++[s])) (c :: (T++[b])) β = _;rw[Z1];split at h
  ·cases h
  rename_i q1;rw[if_neg q1];split at h
  ·rename_i q;exact absurd (congrArg cZ h) q
  rename_i q2;rw[if_neg q2];exact Zeh N T _ γ (by simpa using hl) h h1 h2
theorem Zkt{N:List Int}{T:List Zk}(hc:Tr.chkTr N T=0):∀ (n k:Nat) (_:k<N.length) (h':k<T.length),k<=n->T[k].2.1<=(k:Int)+1
 | n,k,h,h',hn=>by
  have ok:=Tr.TrOk.of hc;obtain⟨a1,a2⟩:=Tr.ahead hc k h h';have p:=ok.hgt N[k] (List.getElem_mem h);rw[a1] at p
  rcases a2 with e|e
  ·rw[e,Tr.fnd_out ok.len ok.zero] at p;have:T[k].2.1=0+1:=p;omega
  ·obtain⟨j,hj,ej⟩:=List.getElem_of_mem e;have ag:j<k:=(by rw[List.length_take] at hj;omega);rw[List.getElem_take] at ej;have ac:j<T.length:=(by omega);have b1:=(Tr.ahead hc j (by omega) ac).1
   match n,hn with
   | 0,hn=>omega
   | n+1,hn=>
    have ih:=Zkt hc n j (by omega) ac (by omega);rw[<-ej,b1] at p;omega
theorem Zdg{N T}{t:Int}(h:Tr.bstD N T=(t,0)):0<=Xz N T t/\Xz N T t<=24:=by
 obtain⟨hc,ht⟩:=Xq h;have ok:=Tr.TrOk.of hc;have hb:=(He h).2.1;have h24:=(Wf hc).2.1;refine⟨hb,?_⟩;unfold Xz Tr.blockE;rw[if_neg (λq=>q hc)];split
 ·rename_i q;have q:t∈N:=by simpa using q
  obtain⟨k,hk,rfl⟩:=List.getElem_of_mem q;have ac:k<T.length:=by rw[<-ok.len];exact hk
  have:=Zkt hc k k hk ac (Nat.le_refl _);simp only;rw[(Tr.ahead hc k hk ac).1];omega
 ·show (0:Int)<=24;decide
theorem Zaz{K C P}{h:Int}(e:swE K C P h=0){N T}{t:Int}{β : Int->List Zj}(hC : β t=C)(hh:Xz N T t+1=h):poE (Z5 h P (K,C)).2.1 N T (Z5 h P (K,C)).1 t β = 0:=by
 obtain⟨o,hl⟩:=Ht e;obtain⟨hK,aj,h1,h2⟩:=Tg o;obtain⟨r1,_⟩:=Qa P K C hK (h:=h);have ag:=Hr P K C [] hK (h:=h) (by rw[List.append_nil];exact r1);rw[List.append_nil] at ag;obtain⟨⟨P2,K2,C2⟩,hr⟩:=ZF (Z5 h P (K,C))
 have au:P2.length<=P.length:=by
  have:=Gx h P (K,C);have e2:=congrArg List.length (J6 h P (K,C));rw[List.length_map,hr] at e2;have e2:(swT h P (K,C)).length=P2.length:=e2;omega
 have ae:=(Hq P K C hK aj (h:=h)).2.2;rw[hr] at ag r1 ae ⊢;simp only at ag r1 ae ⊢;have ck:=Zhh (Au r1 P2 C C2 ag);unfold poE;split
 ·rfl
 have ap:P2.all (knT K2)=true:=List.all_eq_true.2 (λx hx=>by
  have c1:=(ae x hx).1;have c2:=ck x hx;have c3:=Bk.nm_place c2.2;rw[c2.1] at c3;unfold knT;rw[Ji c1];have:=c3.2.1;simp[c1];omega)
 rw[if_neg (by rw[ap];decide),hC,hh,ag]
 have aq:swE K2 C P2 h=0:=by
  unfold swE;rw[Bw r1 aj h1 h2];simp;omega
 rw[if_neg (by rw[aq];decide)];simp
theorem Nc{K N T P}{tip:Int}{b:Zk}{nm:Int}{D:Dsk}(h:opE K N T P tip=0)(e:tkR ⟨K,N,T,P,tip,(Z1 K N T noB).2⟩ b=(0,nm,D)) :
  opE D.k D.n D.t D.p D.tip=0/\(Z1 D.k D.n D.t noB).2=D.β/\D.n=N++[nm]/\D.t=T++[b]/\kbD D.k nm b=true/\(∃ M,D.k=K++M)/\Tr.addE N T nm b=(D.n,D.t,0):=by
 obtain⟨o1,o2,o3,_⟩:=Wa h;have hK:=(Bk.right_iff K).1 o1;obtain⟨⟨K1,s,Ns,x1⟩,h1⟩:=ZF (Xl K b);obtain⟨⟨N1,T1,x2⟩,h2⟩:=ZF (Tr.addE N T s b);obtain⟨⟨x3,C3,U3⟩,h3⟩:=ZF (Xw K1 ((Z1 K N T noB).2 b.1) b);obtain⟨⟨t,x4⟩,h4⟩:=ZF (Tr.bstD N1 T1);obtain⟨z,hz⟩:=ZF (Xz N1 T1 t);unfold tkR at e;simp only[h1,h2,h3,h4,hz] at e;split at e
 ·rename_i q;exact absurd (congrArg cZ e) q
 rename_i q1;have q1:=aT.1 q1;subst q1;split at e
 ·rename_i q;exact absurd (congrArg cZ e) q
 rename_i q2;have q2:=aT.1 q2;subst q2;split at e
 ·rename_i q;exact absurd (congrArg cZ e) q
 rename_i q3;have q3:=aT.1 q3;subst q3;split at e
 ·rename_i q;exact absurd (congrArg cZ e) q
 rename_i q4;have q4:=aT.1 q4;subst q4;split at e
 ·rename_i q;exact absurd (congrArg cZ e) q
 rename_i q5;have q5:=aT.1 q5;obtain⟨k1,⟨M1,ag⟩,k3,k4⟩:=Zfz hK h1;obtain⟨hc,_,_,a1,a2⟩:=Tr.addE_ok h2;have ok:=Tr.TrOk.of hc;have be:∀ x∈N,x≠0:=λx hx=>by have:=(ok.nm x hx).1;omega
 have bb:Z1 K1 N T noB=(0,(Z1 K N T noB).2):=by
  rw[ag,L7 hK (ag ▸ k1) N T noB be o3];exact Prod.ext o3 rfl
 have ae:=Zeh N T noB _ ok.len bb k3 (by rw[h3]);rw[h3,<-a1,<-a2] at ae;have bh:=Zdg h4;rw[hz] at bh;have bg:¬1000<z+1:=by omega
 obtain⟨γ,hγ⟩:∃ γ,Uz (Z1 K N T noB).2 s C3 = γ:=⟨_,rfl⟩;simp only[hγ] at e q5 ae;unfold Gs at e q5;rw[if_neg bg] at e q5;simp only at e q5
 have hF:swF K1 (γ t) P (z+1) (swE K1 (γ t) P (z+1))=((Z5 (z+1) P (K1,γ t)).2.1,(Z5 (z+1) P (K1,γ t)).1,(Z5 (z+1) P (K1,γ t)).2.2,Zp (γ t) - Zp (Z5 (z+1) P (K1,γ t)).2.2):=by
  unfold swF;rw[if_pos q5]
 rw[hF] at e;simp only[aU,true_and] at e;obtain⟨rfl,rfl⟩:=e;simp only;obtain⟨r1,M2,af⟩:=Qa P K1 (γ t) k1 (h:=z+1);have bf:∀ x∈N1,x≠0:=λx hx=>by have:=((Tr.TrOk.of (Xq h4).1).nm x hx).1;omega
 have ar:Z1 (Z5 (z+1) P (K1,γ t)).2.1 N1 T1 noB=(0,γ):=by
  rw[af,L7 k1 (af ▸ r1) N1 T1 noB bf (by rw[ae])];exact ae
 have po:=Zaz q5 (N:=N1) (T:=T1) (t:=t) (β:=γ) rfl (by rw[hz]);refine⟨?_,by rw[ar],a1,a2,by rw[af];exact Jt k4 k3,⟨M1++M2,by rw[af,ag,List.append_assoc]⟩,h2⟩;unfold opE;rw[if_neg (by rw[(Bk.right_iff _).2 r1];decide),h4];simp only[ne_eq,not_true_eq_false,if_false,ar];exact po
namespace Bk
open Go.RowKit Go.Maps
theorem check_is(a n c L)(w:World)(h:TextsAt w a n L)(x:Int)(hx:bkChk L=x) :
  ZH 59 #[.agg #[F a n c]] w (E J x):=by
 have hb:=Zh w (dE #[F a n c] 24);obtain⟨O,HB⟩:=kh2 (Fc a n c L _ (h.later hb) x hx) hb;clear h hx hb;go_enter func59,ntmps59;go_wp2_with fail;refine O.mono ?_;rintro e w2 ⟨v,rfl,-,ab⟩;have ad:=Zd (Zf HB ab);clear ab;go_wp2;go_ret;exact⟨rfl,Za ad⟩
end Bk
open Go.RowKit
theorem Zdh{K C}{z:Int}(h:(Gs K C [] z).2.2=0):Gs K C [] z=(K,[],0):=by
 by_cases q:1000<z
 ·unfold Gs;rw[if_pos q]
 ·have e:Gs K C [] z=((swF K C [] z (swE K C [] z)).1,(swF K C [] z (swE K C [] z)).2.1,swE K C [] z):=by unfold Gs;rw[if_neg q]
  rw[e] at h ⊢;have h:swE K C [] z=0:=h;rw[h];unfold swF;rw[if_pos rfl];rfl
theorem Zqa{K C}{z:Int}(hK:Bk.Right K)(hC:Yd C)(h1:1<=z)(h2:z<=1000):Gs K C [] z=(K,[],0):=by
 refine Zdh ?_;unfold Gs;rw[if_neg (by omega)];show swE K C [] z=0;unfold swE;rw[Bw hK hC h1 h2];rfl
theorem Ez{K}:∀ (N:List Int) (T:List Zk) (β : Int->List Zj),(∀ x,Yd (β x))->∀ x,Yd ((Z1 K N T β).2 x)
 | [],_,β,h,x=>by rw[Z1];exact h x
 | _ :: _,[],β,h,x=>by rw[Z1];exact h x
 | s :: N,b :: T,β,h,x=>by
  rw[Z1];split
  ·exact h x
  split
  ·exact h x
  rename_i q;have q:=aT.1 q;refine Ez N T _ (λy=>?_) x;unfold Uz;split
  ·exact (Zef (show Xw K (β b.1) b=(0,(Xw K (β b.1) b).2.1,(Xw K (β b.1) b).2.2) from Prod.ext q rfl)).2.1
  ·exact h y
theorem Zfy(x:Int):Yd (noB x):=(Z7 []).1 rfl
theorem Zpi{K N T P}{tip:Int}{b:Zk}{s:Int}{D:Dsk}(h:ntR K N T P tip b=(0,s,D)):opE K N T P tip=0/\tkR ⟨K,N,T,P,tip,(Z1 K N T noB).2⟩ b=(0,s,D):=by
 unfold ntR at h;split at h
 ·rename_i q;exact absurd (congrArg cZ h) q
 rename_i q1;have q1:=aT.1 q1;split at h
 ·rename_i q;exact absurd (congrArg cZ h) q
 rename_i q2;have q2:=aT.1 q2;simp only[aU,true_and] at h;exact⟨q1,Prod.ext q2 (Prod.ext h.1 h.2)⟩
theorem Zam{K N T}{tip:Int}{b:Zk}{s:Int}{D:Dsk}(h:ntR K N T [] tip b=(0,s,D)) :
  opE K N T [] tip=0/\(∃ M,D.k=K++M)/\Bk.Right D.k/\kbD D.k s b=true/\s≠0/\Tr.addE N T s b=(D.n,D.t,0)/\D.p=[]/\(∃ C U,Xw D.k ((Z1 K N T noB).2 b.1) b=(0,C,U)/\D.β = Uz (Z1 K N T noB).2 s C)/\opE D.k D.n D.t D.p D.tip=0/\(Z1 D.k D.n D.t noB).2=D.β:=by
 obtain⟨q1,e⟩:=Zpi h;obtain⟨t1,t2,_,_,t5,t6,t7⟩:=Nc q1 e;have hR:=(Bk.right_iff _).1 (Wa t1).1
 have ap:s≠0:=by
  obtain⟨_,a2,_,_,_⟩:=Tr.addE_ok t7;have:=(Tr.nextD_ok a2).1;omega
 obtain⟨⟨K1,s1,Ns,x1⟩,h1⟩:=ZF (Xl K b);obtain⟨⟨N1,T1,x2⟩,h2⟩:=ZF (Tr.addE N T s1 b);obtain⟨⟨x3,C3,U3⟩,h3⟩:=ZF (Xw K1 ((Z1 K N T noB).2 b.1) b);obtain⟨⟨t,x4⟩,h4⟩:=ZF (Tr.bstD N1 T1);obtain⟨z,hz⟩:=ZF (Xz N1 T1 t);unfold tkR at e;simp only[h1,h2,h3,h4,hz] at e;split at e
 ·rename_i q;exact absurd (congrArg cZ e) q
 split at e
 ·rename_i q;exact absurd (congrArg cZ e) q
 split at e
 ·rename_i q;exact absurd (congrArg cZ e) q
 rename_i q3;have q3:=aT.1 q3;subst q3;split at e
 ·rename_i q;exact absurd (congrArg cZ e) q
 split at e
 ·rename_i q;exact absurd (congrArg cZ e) q
 rename_i q5;have q5:=aT.1 q5;have sw:=Zdh q5;rw[sw] at e;simp only[aU,true_and] at e;obtain⟨rfl,rfl⟩:=e;exact⟨q1,t6,hR,t5,ap,t7,rfl,⟨C3,U3,h3,rfl⟩,t1,t2⟩
theorem Zmp{K N T}{tip:Int}{b:Zk}{s:Int}{C U}(h:opE K N T [] tip=0)(hk:kbD K s b=true)(hs:s≠0)(ha:Tr.addE N T s b=(N++[s],T++[b],0))(hc:Xw K ((Z1 K N T noB).2 b.1) b=(0,C,U)) :
  ∃ D,ntR K N T [] tip b=(0,s,D)/\D.k=K/\D.n=N++[s]/\D.t=T++[b]:=by
 obtain⟨o1,o2,o3,_⟩:=Wa h;have hK:=(Bk.right_iff K).1 o1;have hn:=Rd hK hs hk;obtain⟨a1,a2,a3,_,_⟩:=Tr.addE_ok ha;have ag:=Tr.chkTr_snoc a1 a2 a3;obtain⟨t,h4⟩:∃ t,Tr.bstD (N++[s]) (T++[b])=(t,0):=⟨_,Tr.bstD_mk ag⟩;have hz:=Zdg h4
 have hR:Yd (Uz (Z1 K N T noB).2 s C t):=by
  unfold Uz;split
  ·exact (Zef hc).2.1
  ·exact Ez N T noB Zfy t
 have sw:=Zqa hK hR (z:=Xz (N++[s]) (T++[b]) t+1) (by omega) (by omega)
 have e:tkR ⟨K,N,T,[],tip,(Z1 K N T noB).2⟩ b=(0,s,⟨K,N++[s],T++[b],[],t,Uz (Z1 K N T noB).2 s C⟩):=by
  unfold tkR;simp only[hn,ha,hc,h4,sw,ne_eq,not_true_eq_false,if_false]
 refine⟨⟨K,N++[s],T++[b],[],t,Uz (Z1 K N T noB).2 s C⟩,?_,rfl,rfl,rfl⟩;unfold ntR;rw[if_neg (by rw[h];decide),e];simp
theorem Zpd{N:List Int}{T}{x:Int}{b:Zk}(h1:Tr.chkTr N T=0)(h2:Tr.nextD N T x b=0)(h3:N.length≠24):Tr.addE N T x b=(N++[x],T++[b],0):=by
 unfold Tr.addE;rw[if_neg (λq=>q h1),if_neg (λq=>q h2),if_neg h3]
abbrev Tq:=Int×Int×Int×Int×Zk×TxD
def MsgAt(w:World)(b o:Nat)(x:Tq):Prop:=
 w.cell? ⟨b,o,none⟩=some (E J x.1)/\w.cell? ⟨b,o+1,none⟩=some (E J x.2.1)/\w.cell? ⟨b,o+2,none⟩=some (E J x.2.2.1)/\w.cell? ⟨b,o+3,none⟩=some (E J x.2.2.2.1) /\
  Tr.BlkAt w b (o+4) x.2.2.2.2.1/\TxAt w b (o+9) x.2.2.2.2.2
theorem MsgAt.kept:Gq MsgAt:=λ_ _ _ _ _ hb h=>⟨Ze hb h.1,Ze hb h.2.1,Ze hb h.2.2.1,Ze hb h.2.2.2.1,Tr.BlkAt.kept _ _ _ _ _ hb h.2.2.2.2.1,TxAt.kept _ _ _ _ _ hb h.2.2.2.2.2⟩
def MsgsAt(w:World)(a:Option Addr)(len:Nat)(l:List Tq):Prop:=RowsAt MsgAt 12 w a len l
theorem MsgsAt.later{w w':World}{a len l}(h:MsgsAt w a len l)(hb:ZD w w'):MsgsAt w' a len l:=RowsAt.later MsgAt.kept h hb
def La(i n:Int):Bool:=decide (0<=i) && decide (i<n)
def nmE(n:Int):Int:=if 1<=n/\n<=120 then 0 else 3
def Aa(m:Tq)(n:Int):Int:=
 if La m.2.1 n=false\/La m.2.2.1 n=false\/m.2.1=m.2.2.1 then 3 else
 if m.1=1 then Yq m.2.2.2.2.1 else if m.1=2 then nmE m.2.2.2.1 else if m.1=3 then Zq m.2.2.2.2.2 else 3
theorem Qu(i n:Int)(o:Bool)(w)(ho:La i n=o):Calls aB 175 #[E J i,E J n] w λe w'=>e = dF (dI o)/\w=w':=by
 unfold La at ho;by_cases h1:0<=i
 ·by_cases h2:i<n
  ·have e:o=true:=(by rw[<-ho];simp[h1,h2]);subst e;clear ho;go_enter func175,ntmps175;go_wp2;go_ret;exact⟨rfl,rfl⟩
  ·have e:o=false:=(by rw[<-ho];simp[h2]);have h4:decide (i<n)=false:=(by simp;omega);subst e;clear ho;go_enter func175,ntmps175;go_wp2;go_ret;exact⟨rfl,rfl⟩
 ·have e:o=false:=by rw[<-ho];simp[h1]
  have h4:decide (0<=i)=false:=by simp;omega
  subst e;clear ho;go_enter func175,ntmps175;go_wp2;go_ret;exact⟨rfl,rfl⟩
theorem Lc(n:Int)(o:Bool)(w:World)(ho:(decide (1<=n) && decide (n<=4))=o):ZH 115 #[E J n] w (dI o):=by
 have C:=Zd (Yg n 1 4 o w ho);go_enter func115,ntmps115;go_wp2_with fail;refine C.mono ?_;rintro e w1 ⟨rfl,hb⟩;have HB:=Zd hb;clear hb C ho;go_wp2;go_ret;exact⟨rfl,Za HB⟩
theorem Ad(n x:Int)(w:World)(hx:nmE n=x):ZH 176 #[E J n] w (E J x):=by
 obtain⟨o,ho⟩:=ZF ((decide (1<=n) && decide (n<=120)));have C:=Zd (Yg n 1 120 o w ho)
 have e:x=if o=true then 0 else 3:=by
  rw[<-hx,<-ho];unfold nmE;simp only[Bool.and_eq_true,decide_eq_true_eq]
 clear hx ho;go_enter func176,ntmps176;go_wp2_with fail;refine C.mono ?_;rintro e' w1 ⟨rfl,hb⟩;have HB:=Zd hb;clear hb C;cases o
 ·obtain rfl:x=3:=e;go_wp2;go_ret;exact⟨rfl,Za HB⟩
 ·obtain rfl:x=0:=e;go_wp2;go_ret;exact⟨rfl,Za HB⟩
theorem Zhp(kd fr tq nm bp bh bk bn:Int)(ba bm bc L)(th:Int)(ai ao ni ci no co I O)(n x:Int)(w:World)(hL:TxsAt w ba bm L)(hI:InsAt w ai ni I)(hO:OutsAt w ao no O)(sI:SlOk ai ni ci)(hx:Aa (kd,fr,tq,nm,(bp,bh,bk,bn,L),(th,I,O)) n=x) :
  ZH 116 #[.agg #[E J kd,E J fr,E J tq,E J nm,E J bp,E J bh,E J bk,E J bn,F ba bm bc,E J th,F ai ni ci,F ao no co],E J n] w (E J x):=by
 obtain⟨X,hX,aj,bj⟩:=ka00 w [E J kd,E J fr,E J tq,E J nm,E J bp,E J bh,E J bk,E J bn,F ba bm bc,E J th,F ai ni ci,F ao no co] 106;obtain⟨o1,h1⟩:∃ o,La fr n=o:=⟨_,rfl⟩;obtain⟨o2,h2⟩:∃ o,La tq n=o:=⟨_,rfl⟩;obtain⟨xb,aq⟩:∃ x,Yq (bp,bh,bk,bn,L)=x:=⟨_,rfl⟩;obtain⟨xt,au⟩:∃ x,Zq (th,I,O)=x:=⟨_,rfl⟩;obtain⟨xn,ar⟩:∃ x,nmE nm=x:=⟨_,rfl⟩;obtain⟨E1,E2,CB,CT⟩:=kh4 (Qu fr n o1 X h1) (Qu tq n o2 X h2) (W3 bp bh bk bn ba bm bc L xb X (hL.later aj) aq) (Vn th ai ao ni ci no co I O X (hI.later aj) (hO.later aj) sI);rw[au] at CT;obtain⟨CN,ad⟩:=kh2 (Ad nm xn X ar) aj
 have hx:(if o1=false\/o2=false\/fr=tq then 3 else if kd=1 then xb else if kd=2 then xn else if kd=3 then xt else 3)=x:=by
  rw[<-hx,<-h1,<-h2,<-aq,<-ar,<-au];rfl
 have HX:=Zd hx;obtain⟨m0,m1,m2,m3,m4,m5,m6,m7,m8,m9,m10,m11,ml⟩:=kc12 bj;clear hL hI hO sI hx h1 h2 aq au ar aj bj;go_enter func116,ntmps116;go_wp2_with fail;rw[<-hX];clear hX;(try go_wp2_with fail);refine E1.mono ?_;rintro e w1 ⟨rfl,rfl⟩;cases o1
 ·obtain rfl:(3:Int)=x:=by have q:=Za HX;rw[if_pos (.inl rfl)] at q;exact q
  go_wp2;go_ret;exact⟨rfl,Za ad⟩
 go_wp2_with fail;refine E2.mono ?_;rintro e w1 ⟨rfl,rfl⟩;cases o2
 ·obtain rfl:(3:Int)=x:=by have q:=Za HX;rw[if_pos (.inr (.inl rfl))] at q;exact q
  go_wp2;go_ret;exact⟨rfl,Za ad⟩
 by_cases h3:fr=tq
 ·subst h3;obtain rfl:(3:Int)=x:=by have q:=Za HX;rw[if_pos (.inr (.inr rfl))] at q;exact q
  go_wp2;go_ret;exact⟨rfl,Za ad⟩
 have g3:(fr == tq)=false:=by simp[h3]
 have ak:Hid ((if kd=1 then xb else if kd=2 then xn else if kd=3 then xt else 3)=x):=by have q:=Za HX;rw[if_neg (by simp[h3])] at q;exact q
 clear HX E1 E2;by_cases k1:kd=1
 ·subst k1;obtain rfl:xb=x:=by have q:=Za ak;rw[if_pos rfl] at q;exact q
  go_wp2_with fail;refine CB.mono ?_;rintro e w2 ⟨rfl,ab⟩;have ae:=Zd (Zf ad ab);clear ab CB m0 m1 m2 m3 m4 m5 m6 m7 m8 m9 m10 m11 ml;go_wp2;go_ret;exact⟨rfl,Za ae⟩
 have g4:(kd == 1)=false:=by simp[k1]
 by_cases k2:kd=2
 ·subst k2;obtain rfl:xn=x:=by have q:=Za ak;rw[if_neg k1,if_pos rfl] at q;exact q
  go_wp2_with fail;refine CN.mono ?_;rintro e w2 ⟨rfl,ab⟩;have ae:=Zd (Zf ad ab);clear ab CN m0 m1 m2 m3 m4 m5 m6 m7 m8 m9 m10 m11 ml;go_wp2;go_ret;exact⟨rfl,Za ae⟩
 have g5:(kd == 2)=false:=by simp[k2]
 by_cases k3:kd=3
 ·subst k3;obtain rfl:xt=x:=by have q:=Za ak;rw[if_neg k1,if_neg k2,if_pos rfl] at q;exact q
  go_wp2_with fail;refine CT.mono ?_;rintro e w2 ⟨rfl,ab⟩;have ae:=Zd (Zf ad ab);clear ab CT m0 m1 m2 m3 m4 m5 m6 m7 m8 m9 m10 m11 ml;go_wp2;go_ret;exact⟨rfl,Za ae⟩
 have g6:(kd == 3)=false:=by simp[k3]
 obtain rfl:(3:Int)=x:=by have q:=Za ak;rw[if_neg k1,if_neg k2,if_neg k3] at q;exact q
 go_wp2;go_ret;exact⟨rfl,Za ad⟩
abbrev Ye:=List Int×List Zk×List TxD×Int
def NodAt(w:World)(b o:Nat)(x:Ye):Prop:=
 ∃ na nn nc ba bn bc pa pn pc,w.cell? ⟨b,o,none⟩=some (F na nn nc)/\w.cell? ⟨b,o+1,none⟩=some (F ba bn bc)/\w.cell? ⟨b,o+2,none⟩=some (F pa pn pc)/\w.cell? ⟨b,o+3,none⟩=some (E J x.2.2.2) /\
  Tr.IntsAt w na nn x.1/\Tr.BlksAt w ba bn x.2.1/\TxsAt w pa pn x.2.2.1/\SlOk na nn nc/\SlOk ba bn bc/\SlOk pa pn pc
theorem NodAt.kept:Gq NodAt:=λ_ _ _ _ _ hb h=>by
 obtain⟨na,nn,nc,ba,bn,bc,pa,pn,pc,h0,h1,h2,h3,hN,hT,hP,s⟩:=h;exact⟨na,nn,nc,ba,bn,bc,pa,pn,pc,Ze hb h0,Ze hb h1,Ze hb h2,Ze hb h3,hN.later hb,hT.later hb,hP.later hb,s⟩
def NodsAt(w:World)(a:Option Addr)(len:Nat)(l:List Ye):Prop:=RowsAt NodAt 4 w a len l
theorem NodsAt.later{w w':World}{a len l}(h:NodsAt w a len l)(hb:ZD w w'):NodsAt w' a len l:=RowsAt.later NodAt.kept h hb
def opN(K:List ByteArray)(x:Ye):Int:=opE K x.1 x.2.1 x.2.2.1 x.2.2.2
def W9(K:List ByteArray):List Ye->Int
 | []=>0
 | x :: L=>if opN K x≠0 then opN K x else W9 K L
def Js(n:Int):List Tq->Int
 | []=>0
 | m :: L=>if Aa m n≠0 then Aa m n else Js n L
def Ur(K:List ByteArray)(L:List Ye)(M:List Tq):Int:=
 if ¬(1<=L.length/\L.length<=4) then 3 else if Bk.bkChk K≠0 then Bk.bkChk K else if 20<M.length then 2 else
 if W9 K L≠0 then W9 K L else Js L.length M
theorem Zjx{K}{L:List Ye}{j:Nat}(hj:j<L.length):W9 K (L.drop j)=if opN K L[j]≠0 then opN K L[j] else W9 K (L.drop (j+1)):=by
 rw[aJ hj];rfl
theorem Zkh{n:Int}{L:List Tq}{j:Nat}(hj:j<L.length):Js n (L.drop j)=if Aa L[j] n≠0 then Aa L[j] n else Js n (L.drop (j+1)):=by
 rw[aJ hj];rfl
abbrev Wd:=Int×Zk
def Rk(y:Ye):List Wd:=y.1.zip y.2.1
def Jg(L:List Ye):List Wd:=(L.map Rk).flatten
def lt2(x y:Wd):Prop:=x.2.2.1<y.2.2.1\/x.2.2.1=y.2.2.1/\x.1<y.1
structure Stl(L:List Ye)(Q:List Wd):Prop where
 mem:∀ x,x∈Q↔x∈Jg L
 srt:Q.Pairwise lt2
def Ry(p:Int):List Wd->List Wd
 | []=>[]
 | x :: l=>if x.1=p then Ry x.1 l else x :: Ry x.1 l
theorem Ph{x y z:Wd}(h1:lt2 x y)(h2:lt2 y z):lt2 x z:=by unfold lt2 at *;omega
theorem Zee:∀ (l:List Wd) (x:Wd),(x :: l).Pairwise (λa b=>¬lt2 b a)->(∀ a∈x :: l,∀ b∈x :: l,a.1=b.1->a=b)->(x :: Ry x.1 l).Pairwise lt2/\∀ z,z∈x :: Ry x.1 l↔z∈x :: l
 | [],x,_,_=>⟨by simp[Ry],λz=>by simp[Ry]⟩
 | y :: l,x,hp,hu=>by
  have ah:=(List.pairwise_cons.1 hp).2;obtain⟨i1,i2⟩:=Zee l y ah (λa ha b hb=>hu a (cH _ ha) b (cH _ hb));rw[Ry];by_cases e:y.1=x.1
  ·have ae:y=x:=hu y (by simp) x (by simp) e;subst ae;rw[if_pos rfl];exact⟨i1,λz=>by rw[i2 z];simp⟩
  ·rw[if_neg e]
   have ac:lt2 x y:=by
    have:=(List.pairwise_cons.1 hp).1 y (by simp);unfold lt2 at *;omega
   refine⟨List.pairwise_cons.2 ⟨λz hz=>?_,i1⟩,λz=>?_⟩
   ·rcases aO.1 hz with rfl|hz
    ·exact ac
    ·exact Ph ac ((List.pairwise_cons.1 i1).1 z hz)
   ·rw[aO,i2 z,aO (a:=z) (b:=x)]
theorem Dz:∀ (P Q:List Wd),P.Pairwise lt2->Q.Pairwise lt2->(∀ x,x∈P↔x∈Q)->P=Q
 | [],[],_,_,_=>rfl
 | [],y :: Q,_,_,h=>absurd ((h y).2 (by simp)) (by simp)
 | x :: P,[],_,_,h=>absurd ((h x).1 (by simp)) (by simp)
 | x :: P,y :: Q,hP,hQ,h=>by
  obtain⟨p1,p2⟩:=List.pairwise_cons.1 hP;obtain⟨q1,q2⟩:=List.pairwise_cons.1 hQ;have ac:∀ a:Wd,¬lt2 a a:=λa q=>by unfold lt2 at q;omega
  have ae:x=y:=by
   rcases aO.1 ((h x).1 (by simp)) with e|e
   ·exact e
   rcases aO.1 ((h y).2 (by simp)) with e'|e'
   ·exact e'.symm
   exact absurd (Ph (q1 x e) (p1 y e')) (ac y)
  subst ae;rw[Dz P Q p2 q2 (λz=>⟨λhz=>?_,λhz=>?_⟩)]
  ·rcases aO.1 ((h z).1 (cH _ hz)) with e|e
   ·subst e;exact absurd (p1 z hz) (ac z)
   ·exact e
  ·rcases aO.1 ((h z).2 (cH _ hz)) with e|e
   ·subst e;exact absurd (q1 z hz) (ac z)
   ·exact e
theorem Hd{K}:∀ (N:List Int) (T:List Zk) (β γ : Int->List Zj),Z1 K N T β = (0,γ)->∀ x,x∉N -> γ x = β x
 | [],_,β,γ,h,x,_=>by rw[Z1] at h;rw[<-(Prod.mk.inj h).2]
 | _ :: _,[],β,γ,h,x,_=>by rw[Z1] at h;rw[<-(Prod.mk.inj h).2]
 | s :: N,b :: T,β,γ,h,x,hx=>by
  rw[Z1] at h;split at h
  ·exact absurd (congrArg cZ h) (by simp)
  split at h
  ·rename_i q;exact absurd (congrArg cZ h) q
  rw[Hd N T _ γ h x (λq=>hx (by simp[q]))];unfold Uz;rw[if_neg (λq=>hx (by simp[q]))]
theorem Zei{K}:∀ (N:List Int) (T:List Zk) (β γ : Int->List Zj),N.Nodup->Z1 K N T β = (0,γ)->∀ i (h:i<N.length) (h':i<T.length),(∀ j (_:j<N.length) (g':j<T.length),T[j].1∉N.drop j)->kbD K N[i] T[i]=true/\∃ U,Xw K (γ T[i].1) T[i]=(0,γ N[i],U)
 | [],_,_,_,_,_,i,h,_,_=>absurd h (by simp)
 | _ :: _,[],_,_,_,_,i,_,h,_=>absurd h (by simp)
 | s :: N,b :: T,β,γ,hn,h,i,hi,hi',hd=>by
  rw[Z1] at h;split at h
  ·exact absurd (congrArg cZ h) (by simp)
  rename_i k1;split at h
  ·rename_i q;exact absurd (congrArg cZ h) q
  rename_i k2;have k2:=aT.1 k2;have ad:=List.nodup_cons.1 hn;cases i with
  | zero=>
   have hb:b.1∉s :: N:=hd 0 (by simp) (by simp);refine⟨by simpa using k1,(Xw K (β b.1) b).2.2,?_⟩
   have e1 : γ b.1 = β b.1:=by
    rw[Hd N T _ γ h b.1 (λq=>hb (by simp[q]))];unfold Uz;rw[if_neg (λq=>hb (by simp[q]))]
   have e2 : γ s=(Xw K (β b.1) b).2.1:=by
    rw[Hd N T _ γ h s ad.1];unfold Uz;rw[if_pos rfl]
   show Xw K (γ b.1) b=(0,γ s,_);rw[e1,e2];exact Prod.ext k2 rfl
  | succ i=>
   exact Zei N T _ γ ad.2 h i (by simpa using hi) (by simpa using hi') (λj g g'=>by
    have:=hd (j+1) (by simpa using g) (by simpa using g');simpa using this)
def RT(K:List ByteArray)(N:List Int)(T:List Zk):Prop:=Tr.chkTr N T=0/\(Z1 K N T noB).1=0
def cbC(K:List ByteArray)(N:List Int)(T:List Zk):Int->List Zj:=(Z1 K N T noB).2
theorem Px{K N T P}{tip:Int}(h:opE K N T P tip=0):RT K N T/\Tr.bstGo N T 0 0 N=tip:=by
 obtain⟨_,h2,h3,_⟩:=Wa h;have hc:=(Xq h2).1;refine⟨⟨hc,h3⟩,?_⟩;rw[Tr.bstD_mk hc] at h2;exact (Prod.mk.inj h2).1
theorem RT.out{K N T}(h:RT K N T){x:Int}(hx:x∉N):cbC K N T x=[]:=Hd N T noB _ (Prod.ext h.2 rfl) x hx
theorem RT.fix{K N T}(h:RT K N T){s:Int}(hs:s∈N):kbD K s (Tr.fnd s N T)=true/\∃ U,Xw K (cbC K N T (Tr.fnd s N T).1) (Tr.fnd s N T)=(0,cbC K N T s,U):=by
 obtain⟨i,hi,rfl⟩:=List.getElem_of_mem hs;have ok:=Tr.TrOk.of h.1;have aa:i<T.length:=by rw[<-ok.len];exact hi
 rw[(Tr.ahead h.1 i hi aa).1];refine Zei N T noB _ ok.nd (Prod.ext h.2 rfl) i hi aa (λj g g' q=>?_)
 rcases (Tr.ahead h.1 j g g').2 with e|e
 ·rw[e] at q;exact ok.zero (List.mem_of_mem_drop q)
 ·have:=ok.nd;rw[<-List.take_append_drop j N] at this;exact (List.nodup_append.1 this).2.2 _ e _ q rfl
theorem Nr{K}{s:Int}{b c:Zk}(h0:s≠0)(h1:kbD K s b=true)(h2:kbD K s c=true):b=c:=by
 obtain⟨b1,b2,_⟩:=Wt h1;obtain⟨c1,c2,_⟩:=Wt h2;have e:M5 b=M5 c:=Bk.place_one (L:=K) (by omega) (by omega);rw[Ql b1,Ql c1] at e;exact Zcu b1 c1 e
theorem Zlx{K U N V T}(hU:RT K U V)(hN:RT K N T):∀ (n:Nat) (s:Int),(Tr.fnd s U V).2.1.toNat<=n->s∈U->s∈N->Tr.fnd s U V=Tr.fnd s N T/\cbC K U V s=cbC K N T s:=by
 intro n
 induction n with
 | zero=>
  intro s hn hs _;have:=(Tr.TrOk.of hU.1).heads _ (Tr.fnd_in (Tr.TrOk.of hU.1).len hs);omega
 | succ n ih=>
  intro s hn hs ae;have aa:=Tr.TrOk.of hU.1;have okN:=Tr.TrOk.of hN.1;obtain⟨u1,U1,u2⟩:=hU.fix hs;obtain⟨v1,V1,v2⟩:=hN.fix ae;have e:=Nr (by have:=aa.nm s hs;omega) u1 v1;refine⟨e,?_⟩
  have ep:cbC K U V (Tr.fnd s U V).1=cbC K N T (Tr.fnd s U V).1:=by
   have p1:=aa.par s hs;have p2:=okN.par s ae;rw[<-e] at p2
   rcases p1 with p1|p1
   ·rw[p1,hU.out aa.zero,hN.out okN.zero]
   ·rcases p2 with p2|p2
    ·rw[p2,hU.out aa.zero,hN.out okN.zero]
    ·have hh:=aa.hgt s hs;have h1:=aa.heads _ (Tr.fnd_in aa.len p1);exact (ih _ (by omega) p1 p2).2
  rw[ep] at u2;rw[<-e,u2] at v2;exact (Prod.mk.inj (Prod.mk.inj v2).2).1
theorem RT.sub{K U N V T}(hU:RT K U V)(hN:RT K N T)(hm:∀ s∈U,s∈N):Tr.Sub U V N T:=⟨hU.1,hm,λs hs=>(Zlx hU hN _ s (Nat.le_refl _) hs (hm s hs)).1⟩
theorem Zff{K U N V T P Q}{t u:Int}(h1:opE K U V P t=0)(h2:opE K N T Q u=0)(hm:∀ s,s∈U↔s∈N):t=u/\cbC K U V t=cbC K N T u:=by
 obtain⟨hU,e1⟩:=Px h1;obtain⟨hN,e2⟩:=Px h2
 have e:t=u:=by
  rw[<-e1,<-e2];exact Tr.best_same (hU.sub hN (λs=>(hm s).1)) hN.1 (λs=>(hm s).2)
 refine⟨e,?_⟩;rw[<-e];have hb:=(Tr.best_max (Tr.TrOk.of hU.1)).1;rw[show Tr.bstGo U V 0 0 U=t from e1] at hb
 rcases hb with hb|hb
 ·rw[hb,hU.out (Tr.TrOk.of hU.1).zero,hN.out (Tr.TrOk.of hN.1).zero]
 ·exact (Zlx hU hN _ t (Nat.le_refl _) hb ((hm t).1 hb)).2
theorem Zgf{K U N V T P Q}{t u:Int}(h1:opE K U V P t=0)(h2:opE K N T Q u=0)(hm:∀ s∈U,s∈N):∃ m v,Tr.workE U V t=(m,0)/\Tr.workE N T u=(v,0)/\m<=v:=by
 obtain⟨hU,e1⟩:=Px h1;obtain⟨hN,e2⟩:=Px h2;have ae:=Tr.TrOk.of hU.1;have okN:=Tr.TrOk.of hN.1;have b1:=(Tr.best_max ae).1;obtain⟨b2,b3⟩:=Tr.best_max okN;rw[show Tr.bstGo U V 0 0 U=t from e1] at b1;rw[show Tr.bstGo N T 0 0 N=u from e2] at b2 b3;refine⟨_,_,Tr.workE_mk hU.1 b1,Tr.workE_mk hN.1 b2,?_⟩;rw[(hU.sub hN hm).wrk hN.1 b1]
 rcases b1 with b1|b1
 ·rw[b1,okN.wrk_zero];exact (Tr.wrk_bd okN.heads u).1
 ·have:=b3 t (hm t b1);omega
def Wo:List ByteArray->Ye->List Wd->Int×List ByteArray×Ye
 | K,y,[]=>(0,K,y)
 | K,y,x :: Q=>if (ntR K y.1 y.2.1 y.2.2.1 y.2.2.2 x.2).1≠0 then ((ntR K y.1 y.2.1 y.2.2.1 y.2.2.2 x.2).1,[],([],[],[],0)) else
  Wo (ntR K y.1 y.2.1 y.2.2.1 y.2.2.2 x.2).2.2.k ((ntR K y.1 y.2.1 y.2.2.1 y.2.2.2 x.2).2.2.n,(ntR K y.1 y.2.1 y.2.2.1 y.2.2.2 x.2).2.2.t,(ntR K y.1 y.2.1 y.2.2.1 y.2.2.2 x.2).2.2.p,(ntR K y.1 y.2.1 y.2.2.1 y.2.2.2 x.2).2.2.tip) Q
theorem Fg{y:Ye}(hl:y.1.length=y.2.1.length)(hn:y.1.Nodup){x:Wd}:x∈Rk y↔x.1∈y.1/\Tr.fnd x.1 y.1 y.2.1=x.2:=by
 obtain⟨N,T,P,t⟩:=y;obtain⟨s,b⟩:=x;simp only at hl hn ⊢;unfold Rk;simp only;clear P t
 induction N generalizing T with
 | nil=>simp
 | cons a N ih=>
  cases T with
  | nil=>simp at hl
  | cons c T=>
   have ac:=List.nodup_cons.1 hn;rw[List.zip_cons_cons,aO,ih T (by simpa using hl) ac.2,aO,Tr.fnd];constructor
   ·rintro (h|⟨h1,h2⟩)
    ·obtain⟨rfl,rfl⟩:=Prod.mk.inj h;exact⟨.inl rfl,if_pos rfl⟩
    ·refine⟨.inr h1,?_⟩;rw[if_neg (λ(q:s=a)=>ac.1 (q ▸ h1))];exact h2
   ·rintro ⟨h1,h2⟩;by_cases e:s=a
    ·rw[if_pos e] at h2;exact .inl (by rw[e,h2])
    ·rw[if_neg e] at h2
     rcases h1 with h1|h1
     ·exact absurd h1 e
     ·exact .inr ⟨h1,h2⟩
theorem mem_all{L}{x:Wd}:x∈Jg L↔∃ y∈L,x∈Rk y:=by
 unfold Jg;rw[List.mem_flatten];constructor
 ·rintro ⟨l,hl,hx⟩;obtain⟨y,hy,rfl⟩:=bN.1 hl;exact⟨y,hy,hx⟩
 ·rintro ⟨y,hy,hx⟩;exact⟨_,bN.2 ⟨y,hy,rfl⟩,hx⟩
theorem Znw(a:Wd):¬lt2 a a:=λq=>by unfold lt2 at q;omega
theorem Td{K L}(hr:∀ y∈L,opN K y=0){x:Wd}(hx:x∈Jg L):∃ y∈L,RT K y.1 y.2.1/\x.1∈y.1/\Tr.fnd x.1 y.1 y.2.1=x.2/\kbD K x.1 x.2=true:=by
 obtain⟨y,hy,h⟩:=mem_all.1 hx;obtain⟨hR,_⟩:=Px (hr y hy);have ok:=Tr.TrOk.of hR.1;obtain⟨h1,h2⟩:=(Fg ok.len ok.nd).1 h;refine⟨y,hy,hR,h1,h2,?_⟩;rw[<-h2];exact (hR.fix h1).1
theorem Bs{K L}(hr:∀ y∈L,opN K y=0):∀ a∈Jg L,∀ b∈Jg L,a.1=b.1->a=b:=by
 intro a ha b hb e;obtain⟨y,_,hR,h1,_,h3⟩:=Td hr ha;obtain⟨_,_,_,_,_,g3⟩:=Td hr hb;have:=(Tr.TrOk.of hR.1).nm a.1 h1;rw[<-e] at g3;exact Prod.ext e (Nr (by omega) h3 g3)
namespace Tr
open Go.RowKit
def nodR:Rec Ye where
 sz:=4
 C w cs x:=∃ a n c b m d p q r,cs=[F a n c,F b m d,F p q r,E J x.2.2.2]/\IntsAt w a n x.1/\BlksAt w b m x.2.1/\TxsAt w p q x.2.2.1/\SlOk a n c/\SlOk b m d/\SlOk p q r
 R:=NodAt
 wide _ _ _:=by rintro ⟨a,n,c,b,m,d,p,q,r,rfl,_⟩;rfl
 one _ _ _:=by rintro ⟨a,n,c,b,m,d,p,q,r,rfl,_⟩ v hv;simp at hv;rcases hv with rfl|rfl|rfl|rfl <;> rfl
 kept _ _ _ _ hb:=by rintro ⟨a,n,c,b,m,d,p,q,r,rfl,h1,h2,h3,h4⟩;exact⟨a,n,c,b,m,d,p,q,r,rfl,h1.later hb,h2.later hb,h3.later hb,h4⟩
 rc _ _ _ _:=by
  rintro ⟨a,n,c,b,m,d,p,q,r,h0,h1,h2,h3,hr⟩;refine⟨_,λj u hj=>?_,a,n,c,b,m,d,p,q,r,rfl,hr⟩
  match j,hj with
  | 0,hj=>cases hj;exact h0
  | 1,hj=>cases hj;exact h1
  | 2,hj=>cases hj;exact h2
  | 3,hj=>cases hj;exact h3
  | j+4,hj=>simp at hj
 cr _ _ _ _ _ h:=by rintro ⟨a,n,c,b,m,d,p,q,r,rfl,hr⟩;exact⟨a,n,c,b,m,d,p,q,r,h 0 _ rfl,h 1 _ rfl,h 2 _ rfl,h 3 _ rfl,hr⟩
def msgR:Rec Tq where
 sz:=12
 C w cs x:=∃ a n c a1 n1 c1 a2 n2 c2,cs=[E J x.1,E J x.2.1,E J x.2.2.1,E J x.2.2.2.1,E J x.2.2.2.2.1.1,E J x.2.2.2.2.1.2.1,E J x.2.2.2.2.1.2.2.1,E J x.2.2.2.2.1.2.2.2.1,F a n c,E J x.2.2.2.2.2.1,F a1 n1 c1,F a2 n2 c2]/\TxsAt w a n x.2.2.2.2.1.2.2.2.2/\SlOk a n c/\InsAt w a1 n1 x.2.2.2.2.2.2.1/\SlOk a1 n1 c1/\OutsAt w a2 n2 x.2.2.2.2.2.2.2/\SlOk a2 n2 c2
 R:=MsgAt
 wide _ _ _:=by rintro ⟨a,n,c,a1,n1,c1,a2,n2,c2,rfl,_⟩;rfl
 one _ _ _:=by rintro ⟨a,n,c,a1,n1,c1,a2,n2,c2,rfl,_⟩ v hv;simp at hv;rcases hv with rfl|rfl|rfl|rfl|rfl|rfl|rfl|rfl|rfl|rfl|rfl|rfl <;> rfl
 kept _ _ _ _ hb:=by rintro ⟨a,n,c,a1,n1,c1,a2,n2,c2,rfl,h1,h2,h3,h4,h5,h6⟩;exact⟨a,n,c,a1,n1,c1,a2,n2,c2,rfl,h1.later hb,h2,h3.later hb,h4,h5.later hb,h6⟩
 rc _ _ _ _:=by
  rintro ⟨h0,h1,h2,h3,⟨h4,h5,h6,h7,a,n,c,h8,k1,k2⟩,h9,⟨a1,n1,c1,h10,k3,k4⟩,a2,n2,c2,h11,k5,k6⟩;refine⟨_,λj u hj=>?_,a,n,c,a1,n1,c1,a2,n2,c2,rfl,k1,k2,k3,k4,k5,k6⟩
  match j,hj with
  | 0,hj=>cases hj;exact h0
  | 1,hj=>cases hj;exact h1
  | 2,hj=>cases hj;exact h2
  | 3,hj=>cases hj;exact h3
  | 4,hj=>cases hj;exact h4
  | 5,hj=>cases hj;exact h5
  | 6,hj=>cases hj;exact h6
  | 7,hj=>cases hj;exact h7
  | 8,hj=>cases hj;exact h8
  | 9,hj=>cases hj;exact h9
  | 10,hj=>cases hj;exact h10
  | 11,hj=>cases hj;exact h11
  | j+12,hj=>simp at hj
 cr _ _ _ _ _ h:=by
  rintro ⟨a,n,c,a1,n1,c1,a2,n2,c2,rfl,k1,k2,k3,k4,k5,k6⟩;exact⟨h 0 _ rfl,h 1 _ rfl,h 2 _ rfl,h 3 _ rfl,⟨h 4 _ rfl,h 5 _ rfl,h 6 _ rfl,h 7 _ rfl,a,n,c,h 8 _ rfl,k1,k2⟩,h 9 _ rfl,⟨a1,n1,c1,h 10 _ rfl,k3,k4⟩,a2,n2,c2,h 11 _ rfl,k5,k6⟩
theorem Tryz.infoNodeC:(Tryz.prog.info? 67).map (λi=>(i.zero,i.size,i.bytes))=some (some (.agg #[F none 0 0,F none 0 0,F none 0 0,E J 0]),4,80):=by kernel_rfl
theorem Mr(w):Calls aB 225 #[F none 0 0] w λe w'=>e = dF (F none 0 0)/\w=w':=by
 have he:=λw=>bD (P:=aB) w 87 67 none 0 0 0 0 underlying87;go_enter func225,ntmps225;go_wp2;go_ret;exact⟨rfl,rfl⟩
theorem J0(ad:Addr)(n c:Nat)(aa:List Value)(w:World)(hn:n<=1759218604441)(hz:aa.length=n*4)(h1:∀ u∈aa,u.oneCell'=true)(hc:∀ j u,aa[j]? = some u->w.cell? (ad.add j)=some u) :
  Calls aB 225 #[F (some ad) n c] w λe w'=>∃ v,e = dF v/\w'.ownsRow w.heap.size 67 4 v n aa/\ZD w w':=by
 obtain⟨i0,hi,au,av,aw⟩:=info_parts Tryz.infoNodeC;have hb:=Zh w (dE #[] 67);have HC:Hid (∀ j u,aa[j]? = some u->(w.alloc (dE #[] 67)).cell? (ad.add j)=some u):=λj u hj=>Ze hb (hc j u hj);obtain⟨HB,HZ,H1,HO⟩:=kh4 hb hz h1 (We w 67 4);have he:=λw=>bD (P:=aB) w 87 67 (some ad) n c 0 0 underlying87;clear hc hb hz h1;go_enter func225,ntmps225
 go_wp2_with (at_builtin;refine wpList_append_own _ rfl _ _ 87 rfl w.heap.size 67 i0 (.agg #[F none 0 0,F none 0 0,F none 0 0,E J 0]) 4 80 underlying87 hi au av aw rfl (by decide) _ _ _ rfl HO ad n c aa rfl HZ HC H1 (by unfold maxLen;omega) (by omega) HB.size ?_;intro v2 w3 ah ag _)
 have HW:Hid (w3.ownsRow w.heap.size 67 4 v2 n aa):=by show World.ownsRow _ _ _ _ _ _ _;simpa using ah
 have am:=Zd (HB.grown ag HB.size (Xn HO));clear ah ag;go_wp2;go_ret;exact⟨v2,rfl,Za HW,Za am⟩
theorem cloneNode_any(a)(n c:Nat)(L)(w0 w:World)(hn:n<=1759218604441)(h:RowsAt nodR.R 4 w0 a n L)(hb:ZD w0 w)(hs:SlOk a n c) :
  Calls aB 225 #[F a n c] w λe w'=>∃ v,∃ K:List (List Value),e = dF v/\AllC nodR w0 K L/\w'.ownsRow w.heap.size 67 4 v n K.flatten/\ZD w w':=by
 obtain⟨hl,hc⟩:=h;cases a with
 | none=>
  obtain⟨rfl,rfl⟩:=hs.2.2 rfl;have e:L=[]:=aL.1 hl;subst e;exact (Mr w).mono λe w' ⟨x,y⟩=>⟨_,[],x,⟨rfl,λi h=>absurd h (by simp)⟩,y ▸ World.ownsRow_nil _ _ _ _,y ▸ Below.refl _ _⟩
 | some ad=>
  by_cases h0:n=0
  ·subst h0;have e:L=[]:=aL.1 hl;subst e;exact (J0 ad 0 c [] w hn rfl (λu hu=>by cases hu) (λj u hj=>by simp at hj)).mono λe w' ⟨v,x,y,z⟩=>⟨v,[],x,⟨rfl,λi h=>absurd h (by simp)⟩,y,z⟩
  ·obtain⟨b,off,e,_,ag⟩:=hc (by omega);obtain⟨rfl⟩:=e;obtain⟨K,h1,h3⟩:=Vr nodR ag;have hk:K.flatten.length=n*4:=(by rw[Xo h1,hl];rfl);exact (J0 ⟨b,off,none⟩ n c K.flatten w hn hk (flat_one h1) (λj u hj=>by rw[Addr.add_lit];exact Ze hb (h3 j u hj))).mono λe w' ⟨v,x,y,z⟩=>⟨v,K,x,h1,y,z⟩
theorem Tryz.infoMsgC:(Tryz.prog.info? 106).map (λi=>(i.zero,i.size,i.bytes))=some (some (.agg #[E J 0,E J 0,E J 0,E J 0,E J 0,E J 0,E J 0,E J 0,F none 0 0,E J 0,F none 0 0,F none 0 0]),12,144):=by kernel_rfl
theorem Fz(w):Calls aB 226 #[F none 0 0] w λe w'=>e = dF (F none 0 0)/\w=w':=by
 have he:=λw=>bD (P:=aB) w 88 106 none 0 0 0 0 underlying88;go_enter func226,ntmps226;go_wp2;go_ret;exact⟨rfl,rfl⟩
theorem R5(ad:Addr)(n c:Nat)(aa:List Value)(w:World)(hn:n<=977343669134)(hz:aa.length=n*12)(h1:∀ u∈aa,u.oneCell'=true)(hc:∀ j u,aa[j]? = some u->w.cell? (ad.add j)=some u) :
  Calls aB 226 #[F (some ad) n c] w λe w'=>∃ v,e = dF v/\w'.ownsRow w.heap.size 106 12 v n aa/\ZD w w':=by
 obtain⟨i0,hi,au,av,aw⟩:=info_parts Tryz.infoMsgC;have hb:=Zh w (dE #[] 106);have HC:Hid (∀ j u,aa[j]? = some u->(w.alloc (dE #[] 106)).cell? (ad.add j)=some u):=λj u hj=>Ze hb (hc j u hj);obtain⟨HB,HZ,H1,HO⟩:=kh4 hb hz h1 (We w 106 12);have he:=λw=>bD (P:=aB) w 88 106 (some ad) n c 0 0 underlying88;clear hc hb hz h1;go_enter func226,ntmps226
 go_wp2_with (at_builtin;refine wpList_append_own _ rfl _ _ 88 rfl w.heap.size 106 i0 (.agg #[E J 0,E J 0,E J 0,E J 0,E J 0,E J 0,E J 0,E J 0,F none 0 0,E J 0,F none 0 0,F none 0 0]) 12 144 underlying88 hi au av aw rfl (by decide) _ _ _ rfl HO ad n c aa rfl HZ HC H1 (by unfold maxLen;omega) (by omega) HB.size ?_;intro v2 w3 ah ag _)
 have HW:Hid (w3.ownsRow w.heap.size 106 12 v2 n aa):=by show World.ownsRow _ _ _ _ _ _ _;simpa using ah
 have am:=Zd (HB.grown ag HB.size (Xn HO));clear ah ag;go_wp2;go_ret;exact⟨v2,rfl,Za HW,Za am⟩
theorem cloneMsg_any(a)(n c:Nat)(L)(w0 w:World)(hn:n<=977343669134)(h:RowsAt msgR.R 12 w0 a n L)(hb:ZD w0 w)(hs:SlOk a n c) :
  Calls aB 226 #[F a n c] w λe w'=>∃ v,∃ K:List (List Value),e = dF v/\AllC msgR w0 K L/\w'.ownsRow w.heap.size 106 12 v n K.flatten/\ZD w w':=by
 obtain⟨hl,hc⟩:=h;cases a with
 | none=>
  obtain⟨rfl,rfl⟩:=hs.2.2 rfl;have e:L=[]:=aL.1 hl;subst e;exact (Fz w).mono λe w' ⟨x,y⟩=>⟨_,[],x,⟨rfl,λi h=>absurd h (by simp)⟩,y ▸ World.ownsRow_nil _ _ _ _,y ▸ Below.refl _ _⟩
 | some ad=>
  by_cases h0:n=0
  ·subst h0;have e:L=[]:=aL.1 hl;subst e;exact (R5 ad 0 c [] w hn rfl (λu hu=>by cases hu) (λj u hj=>by simp at hj)).mono λe w' ⟨v,x,y,z⟩=>⟨v,[],x,⟨rfl,λi h=>absurd h (by simp)⟩,y,z⟩
  ·obtain⟨b,off,e,_,ag⟩:=hc (by omega);obtain⟨rfl⟩:=e;obtain⟨K,h1,h3⟩:=Vr msgR ag;have hk:K.flatten.length=n*12:=(by rw[Xo h1,hl];rfl);exact (R5 ⟨b,off,none⟩ n c K.flatten w hn hk (flat_one h1) (λj u hj=>by rw[Addr.add_lit];exact Ze hb (h3 j u hj))).mono λe w' ⟨v,x,y,z⟩=>⟨v,K,x,h1,y,z⟩
