import Derived.Test.YtmomfkikogbdeaaGreatDoorH
import Derived.Test.YtmomfkikogbdeaaGreatDoorG37
open Go.Proofs.Tryz
open Go renaming heap_alloc_new->aG,lt_of_block->aA,wpAnyH_ready->cM
open Go.Act renaming put->aQ
open Go.Ending renaming returned->dF
open Go.IntKind renaming i64->J
open Go.Obj renaming cells->dE
open Go.Proofs.Tryz renaming prog->aB
open Go.Value renaming string->dB,int->E,slice->F
open Go.World renaming block_lt_of_cell?->aE,setCell->cT
open List renaming length_set->cR,getElem_mem->bE,drop_of_length_le->bU
open Nat renaming le_refl->aF,zero_le->aI,lt_of_lt_of_le->aD,le_trans->aN
set_option maxHeartbeats 12800000
set_option maxRecDepth 10000
namespace Go.Proofs.YtmomfkikogbdeaaGreatDoor.Tr
open Go.RowKit
def T5:List Value->Nat->List Value->List Value
 | aa,_,[]=>aa
 | aa,o,c :: cs=>T5 (aa.set o c) (o+1) cs
def setsW:World->Nat->Nat->List Value->World
 | w,_,_,[]=>w
 | w,g,o,c :: cs=>setsW (w.setCell ⟨g,o,none⟩ c) g (o+1) cs
theorem setsW_gr{S:Nat->Prop}{w:World}{g:Nat}:∀ (cs:List Value) (w1:World) (o:Nat),Gr w w1 S->(S g\/w.heap.size<=g)->Gr w (setsW w1 g o cs) S
 | [],_,_,h,_=>h
 | c :: cs,_,o,h,hg=>setsW_gr cs _ (o+1) (h.one g o hg c) hg
theorem Nh{B:Nat}{e:TypeId}{sz n g cap:Nat}:∀ (cs:List Value) (w:World) (o:Nat) (aa:List Value),w.ownsRow B e sz (F (some ⟨g,0,none⟩) n cap) n aa->(setsW w g o cs).ownsRow B e sz (F (some ⟨g,0,none⟩) n cap) n (T5 aa o cs)
 | [],_,_,_,h=>h
 | c :: cs,_,o,_,h=>Nh cs _ (o+1) _ (h.stored o c).1
theorem Ni{sz:Nat}:∀ (cs:List Value) (K:List (List Value)) (_:Wid sz K) (k:Nat) (h:k<K.length) (j:Nat),j+cs.length<=sz->T5 K.flatten (k*sz+j) cs=(K.set k (T5 K[k] j cs)).flatten
 | [],K,_,k,h,j,_=>by simp[T5]
 | c :: cs,K,hw,k,h,j,hj=>by
  simp only[List.length_cons] at hj;have hl:(K[k].set j c).length=sz:=by rw[cR];exact hw _ (bE h)
  have:=Ni cs (K.set k (K[k].set j c)) (Vz hw k hl) k (by rw[cR];exact h) (j+1) (by omega);simp only[T5];rw[Y7 hw k h j (by omega) c,Nat.add_assoc,this,List.getElem_set_self,List.set_set]
theorem Nj:∀ (cs A aa:List Value),aa.length=cs.length->T5 (A++aa) A.length cs=A++cs
 | [],A,aa,h=>by simp at h;simp[T5,h]
 | c :: cs,A,[],h=>by simp at h
 | c :: cs,A,f :: aa,h=>by
  have:=Nj cs (A++[c]) aa (by simpa using h);simp only[T5];rw[List.set_append_right _ _ (aF _),Nat.sub_self,List.set_cons_zero];simpa using this
section
variable {α : Type} {Z : Rec α} {e : TypeId} {B G : Nat} {w0 wr w5 : World} {n g cap k : Nat} {K : List (List Value)} {L : List α}
theorem own_put{cs:List Value}(h:wr.ownsRow B e Z.sz (F (some ⟨g,0,none⟩) n cap) n K.flatten)(hw:Wid Z.sz K)(hk:k<K.length)(hc:cs.length=Z.sz):(setsW wr g (k*Z.sz) cs).ownsRow B e Z.sz (F (some ⟨g,0,none⟩) n cap) n (K.set k cs).flatten:=by
 have h1:=Nh cs wr (k*Z.sz) _ h;have h2:=Ni cs K hw k hk 0 (by omega);rw[Nat.add_zero] at h2;have h3:=Nj cs [] K[k] (by rw[hc];exact hw _ (bE hk));simp only[List.nil_append,List.length_nil] at h3;rw[h2,h3] at h1;exact h1
theorem Cl.put{cs}{w0s:Nat}(h:Cl Z e B G w0 wr (F (some ⟨g,0,none⟩) n cap) n K L k)(hk:k<L.length)(hb:ZD wr w5)(hf:Fresh w0s w5 (λw2=>Z.C w2 cs L[k]))(hG:G<=w0s) :
  Cl Z e B G w0 (setsW w5 g (k*Z.sz) cs) (F (some ⟨g,0,none⟩) n cap) n (K.set k cs) L (k+1):=by
 have h5:=h.keep hb;exact h5.step hk (hf.less hG) (setsW_gr cs w5 _ (Gr.refl _ _) (.inl rfl)) (own_put h5.own h5.wid (by rw[h5.len];exact hk) (Z.wide _ _ _ hf.now))
end
theorem len4{c:List Value}(h:c.length=4):∃ x y z r,c=[x,y,z,r]:=by
 match c,h with
 | [x,y,z,r],_=>exact⟨x,y,z,r,rfl⟩
theorem drew_heap{w:World}{b:Nat}{o:Option Obj}(h:w.heap[b]? = o):w.drew.heap[b]? = o:=h
theorem Dx:∀ (L:List ByteArray),∀ u∈L.map dB,u.oneCell'=true:=by
 intro L u hu;obtain⟨s,_,rfl⟩:=List.mem_map.1 hu;rfl
theorem Tryz.infoStrC:(Tryz.prog.info? 9).map (λi=>(i.zero,i.size,i.bytes))=some (some (.string ByteArray.empty),1,16):=by kernel_rfl
theorem Fv(w):Calls aB 224 #[F none 0 0] w λe w'=>e = dF (F none 0 0)/\w=w':=by
 have he:=λw=>Lib.run_eql_slice_nil (P:=aB) w 22 9 none 0 0 0 0 underlying22;go_enter func224,ntmps224;go_wp2;go_ret;exact⟨rfl,rfl⟩
theorem Mp(ad:Addr)(n c:Nat)(aa:List Value)(w:World)(hn:n<=4096)(hz:aa.length=n*1)(h1:∀ u∈aa,u.oneCell'=true)(hc:∀ j u,aa[j]? = some u->w.cell? (ad.add j)=some u) :
  Calls aB 224 #[F (some ad) n c] w λe w'=>∃ v,e = dF v/\w'.ownsRow w.heap.size 9 1 v n aa/\ZD w w':=by
 obtain⟨i0,hi,au,av,aw⟩:=info_parts Tryz.infoStrC;have hb:=Zh w (dE #[] 9);have HC:Hid (∀ j u,aa[j]? = some u->(w.alloc (dE #[] 9)).cell? (ad.add j)=some u):=λj u hj=>Ze hb (hc j u hj);obtain⟨HB,HZ,H1,HO⟩:=kh4 hb hz h1 (We w 9 1);have he:=λw=>Lib.run_eql_slice_nil (P:=aB) w 22 9 (some ad) n c 0 0 underlying22;clear hc hb hz h1;go_enter func224,ntmps224
 go_wp2_with (at_builtin;refine wpList_append_own _ rfl _ _ 22 rfl w.heap.size 9 i0 (.string ByteArray.empty) 1 16 underlying22 hi au av aw rfl (by decide) _ _ _ rfl HO ad n c aa rfl HZ HC H1 (by unfold maxLen;omega) (by omega) HB.size ?_;intro v2 w3 ah ag _)
 have HW:Hid (w3.ownsRow w.heap.size 9 1 v2 n aa):=by show World.ownsRow _ _ _ _ _ _ _;simpa using ah
 have am:=Zd (HB.grown ag HB.size (Xn HO));clear ah ag;go_wp2;go_ret;exact⟨v2,rfl,Za HW,Za am⟩
theorem cloneStr_any(a)(n c:Nat)(L:List ByteArray)(w:World)(hn:n<=4096)(h:Bk.TextsAt w a n L)(hs:SlOk a n c) :
  Calls aB 224 #[F a n c] w λe w'=>∃ v,e = dF v/\w'.ownsRow w.heap.size 9 1 v n (L.map dB)/\ZD w w':=by
 obtain⟨hl,hc⟩:=h;cases a with
 | none=>
  obtain⟨rfl,rfl⟩:=hs.2.2 rfl;have e:L=[]:=List.length_eq_zero_iff.1 hl;subst e;exact (Fv w).mono λe w' ⟨x,y⟩=>⟨_,x,y ▸ World.ownsRow_nil _ _ _ _,y ▸ Below.refl _ _⟩
 | some ad=>
  refine (Mp ad n c (L.map dB) w hn (by simp[hl]) (Dx _) (λj u hj=>?_));have ab:j<L.length:=by have:=(List.getElem?_eq_some_iff.1 hj).1;simpa using this
  obtain⟨b,off,e,af⟩:=hc (by omega);cases e;rw[Addr.add_lit,af j ab];simpa[ab] using hj
theorem strs_of_own{w:World}{base:Nat}{v}{n:Nat}{K:List ByteArray}(h:w.ownsRow base 9 1 v n (K.map dB)):∃ a cap,v = F a n cap/\SlOk a n cap/\Bk.TextsAt w a n K:=by
 have hl:K.length=n:=by simpa using h.1
 rcases h.2 with ⟨rfl,rfl⟩|⟨g,cap,ab,rfl,hg,hh,h1,h2,h3,h4⟩
 ·exact⟨none,0,rfl,⟨aF _,aI _,λ_=>⟨rfl,rfl⟩⟩,hl,λh=>absurd h (by omega)⟩
 ·refine⟨_,cap,rfl,⟨h1,h2,λe=>by cases e⟩,hl,λ_=>⟨g,0,rfl,λi hi=>?_⟩⟩;rw[Nat.zero_add,World.ownsRow.cellAt h i (by omega)];simp[hi]
end Tr
open Go.RowKit
def Qo(x:Ye):Prop:=x.2.2.1.length<=2513169434916/\∀ t∈x.2.2.1,Tr.TxSmall t
theorem M8(ka kn kc K na nn nc L ma mn mc M)(x:Int)(w:World)(hE:Env w)(hK:Bk.TextsAt w ka kn K)(hN:NodsAt w na nn L)(hM:MsgsAt w ma mn M)(ee:∀ y∈L,Qo y)(hx:Ur K L M=x) :
  ZH 45 #[.agg #[F ka kn kc,F na nn nc,F ma mn mc]] w (E J x):=by
 obtain⟨X,hX,eb,cl⟩:=ka00 w [F ka kn kc,F na nn nc,F ma mn mc] 90;have lN:L.length=nn:=hN.1;have lM:M.length=mn:=hM.1;obtain⟨o,ho⟩:=ZF ((decide (1<=(nn:Int)) && decide ((nn:Int)<=4)));obtain⟨k,hk⟩:=ZF (Bk.bkChk K)
 have hx:(if o=false then 3 else if k≠0 then k else if 20<mn then 2 else if W9 K L≠0 then W9 K L else Js nn M)=x:=by
  rw[<-hx,<-ho,<-hk];unfold Ur;rw[lN,lM];by_cases q:1<=nn/\nn<=4
  ·have e:(decide (1<=(nn:Int)) && decide ((nn:Int)<=4))=true:=(by simp;omega);rw[e,if_neg (by decide),if_neg (show ¬¬(1<=nn/\nn<=4) from λr=>r q)]
  ·have e:(decide (1<=(nn:Int)) && decide ((nn:Int)<=4))=false:=(by simp;omega);rw[e,if_pos rfl,if_pos q]
 have C1:=Zd (Lc nn o X ho);have C2:=Zd (λV (hv:ZD w V)=>Bk.check_is ka kn kc K V (hK.later hv) k hk);have CN:=Zd (λV (hv:ZD w V) j (hj:j<L.length)=>And.intro (hE.later hv) (And.intro (hK.later hv) (hN.later hv)));obtain⟨HX,HO,dq,dl,HE,HK,HN,HM⟩:=kh8 hx ho cl eb hE hK hN hM;obtain⟨er,dn,dm⟩:=kh3 ee lN lM;obtain⟨m0,m1,m2,ml⟩:=kc3 cl;clear hE hK hN hM ee hx hk ho cl eb lN lM CN;go_enter func45,ntmps45;go_wp2_with fail;rw[<-hX];clear hX;(try go_wp2_with fail);refine C1.mono ?_;rintro e w1 ⟨rfl,cm⟩;obtain⟨be,X1⟩:=kh2 (Zf dl cm) (ZE cm dq);clear cm C1 m0 m1 m2 ml dq dl;cases o
 ·obtain rfl:(3:Int)=x:=by have q:=Za HX;rw[if_pos rfl] at q;exact q
  go_wp2;go_ret;exact⟨rfl,Za be⟩
 have fk:nn<=4:=by have q:=Za HO;simp at q;omega
 clear HO;obtain⟨m0,m1,m2,ml⟩:=kc3 X1;go_wp2_with fail;refine (C2 _ be).mono ?_;rintro e w2 ⟨rfl,cn⟩;obtain⟨bf,X2⟩:=kh2 (Zf be cn) (ZE cn X1);clear cn C2 m0 m1 m2 ml X1 be;by_cases cu:k=0;rotate_left
 ·obtain rfl:k=x:=by have q:=Za HX;rw[if_neg (by decide),if_pos cu] at q;exact q
  have gk:(k != 0)=true:=by simp[cu]
  go_wp2;go_ret;exact⟨rfl,Za bf⟩
 subst cu;obtain⟨m0,m1,m2,ml⟩:=kc3 X2;by_cases hm:20<mn
 ·have gm:(20:Int)<(mn:Int):=by omega
  obtain rfl:(2:Int)=x:=by have q:=Za HX;rw[if_neg (by decide),if_neg (λr=>r rfl),if_pos hm] at q;exact q
  go_wp2;go_ret;exact⟨rfl,Za bf⟩
 have gm:¬(20:Int)<(mn:Int):=by omega
 have cb:Hid ((if W9 K L≠0 then W9 K L else Js nn M)=x):=by have q:=Za HX;rw[if_neg (by decide),if_neg (λr=>r rfl),if_neg hm] at q;exact q
 clear HX;go_wp2_with fail
 go_loopw [28] (λi W=>∃ j:Nat,j<=nn/\i = E J j/\Hid (W9 K (L.drop j)=W9 K L)/\Hid (ZD w2 W)) (λi _=>nn - (intOf i).toNat)
 case atStart=>exact⟨0,aI _,rfl,rfl,Below.refl _ _⟩
 case round=>
  obtain⟨j,hj,rfl,HQ,HG⟩:=hrel;clear m0 m1 m2 ml;obtain⟨X3,ak⟩:=kh2 (ZE HG X2) (Zf bf HG);by_cases bo:j<nn
  ·have cq:j<L.length:=(by rw[Za dn];exact bo);have fj:(j:Int)<(nn:Int):=(by omega);have hq:=(Zjx cq).symm.trans HQ;obtain⟨gb,go,rfl,_,ay⟩:=(HN.later ak).2 (by omega);have aw:=ay j cq;have br:=er _ (bE cq);obtain⟨⟨N,T,P,tip⟩,hy⟩:=ZF (L[j]);rw[hy] at aw hq br;obtain⟨za,zn,zc,ba,bn,bc,pa,pn,pc,c0,c1,c2,c3,iN,iT,iP,s1,s2,s3⟩:=aw;simp only at c3 iN iT iP;obtain⟨y,az⟩:=ZF (opN K (N,T,P,tip));rw[az] at hq;have az:opE K N T P tip=y:=az;obtain⟨Y,hY⟩:=ZG (wr.alloc (dE #[F za zn zc,F ba bn bc,F pa pn pc,E J tip] 67));have aa:ZD wr Y:=(by rw[hY];exact Zh _ _);have Y0:Hid (Y.heap[wr.heap.size]? = some (dE [F za zn zc,F ba bn bc,F pa pn pc,E J tip].toArray 67 (0,0))):=(by show _=_;rw[hY];exact aG _ _);have X4:=Zd (ZE aa X3);have lP:P.length=pn:=iP.1;obtain⟨CK,an,af⟩:=kh3 (Zgd ka kn kc K za ba pa zn zc bn bc pn pc N T P tip y Y (HE.later (Zf ak aa)) (HK.later (Zf ak aa)) (iN.later aa) (iT.later aa) (iP.later aa) s1 s2 s3 (by rw[<-lP];exact br.1) br.2 az) (Zf HG aa) hq;have fm:=aE _ _ c0;obtain⟨m0,m1,m2,ml⟩:=kc3 X3;clear hq ay br iN iT iP s1 s2 s3 az aa HQ hy lP
   go_upto_region 11 with fail
   rw[<-hY];clear hY c0 c1 c2 c3 fm m0 m1 m2 ml;obtain⟨m0,m1,m2,ml⟩:=kc3 X4;obtain⟨n0,n1,n2,n3,nl⟩:=kc4 Y0;go_wp2_with fail;refine CK.mono ?_;rintro e w3 ⟨rfl,ax⟩;have am:=Zd (Zf an ax);clear ax CK m0 m1 m2 ml n0 n1 n2 n3 nl X4 Y0 an;by_cases ae:y=0
   ·subst ae;have ca:Hid (W9 K (L.drop (j+1))=W9 K L):=(by have q:=Za af;rw[if_neg (λr=>r rfl)] at q;exact q);clear af;go_wp2;go_roundw
    case rel=>exact⟨j+1,by omega,by go_num,ca,am⟩
    case measure=>simp[intOf];omega
   ·have gy:(y != 0)=true:=by simp[ae]
    obtain rfl:y=x:=by
     have q:=Za af;rw[if_pos ae] at q;have r:=Za cb;rw[<-q,if_pos ae] at r;exact r
    have bv:=Zd (Zf bf am);go_wp2;go_ret;exact⟨rfl,Za bv⟩
  ·have ey:j=nn:=by omega
   have dr:Hid (Js nn M=x):=by
    have q:=Za HQ;rw[bU (by rw[Za dn];omega)] at q;have r:=Za cb;rw[<-q,if_neg (λr=>r rfl)] at r;exact r
   clear HQ cb bo;subst ey;obtain⟨m0,m1,m2,ml⟩:=kc3 X3;obtain⟨V0,dz⟩:∃ V,V=wr:=⟨_,rfl⟩;go_wp2_with fail
   go_loopw [43] (λi W=>∃ i2:Nat,i2<=mn/\i = E J i2/\Hid (Js j (M.drop i2)=x)/\Hid (ZD V0 W)) (λi _=>mn - (intOf i).toNat)
   case atStart=>exact⟨0,aI _,rfl,by show _=_;rw[List.drop_zero];exact Za dr,by rw[dz];exact Below.refl _ _⟩
   case round=>
    obtain⟨i,hi,rfl,HQ,bz⟩:=hrel;clear m0 m1 m2 ml dr;subst dz;obtain⟨X5,dk⟩:=kh2 (ZE bz X3) (Zf ak bz);by_cases bo:i<mn
    ·have ec:i<M.length:=(by rw[Za dm];exact bo);have fi:(i:Int)<(mn:Int):=(by omega);have hq:=(Zkh ec).symm.trans HQ;obtain⟨gb,go,rfl,_,ay⟩:=(HM.later dk).2 (by omega);have aw:=ay i ec;obtain⟨⟨kd,fr,tq,nm,⟨bp,bh,bk,bn,Lb⟩,⟨th,I,O⟩⟩,hy⟩:=ZF (M[i]);rw[hy] at aw hq;obtain⟨c0,c1,c2,c3,⟨c4,c5,c6,c7,ba,bm,bc,c8,iL,sL⟩,c9,⟨ai,ni,ci,cd,iI,sI⟩,ao,no,co,ce,iO,sO⟩:=aw;simp only at c0 c1 c2 c3 c4 c5 c6 c7 c9 iL iI iO;have c5:wr.cell? ⟨gb,go+i*12+5,none⟩=some (E J bh):=c5;have c6:wr.cell? ⟨gb,go+i*12+6,none⟩=some (E J bk):=c6;have c7:wr.cell? ⟨gb,go+i*12+7,none⟩=some (E J bn):=c7;have c8:wr.cell? ⟨gb,go+i*12+8,none⟩=some (F ba bm bc):=c8;have cd:wr.cell? ⟨gb,go+i*12+10,none⟩=some (F ai ni ci):=cd;have ce:wr.cell? ⟨gb,go+i*12+11,none⟩=some (F ao no co):=ce;obtain⟨y,cp⟩:=ZF (Aa (kd,fr,tq,nm,(bp,bh,bk,bn,Lb),(th,I,O)) (j:Int));rw[cp] at hq;obtain⟨Y,hY⟩:=ZG (wr.alloc (dE #[E J kd,E J fr,E J tq,E J nm,E J bp,E J bh,E J bk,E J bn,F ba bm bc,E J th,F ai ni ci,F ao no co] 106));have aa:ZD wr Y:=(by rw[hY];exact Zh _ _);have Y0:Hid (Y.heap[wr.heap.size]? = some (dE [E J kd,E J fr,E J tq,E J nm,E J bp,E J bh,E J bk,E J bn,F ba bm bc,E J th,F ai ni ci,F ao no co].toArray 106 (0,0))):=by show _=_;rw[hY];exact aG _ _
     obtain⟨X6,CK,an,af⟩:=kh4 (ZE aa X5) (Zhp kd fr tq nm bp bh bk bn ba bm bc Lb th ai ao ni ci no co I O j y Y (iL.later aa) (iI.later aa) (iO.later aa) sI cp) (Zf bz aa) hq;have fm:=aE _ _ c0;obtain⟨m0,m1,m2,ml⟩:=kc3 X5;clear hq ay iL sL iI sI iO sO cp aa HQ hy
     go_upto_region 18 with fail
     rw[<-hY];clear hY c0 c1 c2 c3 c4 c5 c6 c7 c8 c9 cd ce fm m0 m1 m2 ml;obtain⟨m0,m1,m2,ml⟩:=kc3 X6;obtain⟨n0,n1,n2,n3,n4,n5,n6,n7,n8,n9,ez,fa,nl⟩:=kc12 Y0;go_wp2_with fail;refine CK.mono ?_;rintro e w3 ⟨rfl,ax⟩;have am:=Zd (Zf an ax);clear ax CK m0 m1 m2 ml n0 n1 n2 n3 n4 n5 n6 n7 n8 n9 ez fa nl X6 Y0 an;by_cases ae:y=0
     ·subst ae;have ca:Hid (Js j (M.drop (i+1))=x):=(by have q:=Za af;rw[if_neg (λr=>r rfl)] at q;exact q);clear af;go_wp2;go_roundw
      case rel=>exact⟨i+1,by omega,by go_num,ca,am⟩
      case measure=>simp[intOf];omega
     ·have gy:(y != 0)=true:=(by simp[ae]);obtain rfl:y=x:=(by have q:=Za af;rw[if_pos ae] at q;exact q);have bv:=Zd (Zf ak am);go_wp2;go_ret;exact⟨rfl,Za bv⟩
    ·have ev:i=mn:=by omega
     obtain rfl:(0:Int)=x:=by
      have q:=Za HQ;rw[bU (by rw[Za dm];omega)] at q;exact q
     subst ev;go_wp2;go_ret;exact⟨rfl,Za dk⟩
structure WD where
 k:List ByteArray
 n:List Ye
 m:List Tq
structure WOn(Z:Nat->Prop)(w:World)(ka:Option Addr)(kn kc:Nat)(vn vm:Value)(W:WD)(Kn Km:List (List Value)):Prop where
 rn:w.ownsRow 0 67 4 vn W.n.length Kn.flatten
 rm:w.ownsRow 0 106 12 vm W.m.length Km.flatten
 dat:∀ V,Gr w V (λq=>Z q\/vn.ownBlock=some q\/vm.ownBlock=some q)->Bk.TextsAt V ka kn W.k/\Tr.AllC Tr.nodR V Kn W.n/\Tr.AllC Tr.msgR V Km W.m
 sk:SlOk ka kn kc
section
variable {Z : Nat -> Prop} {w w' : World} {ka : Option Addr} {kn kc : Nat} {vn vm : Value} {W : WD} {Kn Km : List (List Value)}
theorem WOn.now(h:WOn Z w ka kn kc vn vm W Kn Km):Bk.TextsAt w ka kn W.k/\Tr.AllC Tr.nodR w Kn W.n/\Tr.AllC Tr.msgR w Km W.m:=h.dat w (Gr.refl _ _)
theorem WOn.later(h:WOn Z w ka kn kc vn vm W Kn Km)(hb:ZD w w'):WOn Z w' ka kn kc vn vm W Kn Km:=
 ⟨(Gr.of (S:=λ_=>False) hb).own h.rn (λ_ _ q=>q),(Gr.of (S:=λ_=>False) hb).own h.rm (λ_ _ q=>q),λV g=>h.dat V ((Gr.of hb).trans g),h.sk⟩
theorem WOn.read(h:WOn Z w ka kn kc vn vm W Kn Km):∃ na nc ma mc,vn = F na W.n.length nc/\vm = F ma W.m.length mc/\NodsAt w na W.n.length W.n/\MsgsAt w ma W.m.length W.m/\SlOk na W.n.length nc/\SlOk ma W.m.length mc:=by
 obtain⟨_,h1,h2⟩:=h.now;obtain⟨na,nc,rfl,r1,s1⟩:=Tr.rows_of_own Tr.nodR h.rn h1 rfl;obtain⟨ma,mc,rfl,r2,s2⟩:=Tr.rows_of_own Tr.msgR h.rm h2 rfl;exact⟨na,nc,ma,mc,rfl,rfl,r1,r2,s1,s2⟩
end
theorem Y1{w:World}{B:Nat}{e t:TypeId}{sz n s:Nat}{v:Value}{xs X}(h:w.ownsRow B e sz v n xs)(hs:w.heap[s]? = some (dE X t (0,0)))(hn:e≠t)(q:Nat)(hq:v.ownBlock=some q):q≠s:=by
 rintro rfl;obtain⟨c,f,h1⟩:=Lib.ownsRow_kind h q hq;rw[hs] at h1;injection h1 with h1;injection h1 with _ h1;exact hn h1.symm
structure ScAt(Z:Nat->Prop)(s:Nat)(W:WD)(w:World)(ka:Option Addr)(kn kc:Nat)(vn vm:Value)(Kn Km:List (List Value)):Prop where
 box:w.heap[s]? = some (dE [F ka kn kc,vn,vm].toArray 287 (0,0))
 zs:∀ q,Z q->q<w.heap.size/\q≠s/\vn.ownBlock≠some q/\vm.ownBlock≠some q
 on:WOn (λq=>Z q\/q=s) w ka kn kc vn vm W Kn Km
def Sc(Z:Nat->Prop)(s:Nat)(W:WD)(w:World):Prop:=∃ ka kn kc vn vm Kn Km,ScAt Z s W w ka kn kc vn vm Kn Km
section
variable {Z : Nat -> Prop} {s : Nat} {W : WD} {w w' : World} {ka : Option Addr} {kn kc : Nat} {vn vm : Value} {Kn Km : List (List Value)}
theorem ScAt.later(h:ScAt Z s W w ka kn kc vn vm Kn Km)(hb:ZD w w'):ScAt Z s W w' ka kn kc vn vm Kn Km:=
 ⟨ZE hb h.box,λq e=>⟨aD (h.zs q e).1 hb.size,(h.zs q e).2⟩,h.on.later hb⟩
theorem Sc.later(h:Sc Z s W w)(hb:ZD w w'):Sc Z s W w':=by
 obtain⟨ka,kn,kc,vn,vm,Kn,Km,h⟩:=h;exact⟨ka,kn,kc,vn,vm,Kn,Km,h.later hb⟩
theorem Sc.lt(h:Sc Z s W w):s<w.heap.size:=by
 obtain⟨ka,kn,kc,vn,vm,Kn,Km,h⟩:=h;exact aA h.box
theorem Sc.nz(h:Sc Z s W w):¬Z s:=by
 obtain⟨ka,kn,kc,vn,vm,Kn,Km,h⟩:=h;exact λe=>(h.zs s e).2.1 rfl
theorem Sc.write(h:Sc Z s W w)(g:Gr w w' Z):Sc Z s W w':=by
 obtain⟨ka,kn,kc,vn,vm,Kn,Km,h⟩:=h;refine⟨ka,kn,kc,vn,vm,Kn,Km,g.heap h.box (λe=>(h.zs s e).2.1 rfl),λq e=>⟨aD (h.zs q e).1 g.size,(h.zs q e).2⟩,g.own h.on.rn (λq hq e=>(h.zs q e).2.2.1 hq),g.own h.on.rm (λq hq e=>(h.zs q e).2.2.2 hq),λV gV=>h.on.dat V ((g.mono (λq _ e=>.inl (.inl e))).trans gV),h.on.sk⟩
theorem Sc.widen(h:Sc Z s W w)(hb:ZD w w')(r:Nat)(hr:w.heap.size<=r)(ad:r<w'.heap.size):Sc (λq=>Z q\/q=r) s W w':=by
 obtain⟨ka,kn,kc,vn,vm,Kn,Km,h⟩:=h;have h2:=h.later hb;refine⟨ka,kn,kc,vn,vm,Kn,Km,h2.box,λq e=>?_,h2.on.rn,h2.on.rm,λV gV=>h.on.dat V ((Gr.of hb).far gV (λq e=>?_)),h.on.sk⟩
 ·rcases e with e|e
  ·exact h2.zs q e
  ·subst e;exact⟨ad,λe=>by have:=aA h.box;omega,λe=>by have:=(h.on.rn.lt q e).2;omega,λe=>by have:=(h.on.rm.lt q e).2;omega⟩
 ·rcases e with ((e|e)|e)|e
  ·exact .inr (.inl (.inl e))
  ·exact .inl (e ▸ hr)
  ·exact .inr (.inl (.inr e))
  ·exact .inr (.inr e)
theorem Sc.less(h:Sc Z s W w){Z':Nat->Prop}(hz:∀ q,Z' q->Z q):Sc Z' s W w:=by
 obtain⟨ka,kn,kc,vn,vm,Kn,Km,h⟩:=h;exact⟨ka,kn,kc,vn,vm,Kn,Km,h.box,λq e=>h.zs q (hz q e),h.on.rn,h.on.rm,λV gV=>h.on.dat V (gV.mono (λq _ e=>e.elim (λe=>.inl (e.elim (λe=>.inl (hz q e)) .inr)) .inr)),h.on.sk⟩
end
structure ClW(w:World)(B G:Nat)(W:WD)(vk vn vm:Value)(Kn Km:List (List Value))(i j:Nat)(wr:World):Prop where
 k:wr.ownsRow B 9 1 vk W.k.length (W.k.map dB)
 n:Tr.Cl Tr.nodR 67 B G w wr vn W.n.length Kn W.n i
 m:Tr.Cl Tr.msgR 106 B G w wr vm W.m.length Km W.m j
 b0:wr.heap[w.heap.size]? = some (dE [vk,vn,vm].toArray 90 (0,0))
 b1:wr.heap[w.heap.size+1]? = some (dE [F none 0 0,F none 0 0,F none 0 0].toArray 90 (0,0))
 bel:ZD w wr
 hB:w.heap.size+2<=B
 g:G<=wr.heap.size
 kg:∀ q,vk.ownBlock=some q->q<G
section
variable {w wr w5 : World} {B G : Nat} {W : WD} {vk vn vm : Value} {Kn Km : List (List Value)} {i j g cap w0s : Nat} {cs : List Value}
theorem ClW.node(h:ClW w B G W vk (F (some ⟨g,0,none⟩) W.n.length cap) vm Kn Km i j wr)(hi:i<W.n.length)(hb:ZD wr w5)(hf:Fresh w0s w5 (λw2=>Tr.nodR.C w2 cs W.n[i]))(hG:G<=w0s) :
  ClW w B G W vk (F (some ⟨g,0,none⟩) W.n.length cap) vm (Kn.set i cs) Km (i+1) j (Tr.setsW w5 g (i*4) cs):=by
 have hg:Gr wr (Tr.setsW w5 g (i*4) cs) (λq=>q=g):=Tr.setsW_gr cs w5 _ (Gr.of hb) (.inl rfl);obtain⟨lo,_⟩:=h.n.own.lt g rfl;have:=h.hB;refine⟨hg.own h.k (λq hq e=>?_),h.n.put hi hb hf hG,h.m.gr hg (λq e=>?_) (λq hq e=>?_),hg.heap h.b0 (by show ¬_=g;omega),hg.heap h.b1 (by show ¬_=g;omega),hg.below h.bel h.bel.size (λq e=>?_),h.hB,aN h.g hg.size,h.kg⟩
 ·have e:q=g:=e;exact Tr.own_apart h.n.own h.k (by decide) q (by rw[e];rfl) hq
 ·have e:q=g:=e;exact e ▸ h.n.gt g rfl
 ·have e:q=g:=e;exact Tr.own_apart h.n.own h.m.own (by decide) q (by rw[e];rfl) hq
 ·have e:q=g:=e;omega
theorem ClW.msg(h:ClW w B G W vk vn (F (some ⟨g,0,none⟩) W.m.length cap) Kn Km i j wr)(hj:j<W.m.length)(hb:ZD wr w5)(hf:Fresh w0s w5 (λw2=>Tr.msgR.C w2 cs W.m[j]))(hG:G<=w0s) :
  ClW w B G W vk vn (F (some ⟨g,0,none⟩) W.m.length cap) Kn (Km.set j cs) i (j+1) (Tr.setsW w5 g (j*12) cs):=by
 have hg:Gr wr (Tr.setsW w5 g (j*12) cs) (λq=>q=g):=Tr.setsW_gr cs w5 _ (Gr.of hb) (.inl rfl);obtain⟨lo,_⟩:=h.m.own.lt g rfl;have:=h.hB;refine⟨hg.own h.k (λq hq e=>?_),h.n.gr hg (λq e=>?_) (λq hq e=>?_),h.m.put hj hb hf hG,hg.heap h.b0 (by show ¬_=g;omega),hg.heap h.b1 (by show ¬_=g;omega),hg.below h.bel h.bel.size (λq e=>?_),h.hB,aN h.g hg.size,h.kg⟩
 ·have e:q=g:=e;exact Tr.own_apart h.m.own h.k (by decide) q (by rw[e];rfl) hq
 ·have e:q=g:=e;exact e ▸ h.m.gt g rfl
 ·have e:q=g:=e;exact Tr.own_apart h.m.own h.n.own (by decide) q (by rw[e];rfl) hq
 ·have e:q=g:=e;omega
theorem ClW.on(h:ClW w B G W vk vn vm Kn Km W.n.length W.m.length wr)(ah:B<=G){V}(g:Gr wr V (λq=>q=w.heap.size+1)):∃ ka kc,vk = F ka W.k.length kc/\WOn (λq=>q<B) V ka W.k.length kc vn vm W Kn Km/\(∀ q,vn.ownBlock=some q->B<=q)/\∀ q,vm.ownBlock=some q->B<=q:=by
 obtain⟨ka,kc,rfl,s1,t1⟩:=Tr.strs_of_own h.k;have:=h.hB;refine⟨ka,kc,rfl,⟨Yo (g.own h.n.own (λq hq e=>?_)) (aI _),Yo (g.own h.m.own (λq hq e=>?_)) (aI _),λU gU=>?_,s1⟩,λq e=>(h.n.own.lt q e).1,λq e=>(h.m.own.lt q e).1⟩
 ·have e:q=w.heap.size+1:=e;have:=(h.n.own.lt q hq).1;omega
 ·have e:q=w.heap.size+1:=e;have:=(h.m.own.lt q hq).1;omega
 ·have g2:Gr wr U (λq=>q<B\/vn.ownBlock=some q\/vm.ownBlock=some q):=(g.mono (λq _ e=>.inl (by have e:q=w.heap.size+1:=e;omega))).trans gU
  have g3:Gr wr U (λq=>q<G):=g2.mono (λq _ e=>by
   rcases e with e|e|e
   ·omega
   ·exact h.n.gt q e
   ·exact h.m.gt q e)
  obtain⟨a',c',e',_,t2⟩:=Tr.strs_of_own (g2.own h.k (λq hq e=>by
   rcases e with e|e|e
   ·have:=(h.k.lt q hq).1;omega
   ·exact Tr.own_apart h.n.own h.k (by decide) q e hq
   ·exact Tr.own_apart h.m.own h.k (by decide) q e hq))
  cases e';exact⟨t2,h.n.done U g3,h.m.done U g3⟩
end
def ClmR(w w':World)(kd fr tq nm:Int)(b:Zk)(t:TxD)(bm ni no:Nat)(e:Ending):Prop:=
 ∃ a1 c1 a2 c2 a3 c3,e = dF (.agg #[E J kd,E J fr,E J tq,E J nm,E J b.1,E J b.2.1,E J b.2.2.1,E J b.2.2.2.1,F a1 bm c1,E J t.1,F a2 ni c2,F a3 no c3]) /\
  Fresh w.heap.size w' (λw2=>Tr.blkR.C w2 [E J b.1,E J b.2.1,E J b.2.2.1,E J b.2.2.2.1,F a1 bm c1] b/\Tr.txR.C w2 [E J t.1,F a2 ni c2,F a3 no c3] t)/\ZD w w'
theorem Es(kd fr tq nm bp fl bk bn:Int)(ba bm bc L)(th:Int)(ai ao ni ci no co I O w)(hL:TxsAt w ba bm L)(sL:SlOk ba bm bc)(hm:bm<=2513169434916)(hs:∀ t∈L,Tr.TxSmall t)(hI:InsAt w ai ni I)(hO:OutsAt w ao no O)(sI:SlOk ai ni ci)(sO:SlOk ao no co)(ht:Tr.TxSmall (th,I,O)) :
  Calls aB 227 #[.agg #[E J kd,E J fr,E J tq,E J nm,E J bp,E J fl,E J bk,E J bn,F ba bm bc,E J th,F ai ni ci,F ao no co]] w λe w'=>ClmR w w' kd fr tq nm (bp,fl,bk,bn,L) (th,I,O) bm ni no e:=by
 obtain⟨X,hX⟩:=ZG (Yv w [dE #[E J kd,E J fr,E J tq,E J nm,E J bp,E J fl,E J bk,E J bn,F ba bm bc,E J th,F ai ni ci,F ao no co] 106,dE #[E J 0,E J 0,E J 0,E J 0,E J 0,E J 0,E J 0,E J 0,F none 0 0,E J 0,F none 0 0,F none 0 0] 106]);have cx:X=(w.alloc (dE #[E J kd,E J fr,E J tq,E J nm,E J bp,E J fl,E J bk,E J bn,F ba bm bc,E J th,F ai ni ci,F ao no co] 106)).alloc (dE #[E J 0,E J 0,E J 0,E J 0,E J 0,E J 0,E J 0,E J 0,F none 0 0,E J 0,F none 0 0,F none 0 0] 106):=hX;have bt:ZD w X:=by rw[hX];exact Zs _ _
 have cy:X.heap.size=w.heap.size+2:=by rw[hX];exact Z0 _ _
 have x0:=kl0 hX _ _ rfl;have x1:=kl hX 1 _ _ rfl;have lI:I.length=ni:=hI.1;have lO:O.length=no:=hO.1;have C1:=Zd (Tr.clBlock_is bp fl bk bn ba bm bc L X.drew (hL.later (Zf bt (Zi X))) sL hm hs);have C2:=Zd (λV (hv:ZD w V)=>Tr.clTx_is th ai ao ni ci no co I O V (hI.later hv) (hO.later hv) sI sO (by rw[<-lI];exact ht.1) (by rw[<-lO];exact ht.2.1) ht.2.2.1 ht.2.2.2);obtain⟨bb,bo,dv,cf⟩:=kh4 bt cy x0 x1;have tl:=aA x0;have KS:Hid (∀ U:World,X.heap.size<=U.heap.size->w.heap.size<U.heap.size):=λU hu=>aD tl hu;have KC:Hid (∀ U:World,ZD X U->U.heap[w.heap.size]? = some (dE [E J kd,E J fr,E J tq,E J nm,E J bp,E J fl,E J bk,E J bn,F ba bm bc,E J th,F ai ni ci,F ao no co].toArray 106 (0,0))):=λU hu=>ZE hu x0;clear hL sL hm hs hI hO sI sO ht lI lO bt cy x0 x1 hX tl;go_enter func227,ntmps227
 go_upto_region 1 with fail
 rw[<-cx];clear cx
 go_cut [] from 3 to 10 (λwx=>Hid (∃ a1 c1 a2 c2 a3 c3,wx.heap[w.heap.size]? = some (dE [E J kd,E J fr,E J tq,E J nm,E J bp,E J fl,E J bk,E J bn,F a1 bm c1,E J th,F a2 ni c2,F a3 no c3].toArray 106 (0,0))/\Fresh X.heap.size wx (λw2=>Tr.blkR.C w2 [E J bp,E J fl,E J bk,E J bn,F a1 bm c1] (bp,fl,bk,bn,L)/\Tr.txR.C w2 [E J th,F a2 ni c2,F a3 no c3] (th,I,O))/\Gr X wx (λq=>q=w.heap.size)))
 case first=>
  refine wp_region_held_drew (S:=λU=>w.heap.size<U.heap.size) (by kernel_rfl) (KS _ (aF _)) (λaa=>?_);refine tkL 0 rfl aa ?_;refine tkL 3 rfl aa ?_;have hb:=Zi X;refine cM (rs:=[1,4]) (by kernel_rfl) (by simp) ?_;refine rdC rfl (λKQ hK=>?_) (rdC rfl (λKQ hK=>?_) AllReadyH.nil)
  ·have hl:=KC X.drew hb;obtain⟨-,-,-,-,l4,l5,l6,l7,l8,ll⟩:=kc9 hl;go_simp;clear hl ll l4 l5 l6 l7 l8;clear aa;refine hK.out _ _ (KS _ hb.size) (λaa=>?_);clear hK KQ;(try simp only[aQ,ZA,ZB,ZC]);refine cM (rs:=[2,4]) (by kernel_rfl) (by simp) ?_;refine rdC rfl (λKQ hK=>?_) (rdC rfl (λKQ hK=>?_) AllReadyH.nil)
   ·refine Zm (by kernel_rfl) 71 #[.agg #[E J bp,E J fl,E J bk,E J bn,F ba bm bc]] (by kernel_rfl) C1 ?_;rintro e w5 ⟨a1,c1,rfl,bd,bf⟩;refine⟨_,rfl,?_⟩;have hb:=Zf (Zi X) bf;clear aa;refine hK.out _ _ (KS _ hb.size) (λaa=>?_);clear hK KQ;(try simp only[aQ,ZA,ZB,ZC]);refine rdY 4 rfl (λKQ hK=>?_);have hl:=KC w5 hb;obtain⟨-,-,-,-,-,-,-,-,-,l9,bh,bi,ll⟩:=kc12 hl;go_simp;clear hl ll l9 bh bi;clear aa;refine hK.out _ _ (KS _ hb.size) (λaa=>?_);clear hK KQ;refine tkL 6 rfl aa ?_;refine rdS 5 rfl (C2 w5 (Zf bb hb)) ?_;rintro e w6 ⟨a2,c2,a3,c3,rfl,be,ay⟩;have ae:=Zf hb ay;clear aa;refine⟨_,rfl,(KS _ ae.size),λaa=>?_⟩;(try simp only[aQ,ZA,ZB,ZC]);have hz:=KC _ ae;obtain⟨-,-,-,-,y4,y5,y6,y7,y8,y9,dk,dl,-,-,-,-,g4,g5,g6,g7,g8,g9,cg,cj,yl⟩:=kf12 hz;refine rdY 7 rfl (λKQ hK=>?_);go_simp;clear aa;refine hK.out _ _ (KS _ (by simpa[cT] using ae.size)) (λaa=>?_);clear hK KQ;(try simp only[aQ]);refine tkL 8 rfl aa ?_;refine rdY 9 rfl (λKQ hK=>?_);go_simp;clear aa;refine hK.out _ _ (KS _ (by simpa[cT] using ae.size)) (λaa=>?_);clear hK KQ;(try simp only[aQ]);refine wpAnyH_done (by kernel_rfl) ?_ _;clear aa;go_wp2_with fail;go_meet
    case rel=>
     have gg:Gr w6 ((((((((w6.setCell ⟨w.heap.size,4,none⟩ (E J bp)).setCell ⟨w.heap.size,5,none⟩ (E J fl)).setCell ⟨w.heap.size,6,none⟩ (E J bk)).setCell ⟨w.heap.size,7,none⟩ (E J bn)).setCell ⟨w.heap.size,8,none⟩ (F a1 bm c1)).setCell ⟨w.heap.size,9,none⟩ (E J th)).setCell ⟨w.heap.size,10,none⟩ (F a2 ni c2)).setCell ⟨w.heap.size,11,none⟩ (F a3 no c3)) (λq=>q=w.heap.size):=((((((((Gr.refl w6 (λq=>q=w.heap.size)).one w.heap.size 4 (.inl rfl) _).one w.heap.size 5 (.inl rfl) _).one w.heap.size 6 (.inl rfl) _).one w.heap.size 7 (.inl rfl) _).one w.heap.size 8 (.inl rfl) _).one w.heap.size 9 (.inl rfl) _).one w.heap.size 10 (.inl rfl) _).one w.heap.size 11 (.inl rfl) _;have bz:=Za bo;have cu:=hb.size;have dc:X.drew.heap.size=X.heap.size:=rfl;refine⟨a1,c1,a2,c2,a3,c3,(Tr.set_cells (Tr.set_cells (Tr.set_cells (Tr.set_cells (Tr.set_cells (Tr.set_cells (Tr.set_cells (Tr.set_cells hz 4 _) 5 _) 6 _) 7 _) 8 _) 9 _) 10 _) 11 _),λW2 g2=>⟨bd W2 ?_,be W2 ?_⟩,(Gr.of ae).trans gg⟩
     ·exact (Gr.of ay).trans ((gg.mono (λq _ e=>by have e:q=w.heap.size:=e;omega)).trans (g2.mono (λq _ e=>by omega)))
     ·exact (gg.mono (λq _ e=>by have e:q=w.heap.size:=e;omega)).trans (g2.mono (λq _ e=>by omega))
   ·have hl:=KC X.drew hb;obtain⟨-,-,-,-,-,-,-,-,-,l9,bh,bi,ll⟩:=kc12 hl;go_simp;clear hl ll l9 bh bi;clear aa;refine hK.out _ _ (KS _ hb.size) (λaa=>?_);clear hK KQ;(try simp only[aQ,ZA,ZB,ZC]);refine rdS 2 rfl C1 ?_;rintro e w5 ⟨a1,c1,rfl,bd,bf⟩;have hb:=Zf (Zi X) bf;clear aa;refine⟨_,rfl,(KS _ hb.size),λaa=>?_⟩;refine tkL 6 rfl aa ?_;refine rdS 5 rfl (C2 w5 (Zf bb hb)) ?_;rintro e w6 ⟨a2,c2,a3,c3,rfl,be,ay⟩;have ae:=Zf hb ay;clear aa;refine⟨_,rfl,(KS _ ae.size),λaa=>?_⟩;(try simp only[aQ,ZA,ZB,ZC]);have hz:=KC _ ae;obtain⟨-,-,-,-,y4,y5,y6,y7,y8,y9,dk,dl,-,-,-,-,g4,g5,g6,g7,g8,g9,cg,cj,yl⟩:=kf12 hz;refine rdY 7 rfl (λKQ hK=>?_);go_simp;clear aa;refine hK.out _ _ (KS _ (by simpa[cT] using ae.size)) (λaa=>?_);clear hK KQ;(try simp only[aQ]);refine tkL 8 rfl aa ?_;refine rdY 9 rfl (λKQ hK=>?_);go_simp;clear aa;refine hK.out _ _ (KS _ (by simpa[cT] using ae.size)) (λaa=>?_);clear hK KQ;(try simp only[aQ]);refine wpAnyH_done (by kernel_rfl) ?_ _;clear aa;go_wp2_with fail;go_meet
    case rel=>
     have gg:Gr w6 ((((((((w6.setCell ⟨w.heap.size,4,none⟩ (E J bp)).setCell ⟨w.heap.size,5,none⟩ (E J fl)).setCell ⟨w.heap.size,6,none⟩ (E J bk)).setCell ⟨w.heap.size,7,none⟩ (E J bn)).setCell ⟨w.heap.size,8,none⟩ (F a1 bm c1)).setCell ⟨w.heap.size,9,none⟩ (E J th)).setCell ⟨w.heap.size,10,none⟩ (F a2 ni c2)).setCell ⟨w.heap.size,11,none⟩ (F a3 no c3)) (λq=>q=w.heap.size):=((((((((Gr.refl w6 (λq=>q=w.heap.size)).one w.heap.size 4 (.inl rfl) _).one w.heap.size 5 (.inl rfl) _).one w.heap.size 6 (.inl rfl) _).one w.heap.size 7 (.inl rfl) _).one w.heap.size 8 (.inl rfl) _).one w.heap.size 9 (.inl rfl) _).one w.heap.size 10 (.inl rfl) _).one w.heap.size 11 (.inl rfl) _;have bz:=Za bo;have cu:=hb.size;have dc:X.drew.heap.size=X.heap.size:=rfl;refine⟨a1,c1,a2,c2,a3,c3,(Tr.set_cells (Tr.set_cells (Tr.set_cells (Tr.set_cells (Tr.set_cells (Tr.set_cells (Tr.set_cells (Tr.set_cells hz 4 _) 5 _) 6 _) 7 _) 8 _) 9 _) 10 _) 11 _),λW2 g2=>⟨bd W2 ?_,be W2 ?_⟩,(Gr.of ae).trans gg⟩
     ·exact (Gr.of ay).trans ((gg.mono (λq _ e=>by have e:q=w.heap.size:=e;omega)).trans (g2.mono (λq _ e=>by omega)))
     ·exact (gg.mono (λq _ e=>by have e:q=w.heap.size:=e;omega)).trans (g2.mono (λq _ e=>by omega))
  ·have hl:=KC X.drew hb;obtain⟨-,-,-,-,-,-,-,-,-,l9,bh,bi,ll⟩:=kc12 hl;go_simp;clear hl ll l9 bh bi;clear aa;refine hK.out _ _ (KS _ hb.size) (λaa=>?_);clear hK KQ;(try simp only[aQ,ZA,ZB,ZC]);refine rdY 1 rfl (λKQ hK=>?_);have hl:=KC X.drew hb;obtain⟨-,-,-,-,l4,l5,l6,l7,l8,ll⟩:=kc9 hl;go_simp;clear hl ll l4 l5 l6 l7 l8;clear aa;refine hK.out _ _ (KS _ hb.size) (λaa=>?_);clear hK KQ;(try simp only[aQ,ZA,ZB,ZC]);refine rdS 2 rfl C1 ?_;rintro e w5 ⟨a1,c1,rfl,bd,bf⟩;have hb:=Zf (Zi X) bf;clear aa;refine⟨_,rfl,(KS _ hb.size),λaa=>?_⟩;refine tkL 6 rfl aa ?_;refine rdS 5 rfl (C2 w5 (Zf bb hb)) ?_;rintro e w6 ⟨a2,c2,a3,c3,rfl,be,ay⟩;have ae:=Zf hb ay;clear aa;refine⟨_,rfl,(KS _ ae.size),λaa=>?_⟩;(try simp only[aQ,ZA,ZB,ZC]);have hz:=KC _ ae;obtain⟨-,-,-,-,y4,y5,y6,y7,y8,y9,dk,dl,-,-,-,-,g4,g5,g6,g7,g8,g9,cg,cj,yl⟩:=kf12 hz;refine rdY 7 rfl (λKQ hK=>?_);go_simp;clear aa;refine hK.out _ _ (KS _ (by simpa[cT] using ae.size)) (λaa=>?_);clear hK KQ;(try simp only[aQ]);refine tkL 8 rfl aa ?_;refine rdY 9 rfl (λKQ hK=>?_);go_simp;clear aa;refine hK.out _ _ (KS _ (by simpa[cT] using ae.size)) (λaa=>?_);clear hK KQ;(try simp only[aQ]);refine wpAnyH_done (by kernel_rfl) ?_ _;clear aa;go_wp2_with fail;go_meet
   case rel=>
    have gg:Gr w6 ((((((((w6.setCell ⟨w.heap.size,4,none⟩ (E J bp)).setCell ⟨w.heap.size,5,none⟩ (E J fl)).setCell ⟨w.heap.size,6,none⟩ (E J bk)).setCell ⟨w.heap.size,7,none⟩ (E J bn)).setCell ⟨w.heap.size,8,none⟩ (F a1 bm c1)).setCell ⟨w.heap.size,9,none⟩ (E J th)).setCell ⟨w.heap.size,10,none⟩ (F a2 ni c2)).setCell ⟨w.heap.size,11,none⟩ (F a3 no c3)) (λq=>q=w.heap.size):=((((((((Gr.refl w6 (λq=>q=w.heap.size)).one w.heap.size 4 (.inl rfl) _).one w.heap.size 5 (.inl rfl) _).one w.heap.size 6 (.inl rfl) _).one w.heap.size 7 (.inl rfl) _).one w.heap.size 8 (.inl rfl) _).one w.heap.size 9 (.inl rfl) _).one w.heap.size 10 (.inl rfl) _).one w.heap.size 11 (.inl rfl) _;have bz:=Za bo;have cu:=hb.size;have dc:X.drew.heap.size=X.heap.size:=rfl;refine⟨a1,c1,a2,c2,a3,c3,(Tr.set_cells (Tr.set_cells (Tr.set_cells (Tr.set_cells (Tr.set_cells (Tr.set_cells (Tr.set_cells (Tr.set_cells hz 4 _) 5 _) 6 _) 7 _) 8 _) 9 _) 10 _) 11 _),λW2 g2=>⟨bd W2 ?_,be W2 ?_⟩,(Gr.of ae).trans gg⟩
    ·exact (Gr.of ay).trans ((gg.mono (λq _ e=>by have e:q=w.heap.size:=e;omega)).trans (g2.mono (λq _ e=>by omega)))
    ·exact (gg.mono (λq _ e=>by have e:q=w.heap.size:=e;omega)).trans (g2.mono (λq _ e=>by omega))
 case rest=>
  obtain⟨a1,c1,a2,c2,a3,c3,hb,hF,hg⟩:=Za hcut;obtain⟨e0,e1,e2,e3,e4,e5,e6,e7,e8,e9,dy,dz,fm⟩:=kc12 hb;have hz:=(hg.block _ (aA cf) (λe=>by have e:w.heap.size+1=w.heap.size:=e;omega)).trans cf;obtain⟨z0,z1,z2,z3,z4,z5,z6,z7,z8,z9,fa,fb,f0,f1,f2,f3,f4,f5,f6,f7,f8,f9,el,en,zl⟩:=kf12 hz;have bu:ZD w wc:=hg.below bb bb.size (λq e=>by have e:q=w.heap.size:=e;omega)
  have du:Hid (∀ W,Gr wc W (λq=>q=w.heap.size+1)->ClmR w W kd fr tq nm (bp,fl,bk,bn,L) (th,I,O) bm ni no (dF (.agg #[E J kd,E J fr,E J tq,E J nm,E J bp,E J fl,E J bk,E J bn,F a1 bm c1,E J th,F a2 ni c2,F a3 no c3]))):=λW g=>by
   have bz:=Za bo;refine⟨a1,c1,a2,c2,a3,c3,rfl,λW2 g2=>hF W2 ((g.mono (λq _ e=>by have e:q=w.heap.size+1:=e;omega)).trans (g2.mono (λq _ e=>by omega))),g.below bu bu.size (λq e=>by have e:q=w.heap.size+1:=e;omega)⟩
  clear hcut hb hF hg hz bu KS KC C1 C2;go_wp2;(try simp only[Exit.inBlock,Exit.then]);refine bodyPost_ret (v:=.agg #[E J kd,E J fr,E J tq,E J nm,E J bp,E J fl,E J bk,E J bn,F a1 bm c1,E J th,F a2 ni c2,F a3 no c3]) ?_ rfl ?_
  ·rw[Qp rfl];go_simp
  ·exact du _ (((((((((((((Gr.refl wc (λq=>q=w.heap.size+1)).one (w.heap.size+1) 0 (.inl rfl) _).one (w.heap.size+1) 1 (.inl rfl) _).one (w.heap.size+1) 2 (.inl rfl) _).one (w.heap.size+1) 3 (.inl rfl) _).one (w.heap.size+1) 4 (.inl rfl) _).one (w.heap.size+1) 5 (.inl rfl) _).one (w.heap.size+1) 6 (.inl rfl) _).one (w.heap.size+1) 7 (.inl rfl) _).one (w.heap.size+1) 8 (.inl rfl) _).one (w.heap.size+1) 9 (.inl rfl) _).one (w.heap.size+1) 10 (.inl rfl) _).one (w.heap.size+1) 11 (.inl rfl) _)
def Zad(x:Ye):Prop:=x.1.length=x.2.1.length/\x.1.length<=4096/\(∀ t∈x.2.1,Tr.BlkSmall t)/\Qo x
def J3(x:Tq):Prop:=Tr.BlkSmall x.2.2.2.2.1/\Tr.TxSmall x.2.2.2.2.2
theorem Zdw{w}{k f t n:Int}{b:Zk}{x:TxD}{a1 a2 a3 n1 c1 n2 c2 n3 c3}(h1:Tr.blkR.C w [E J b.1,E J b.2.1,E J b.2.2.1,E J b.2.2.2.1,F a1 n1 c1] b)(h2:Tr.txR.C w [E J x.1,F a2 n2 c2,F a3 n3 c3] x) :
  Tr.msgR.C w [E J k,E J f,E J t,E J n,E J b.1,E J b.2.1,E J b.2.2.1,E J b.2.2.2.1,F a1 n1 c1,E J x.1,F a2 n2 c2,F a3 n3 c3] (k,f,t,n,b,x):=by
 obtain⟨_,_,_,e,k1,k2⟩:=h1;obtain⟨_,_,_,_,_,_,e2,k3,k4,k5,k6⟩:=h2;cases e;cases e2;exact⟨_,_,_,_,_,_,_,_,_,rfl,k1,k2,k3,k4,k5,k6⟩
