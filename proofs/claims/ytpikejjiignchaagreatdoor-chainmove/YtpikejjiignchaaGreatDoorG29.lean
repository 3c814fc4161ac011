import Derived.Test.YtpikejjiignchaaGreatDoorH
import Derived.Test.YtpikejjiignchaaGreatDoorG28
import Derived.OrdersIn
import Derived.OwnWalkIn
import Derived.RangeFuncBound
import Derived.RangeFuncNested
open Go.Proofs.Tryz
open Go renaming lt_of_block->aA,heap_alloc_new->aK,undef->dP
open Go.Act renaming put->aH
open Go.Ending renaming returned->dX
open Go.IntKind renaming i64->J
open Go.Obj renaming cells->dW
open Go.Value renaming int->E,slice->F,tuple->dY,pointer->dZ,bool->eA
open Go.World renaming block_lt_of_cell?->aC
open List renaming drop_eq_getElem_cons->aN,length_map->dF,length_append->bB,map_append->bW,mem_append->cI
open Nat renaming zero_le->aP,le_refl->aE
open Prod.mk renaming inj->aX
set_option maxHeartbeats 12800000
set_option maxRecDepth 10000
namespace Go.Proofs.YtpikejjiignchaaGreatDoor
open Go.RowKit
theorem F8{I:List InD}{S:List Zf}{k:Nat}(h1:k<I.length)(h2:k<S.length){L}(h:pt S[k]≠(I[k].1,I[k].2.1)\/Xp (pt S[k]) L=true):Yy (I.drop k) (S.drop k) L=(6,[]):=by
 rw[aN h1,aN h2,Yy,if_pos h]
theorem F7{I:List InD}{S:List Zf}{k:Nat}(h1:k<I.length)(h2:k<S.length){L}(h:¬(pt S[k]≠(I[k].1,I[k].2.1)\/Xp (pt S[k]) L=true)):Yy (I.drop k) (S.drop k) L=Yy (I.drop (k+1)) (S.drop (k+1)) (Uj S[k] L):=by
 rw[aN h1,aN h2,Yy,if_neg h]
theorem M6{I:List InD}{S:List Zf}{k:Nat}(h1:I.length<=k)(L):Yy (I.drop k) (S.drop k) L=(0,L):=by
 rw[List.drop_of_length_le h1];cases S.drop k <;> rfl
theorem Zdi(w0 w:World)(p:Nat)(v)(K:List CV)(ep)(ni ci:Nat)(I sa cs S)(x:Int)(M)(hP:Pu w0 w p v K)(hs:Srt (K.map (·.1)))(hn:K.length+ni<=4096)(hI:InsAt w0 ep ni I)(hS:CoinsAt w0 sa ni S)(ef:ni<=6)(hx:Yy I S (K.map (·.1))=(x,M)) :
  Calls Tryz.prog 163 #[dZ (some ⟨p,0,none⟩),F ep ni ci,F sa ni cs] w λe w'=>e = dX (E J x)/\ZD w0 w'/\(x=0->Znl w0 w w' p v (K.length+ni) M):=by
 have eg:p<w.heap.size:=hP.lt;have HP:=Zb hP;have da:=Zb hs;have HI:=Zb hI;have db:=Zb hS;have cg:=Zb hI.1;have dc:=Zb hS.1;have HX:=Zb hx;clear hP hs hI hS hx;go_enter func163,ntmps163;go_wp2
 go_loopw [11] (λi wr=>∃ (k:Nat) (O:List CV) (v':Value),k<=ni/\i = E J k/\Hid (Yy I S (K.map (·.1))=Yy (I.drop k) (S.drop k) (O.map (·.1)))/\Hid (Srt (O.map (·.1)))/\O.length<=K.length+k/\Hid (Pu w0 wr p v' O)/\Hid (Gr w wr (PuS p v))/\Hid (v'.ownBlock=v.ownBlock\/∀ k,v'.ownBlock=some k->w.heap.size<=k)) (λi _=>ni - (intOf i).toNat)
 case atStart=>exact⟨0,K,v,aP _,rfl,rfl,da,aE _,HP,Gr.refl _ _,Or.inl rfl⟩
 case round=>
  obtain⟨k,O,v',hk,rfl,A,bf,dh,be,HG,HV⟩:=hrel;by_cases co:k<ni
  ·have ca:k<I.length:=(by rw[Za cg];exact co);have cb:k<S.length:=(by rw[Za dc];exact co);obtain⟨b,off,rfl,_,dj⟩:=HI.2 (by omega);obtain⟨b2,eo,rfl,_,dl⟩:=db.2 (by omega);have cm:=dj k ca;have cn:=dl k cb;have E1:=Zb (F8 ca cb (L:=O.map (·.1)));have E2:=Zb (F7 ca cb (L:=O.map (·.1)));obtain⟨y,hy⟩:=ZF (I[k]);obtain⟨z,hz⟩:=ZF (S[k]);rw[hy] at cm E1 E2;rw[hz] at cn E1 E2;obtain⟨y1,y2,el⟩:=y;obtain⟨al,am,ka,kn,kc,_,_,_⟩:=cm;obtain⟨la,ln,lc,ax,ay,az,ba,bb,bc,ao,ar⟩:=cn.val;have bl:=be.bel;have g1:=Zc bl al;have g2:=Zc bl am;have m0:=Zc bl ax;have m1:=Zc bl ay;have m2:=Zc bl az;have m3:=Zc bl ba;have m4:=Zc bl bb;have m5:=Zc bl bc;simp only at g1 g2;obtain⟨X,hX⟩:=ZG (wr.alloc (dW #[E J z.1,E J z.2.1,E J (cv z),F la ln lc,E J (ch z),eA (cr z)] 103));have ah:ZD wr X:=(by rw[hX];exact Zg _ _);have ab:X.heap[wr.heap.size]? = some (dW [E J z.1,E J z.2.1,E J (cv z),F la ln lc,E J (ch z),eA (cr z)].toArray 103 (0,0)):=(by rw[hX];exact Qn _ _ _ _ _ _ _ _);have bz:=Zc ah g1;have cl:=Zc ah g2;have c0:=Zd ab 0 _ rfl;have c1:=Zd ab 1 _ rfl;have c2:=Zd ab 2 _ rfl;have c3:=Zd ab 3 _ rfl;have c4:=Zd ab 4 _ rfl;have c5:=Zd ab 5 _ rfl;have ei:=aA ab;have eb:b<X.heap.size:=aC _ _ bz;have ce:=Zb ah;have aq:=be.kept ah;have ag:=aq.kept (Zh X);have ed:(k:Int)<(ni:Int):=(by omega);by_cases he:pt z=(y1,y2)
   ·have bg:z.1=y1:=congrArg Prod.fst he;have bh:z.2.1=y2:=congrArg Prod.snd he;cases hf:Xp (pt z) (O.map (·.1)) with
    | true=>
     have R:Hid (x=6):=by
      have e:=Za A;rw[(Za E1) (.inr hf),Za HX] at e;injection e
     have C:=Zfo w0 X.drew p v' O (z,la,ln,lc) ag bf (by omega) hf;unfold cnV at C;simp only at C;have HC:=Zb C;have ak:=Zb ag.bel;rw[<-bg] at bz;rw[<-bh] at cl;clear A al am ax ay az ba bb bc ao ar bl ah ab aq ag C hf he bg bh hy hz;go_wp2_with fail;rw[<-hX];clear hX g1 g2 m0 m1 m2 m3 m4 m5
     go_region_with (go_at_call 171;refine HC.mono ?_;rintro e w4 ⟨rfl,bx⟩;have cx:Hid (ZD w0 w4):=Ze ak (bx.mono ak.size |> λq=>⟨q.os,q.tape,q.output,q.size,bx.block⟩);clear bx)
     all_goals
      go_wp2;go_ret;exact⟨by rw[Za R];rfl,Za cx,λe=>absurd e (by rw[Za R];decide)⟩
    | false=>
     have A2:Hid (∀ bt:List CV,bt.map (·.1)=Uj z (O.map (·.1))->Yy I S (K.map (·.1))=Yy (I.drop (k+1)) (S.drop (k+1)) (bt.map (·.1))):=λbt hK=>by
      rw[Za A,(Za E2) (by rintro (q|q);exact q he;rw[hf] at q;cases q),hK]
     have C:=Zaw w0 X.drew p v' O (z,la,ln,lc) ag bf (by omega) hf ⟨ao,ar⟩;unfold cnV at C;simp only at C;have HC:=Zb C;have GD:Hid (Gr w X.drew (PuS p v)):=(HG.on ce).draw;rw[<-bg] at bz;rw[<-bh] at cl;have ea:wr.heap.size<=X.heap.size:=ce.size;have eh:w.heap.size<=wr.heap.size:=HG.size;clear A al am ax ay az ba bb bc ao ar bl ah ab aq ag C hf he bg bh hy hz;go_wp2_with fail;rw[<-hX];clear hX g1 g2 m0 m1 m2 m3 m4 m5
     go_region_with (go_at_call 171;refine HC.mono ?_;rintro e w4 ⟨v4,K4,rfl,ai,dm,bi,ap,an,au⟩;have H4:Hid (K4.map (·.1)=Uj z (O.map (·.1))/\K4.length=O.length+1/\Pu w0 w4 p v4 K4/\Gr X.drew w4 (PuS p v')/\(v4.ownBlock=v'.ownBlock\/∀ k,v4.ownBlock=some k->X.heap.size<=k)):=⟨ai,bi,ap,an,au⟩;clear ai dm bi ap an au)
     all_goals
      obtain⟨ai,bi,ap,an,au⟩:=Za H4
      have R:Hid (Hid (Yy I S (K.map (·.1))=Yy (I.drop (k+1)) (S.drop (k+1)) (K4.map (·.1)))/\Hid (Srt (K4.map (·.1)))/\K4.length<=K.length+(k+1)/\Hid (Pu w0 w4 p v4 K4)/\Hid (Gr w w4 (PuS p v))/\Hid (v4.ownBlock=v.ownBlock\/∀ k,v4.ownBlock=some k->w.heap.size<=k)):=by
       refine⟨A2 K4 ai,?_,by omega,ap,?_,?_⟩
       ·show Srt _;rw[ai];exact Ux bf
       ·refine GD.trans2 an (λq hq hT=>?_)
        rcases hT with e|e
        ·exact .inl e
        ·rcases Za HV with f|f
         ·exact .inr (by rw[<-f];exact e)
         ·have:=f q e;omega
       ·rcases au with f|f
        ·rcases Za HV with g|g
         ·exact .inl (by rw[f,g])
         ·exact .inr (λq hq=>g q (by rw[<-f];exact hq))
        ·exact .inr (λq hq=>by have:=f q hq;omega)
      clear ai bi ap an au;go_wp2;go_roundw
      case rel=>
       obtain⟨r1,r2,r3,r4,r5,r6⟩:=Za R;exact⟨k+1,K4,v4,by omega,by go_num,r1,r2,r3,r4,r5,r6⟩
      case measure=>simp[intOf];omega
   ·have R:Hid (x=6):=by
     have e:=Za A;rw[(Za E1) (.inl he),Za HX] at e;injection e
    have ak:=Zb ag.bel;by_cases e1:z.1=y1
    ·have e2:¬(z.2.1=y2):=λq=>he (by unfold pt;rw[e1,q]);subst e1;clear A al am ax ay az ba bb bc ao ar bl ah ab aq ag he hy hz;go_wp2_with fail;rw[<-hX];clear hX g1 g2 m0 m1 m2 m3 m4 m5
     go_quiet (fail)
     go_wp2;go_ret;exact⟨by rw[Za R];rfl,Ze ak ⟨rfl,rfl,rfl,aE _,λ_ _=>rfl⟩,λe=>absurd e (by rw[Za R];decide)⟩
    ·clear A al am ax ay az ba bb bc ao ar bl ah ab aq ag he hy hz;go_wp2_with fail;rw[<-hX];clear hX g1 g2 m0 m1 m2 m3 m4 m5
     go_quiet (fail)
     go_wp2;go_ret;exact⟨by rw[Za R];rfl,Ze ak ⟨rfl,rfl,rfl,aE _,λ_ _=>rfl⟩,λe=>absurd e (by rw[Za R];decide)⟩
  ·have e:k=ni:=(by omega);subst e;have R:=Za A;rw[M6 (by rw[Za cg];exact aE _),Za HX] at R;have R1:Hid (x=0):=(by show _=_;injection R);have R2:M=O.map (·.1):=(by injection R);subst R2;clear R A;go_wp2;go_ret;exact⟨by rw[Za R1];rfl,be.bel,λ_=>⟨v',O,rfl,Za bf,dh,Za be,Za HG⟩⟩
def RvR(w w':World)(x:Int)(M:List Zf)(e:Ending):Prop:=
 ∃ z nm O,e = dX (dY #[F z nm O,E J x])/\CoinsAt w' z nm M/\SlOk z nm O/\ZD w w'
theorem Wl{w w':World}{x y:Int}{M}(h:(x,M)=((y:Int),([]:List Zf)))(z:ZD w w'):RvR w w' x M (dX (dY #[F none 0 0,E J y])):=by
 injection h with h1 h3;subst h1 h3;exact⟨none,0,0,rfl,RowsAt.nil _ _,Wd,z⟩
theorem Zhi(a n c L)(h:Int)(ai ao ni ci no co I fu)(name:Int)(sa ns cs S)(x:Int)(M w)(hL:CoinsAt w a n L)(sL:SlOk a n c)(hI:InsAt w ai ni I)(hO:OutsAt w ao no fu)(sI:SlOk ai ni ci)(hS:CoinsAt w sa ns S)(z:rvD L (h,I,fu) name S=(x,M)) :
  Calls Tryz.prog 135 #[F a n c,.agg #[E J h,F ai ni ci,F ao no co],E J name,.agg #[F sa ns cs]] w λe w'=>RvR w w' x M e:=by
 obtain⟨X0,ae⟩:=ZG ((w.alloc (dW #[E J h,F ai ni ci,F ao no co] 52)).alloc (dW #[F sa ns cs] 130));have ab:ZD w X0:=by rw[ae];exact Ze (Zg _ _) (Zg _ _)
 have am:X0.heap[w.heap.size]? = some (dW [E J h,F ai ni ci,F ao no co].toArray 52 (0,0)):=by
  rw[ae,Below.heap_alloc _ _ _ (by simp)];exact Zs _ _ _ _ _
 have az:X0.heap[w.heap.size+1]? = some (dW [F sa ns cs].toArray 130 (0,0)):=by
  rw[ae];have:=aK (w.alloc (dW #[E J h,F ai ni ci,F ao no co] 52)) (dW #[F sa ns cs] 130);rw[show (w.alloc (dW #[E J h,F ai ni ci,F ao no co] 52)).heap.size=w.heap.size+1 by simp] at this;exact this
 obtain⟨x1,h1⟩:=ZF (Wm L (h,I,fu));obtain⟨⟨x2,M2⟩,h2⟩:=ZF (Yq name 0 fu L);obtain⟨⟨x3,M3⟩,h3⟩:=ZF (Yy I S M2);obtain⟨x4,h4⟩:=ZF (Zo M3);rw[Zdb h1 h2 h3 h4] at z;have cf:S.length=ns/\I.length=ni:=⟨hS.1,hI.1⟩;have C1:=Zb (G5 a n c L h ai ao ni ci no co I fu x1 X0 (hL.later ab) (hI.later ab) (hO.later ab) sI h1);have cu:=Zb am;have cw:=Zb az;have bw:=Zb ab;have y0:=Zd am 0 _ rfl;have y1:=Zd am 1 _ rfl;have y2:=Zd am 2 _ rfl;have fs:w.heap.size+1<X0.heap.size:=aA az;by_cases e1:x1=0
 ·subst e1;rw[if_neg (by decide)] at z;obtain⟨bj,cb⟩:=Le h1;obtain⟨t1,t2,t3,_⟩:=Y9 cb;have fb:ni<=6:=by rw[<-hI.1];exact t1
  have fc:no<=6:=by rw[<-hO.1];exact t2
  have hn:n<=720:=by rw[<-hL.1];exact bj.len
  by_cases e0:ns=ni
  ·subst e0;rw[if_neg (by show ¬S.length≠I.length;omega)] at z;have ew:=Zb (λw' (hb:ZD X0 w')=>Eg a n c L w' (by omega) ((hL.later ab).later hb) sL);have HI:=Zb (λw' (hb:ZD X0 w')=>(hI.later ab).later hb);have HO:=Zb (λw' (hb:ZD X0 w')=>(hO.later ab).later hb);have er:=Zb (λw' (hb:ZD X0 w')=>(hS.later ab).later hb);have eo:=Zb bj;have H2:=Zb h2;have H3:=Zb h3;have H4:=Zb h4;have HX:=Zb z;have et:=Zb hL.1;clear hL sL hI hO sI hS h1 am az ab bj cb t1 t2 t3 h2 h3 h4 z cf;go_enter func135,ntmps135;go_wp2_with fail;rw[<-ae];clear ae;refine C1.mono ?_;rintro e w2 ⟨rfl,O⟩;have ev:=Zb (ew w2 O);have ej:=Zb (HI w2 O);have en:=Zb (HO w2 O);have ep:=Zb (er w2 O);have aq:=ZE O cu;have ar:=ZE O cw;have c1:=Zd aq 1 _ rfl;have u0:=Zd ar 0 _ rfl;have cq:=Zb aq;have es:=Zb ar;have ag:=Zb (Ze bw O);clear O aq ar y0 y1 y2;go_wp2_with fail;refine ev.mono ?_;rintro e w3 ⟨p,v,K,rfl,hK,ca⟩;have bi:K.length=n:=(by rw[<-Za et,<-hK,dF]);have dn:Srt (K.map (·.1)):=(by rw[hK];exact eo.srt);have TB:=Zb (Ep w2 w3 p v K ao no co fu name x2 M2 ca dn (by omega) en fc (by rw[hK];exact Za H2));have di:=ZE ca.bel cq;have d2:=Zd di 2 _ rfl;have ek:=Zb bi;clear hK ca bi dn di c1 u0;go_wp2_with fail;refine TB.mono ?_;rintro e w4 ⟨rfl,bk,cd⟩;have dj:=ZE bk cq;have dp:=ZE bk es;have k1:=Zd dj 1 _ rfl;have k2:=Zd dp 0 _ rfl;have ee:=Zb bk;clear dj dp d2 bk;by_cases e2:x2=0
   ·subst e2;obtain⟨v4,K4,r1,r2,r3,r4,r5⟩:=cd rfl;have z:=Za HX;rw[if_neg (by decide)] at z;have cx:=Zb z;have bi:=Za ek;have PB:=Zb (Zdi w2 w4 p v4 K4 ai ns ci I sa cs S x3 M3 r4 (by rw[r1];exact r2) (by omega) ej ep fb (by rw[r1];exact Za H3));have fo:K4.length<=720:=(by omega);clear cd z r1 r2 r3 r4 r5 bi;go_wp2_with fail;refine PB.mono ?_;rintro e w5 ⟨rfl,df,ce⟩;have bx:=Zb df;clear k1 k2 df;by_cases e3:x3=0
    ·subst e3;obtain⟨v5,K5,s1,s2,s3,s4,s5⟩:=ce rfl;have z:=Za cx;rw[if_neg (by decide)] at z;have cy:=Zb z;obtain⟨a6,c6,rfl,bo,dl⟩:=s4.coins;obtain⟨n6,bq⟩:=ZF (K5.length);rw[s1,bq] at bo;have cc:=s4.box;rw[bq] at cc;have p6:=Zd (X:=[F a6 n6 c6]) cc 0 _ rfl;have fq:n6<=726:=(by omega);have CK:=Zb (Rc a6 n6 c6 M3 x4 w5 bo H4);have ef:=Zb bo;have eq:Hid (SlOk a6 n6 c6):=(by rw[<-bq];exact dl);clear ce z s1 s2 s3 s4 s5 bo dl bq cc;go_wp2_with fail;refine CK.mono ?_;rintro e w7 ⟨rfl,bn⟩;have p7:=Zc bn p6;have eg:=Zb (ef.later bn);have bz:Hid (ZD w2 w7):=bx.trans (bn.mono bx.size);clear bn p6;by_cases e4:x4=0
     ·subst e4;have z:=Za cy;rw[if_neg (by decide)] at z;have fd:x=0:=(by injection z with z _;exact z.symm);have fe:M=M3:=(by injection z with _ z;exact z.symm);subst fd fe;have de:=(Z6 M).1 H4;have CP:=Zb (Rw a6 n6 c6 M w7 (by omega) eg eq (λfv hz=>by have:=G3 (Wp (de.one fv hz)).2.2.2.2.2.2.2.2;omega));clear z de;go_wp2_with fail;refine CP.mono ?_;rintro e w8 ⟨a8,c8,rfl,dh,dm,dg⟩
      have eh:Hid (RvR w w8 0 M (dX (dY #[F a8 n6 c8,E J 0]))):=
       ⟨a8,n6,c8,rfl,dh w8 (Gr.refl _ _),dm,Ze ag (bz.trans (dg.mono bz.size))⟩
      clear dh dm dg p7;go_wp2;go_ret2;exact Za eh
     ·have g:(x4 != 0)=true:=(by simp[e4]);have HE:Hid ((x,M)=((x4:Int),([]:List Zf))):=(by have:=Za cy;rw[if_pos e4] at this;exact this.symm);have av:=Zb (Ze ag bz);clear e4 p7;go_wp2;go_ret2;exact Wl HE av
    ·have g:(x3 == 0)=false:=(by simp[e3]);have g':(x3 != 0)=true:=(by simp[e3]);have HE:Hid ((x,M)=((x3:Int),([]:List Zf))):=(by have:=Za cx;rw[if_pos e3] at this;exact this.symm);have av:=Zb (Ze ag bx);clear e3 ce;go_wp2;go_ret2;exact Wl HE av
   ·have g:(x2 == 0)=false:=(by simp[e2]);have g':(x2 != 0)=true:=(by simp[e2]);have HE:Hid ((x,M)=((x2:Int),([]:List Zf))):=(by have:=Za HX;rw[if_pos e2] at this;exact this.symm);have av:=Zb (Ze ag ee);clear e2 cd k1 k2;go_wp2;go_ret2;exact Wl HE av
  ·have HE:Hid ((x,M)=((4:Int),([]:List Zf))):=(by rw[if_pos (by show S.length≠I.length;omega)] at z;exact z.symm);have g:((ns:Int) != (ni:Int))=true:=(by simp;omega);clear hL sL hI hO sI hS h1 am az ab bj cb t1 t2 t3 h2 h3 h4 z cf e0;go_enter func135,ntmps135;go_wp2_with fail;rw[<-ae];clear ae;refine C1.mono ?_;rintro e w2 ⟨rfl,O⟩;have aq:=ZE O cu;have ar:=ZE O cw;have c1:=Zd aq 1 _ rfl;have u0:=Zd ar 0 _ rfl;have ag:=Zb (Ze bw O);clear O aq ar y0 y1 y2;go_wp2;go_ret2;exact Wl HE ag
 ·have g:(x1 != 0)=true:=by simp[e1]
  have HE:Hid ((x,M)=((x1:Int),([]:List Zf))):=by rw[if_pos e1] at z;exact z.symm
  clear hL sL hI hO sI hS h1 am az ab h2 h3 h4 z e1 cf;go_enter func135,ntmps135;go_wp2_with fail;rw[<-ae];clear ae;refine C1.mono ?_;rintro e w2 ⟨rfl,O⟩;have ag:=Zb (Ze bw O);clear O y0 y1 y2;go_wp2;go_ret2;exact Wl HE ag
theorem Yr{P:Program}{ops}{o:Oper}{a:Act}{w}{K:Act->World->Prop}{Q:Exit->Act->World->Prop}{O:Prop}
  (hw:Region.wanted o (yielded ops a.tmps)=true) (f:FuncId) (z) (he:(execOp a.eval o).run P w = .ok (.enter f z) w) {R:Ending->World->Prop} (hc:Calls P f z w R) (h:∀ e w',R e w'->∃ v,e = dX v/\K (a.put o.dst v) w') :
  if Region.wanted o (yielded ops a.tmps)=true then Oper.wp P o a w K Q else O:=by
 rw[if_pos hw];unfold Oper.wp;rw[he,Oper.upon_enter];refine hc.mono ?_;intro e w' hr;obtain⟨v,rfl,hk⟩:=h e w' hr;exact hk
theorem Bm{P:Program}{ops}{o:Oper}{a:Act}{w}{K:Act->World->Prop}{Q:Exit->Act->World->Prop}{O:Prop}
  (hg:o.guard=none) (f:FuncId) (z) (he:(execOp a.eval o).run P w = .ok (.enter f z) w) {R:Ending->World->Prop} (hc:Calls P f z w R) (h:∀ e w',R e w'->∃ v,e = dX v/\K (a.put o.dst v) w') :
  if Region.wanted o (yielded ops a.tmps)=true then Oper.wp P o a w K Q else O:=
 Yr (by simp[Region.wanted,hg]) f z he hc h
structure Rv1(w X0 wr:World)(v:Value)(K:List CV):Prop where
 own:wr.ownsRow X0.heap.size 103 6 v K.length (Zk K)
 lks:∀ x∈K,LkAt w x
 bel:ZD X0 wr
theorem Zkm{L S:List Zf}{t:TxD}{name x:Int}{M}(O:Zy L)(aa:Zr t=0)(hl:S.length≠t.2.1.length)(z:rvD L t name S=(x,M)):(x,M)=((4:Int),([]:List Zf)):=by
 have e:Wm L t=0:=by unfold Wm;rw[(Z6 L).2 O,if_neg (by decide)];exact aa
 unfold rvD at z;rw[e,if_neg (by decide),if_pos hl] at z;exact z.symm
theorem Bp(a n c L)(h:Int)(ai ao og oe no co I oa)(name:Int)(sa ns cs S)(x:Int)(M w)(hL:CoinsAt w a n L)(sL:SlOk a n c)(hI:InsAt w ai og I)(hO:OutsAt w ao no oa)(hS:CoinsAt w sa ns S)(ci:Zy L)(db:Zr (h,I,oa)=0)(hx:rvD L (h,I,oa) name S=(x,M)) :
  Calls Tryz.prog 90 #[F a n c,.agg #[E J h,F ai og oe,F ao no co],E J name,.agg #[F sa ns cs]] w λe w'=>RvR w w' x M e:=by
 obtain⟨X0,bs⟩:=ZG ((w.alloc (dW #[E J h,F ai og oe,F ao no co] 52)).alloc (dW #[F sa ns cs] 130));have dd:ZD w X0:=by rw[bs];exact Ze (Zg _ _) (Zg _ _)
 have bt:X0.heap[w.heap.size]? = some (dW [E J h,F ai og oe,F ao no co].toArray 52 (0,0)):=by
  rw[bs,Below.heap_alloc _ _ _ (by simp)];exact Zs _ _ _ _ _
 have dc:X0.heap[w.heap.size+1]? = some (dW [F sa ns cs].toArray 130 (0,0)):=by
  rw[bs];have:=aK (w.alloc (dW #[E J h,F ai og oe,F ao no co] 52)) (dW #[F sa ns cs] 130);rw[show (w.alloc (dW #[E J h,F ai og oe,F ao no co] 52)).heap.size=w.heap.size+1 by simp] at this;exact this
 have lh:=Zd bt 0 _ rfl;have li:=Zd bt 1 _ rfl;have iq:=Zd bt 2 _ rfl;have xl:=aA bt;have x10:=Zd dc 0 _ rfl;have lp:=aA dc;by_cases id:ns=og
 ·subst id;obtain⟨⟨x2,M2⟩,h2⟩:=ZF (Yq name 0 oa L);obtain⟨⟨x3,M3⟩,h3⟩:=ZF (Yy I S M2);obtain⟨x4,h4⟩:=ZF (Zo M3);have gx:Wm L (h,I,oa)=0:=by unfold Wm;rw[(Z6 L).2 ci,if_neg (by decide)];exact db
  rw[Zdb gx h2 h3 h4,if_neg (by decide),if_neg (by intro q;exact q (by rw[hS.1,hI.1]))] at hx;obtain⟨t1,t2,t3,_,tI,_⟩:=Y9 db;have np:ns<=6:=by rw[<-hI.1];exact t1
  have nr:no<=6:=by rw[<-hO.1];exact t2
  have hn:n<=720:=by rw[<-hL.1];exact ci.len
  have C1:=Zb (Qd a n c L w X0 dd (by omega) hL sL);have ji:=Zb hI;have jk:=Zb hO;have jm:=Zb hS;have dh:=Zb dd;have gh:=Zb bt;have jo:=Zb dc;have H2:=Zb h2;have H3:=Zb h3;have H4:=Zb h4;have HX:=Zb hx;have gd:=Zb ci;have gj:=Zb hI.1;have gl:=Zb hO.1;have jq:=Zb hS.1;have g0:((ns:Int) != (ns:Int))=false:=by simp
  clear hL sL hI hO hS ci db hx bt dc dd h2 h3 h4 t1 t2 t3 tI gx;go_enter func90,ntmps90;go_wp2_with fail;rw[<-bs];clear bs;go_wp2_with fail;refine C1.mono ?_;rintro e w2 ⟨v,K,rfl,dn,aq,ho,bu⟩;have xb:=Zc bu iq;have lj:=aC _ _ xb;have ST:Hid (Rv1 w X0 w2 v K):=⟨ho,aq,bu⟩;have SR:Hid (Srt (K.map (·.1))):=by show Srt _;rw[dn];exact gd.srt
  have EQ:Hid (Yq name 0 (oa.drop 0) (K.map (·.1))=(x2,M2)):=by show _=_;rw[dn];exact Za H2
  have LN:Hid (K.length<=720):=by show _<=_;rw[<-dF (f:=λ(x:CV)=>x.1),dn];exact gd.len
  clear dn aq ho bu lh li iq x10 xl lp;go_wp2
  go_loopw [0,28] (λrv i wr=>∃ (k:Nat) (K:List CV),k<=no/\i = E J k/\Hid (K.length<=720)/\Hid (Rv1 w X0 wr rv K)/\Hid (Srt (K.map (·.1)))/\Hid (Yq name k (oa.drop k) (K.map (·.1))=(x2,M2))) (λ_ i _=>no - (intOf i).toNat)
  case atStart=>exact⟨0,K,aP _,rfl,LN,ST,SR,EQ⟩
  case round=>
   clear xb lj;obtain⟨k,K,hk,rfl,ay,HS,ef,HE⟩:=hrel;have ad:=Zb (Ze dh HS.bel);have BT:=Zb (ZE HS.bel gh);have BU:=Zb (ZE HS.bel jo);have cl:∀ x∈K,LkAt wr x:=λx hx=>(HS.lks x hx).later ad;obtain⟨ra,rc,rfl,bg,im⟩:=Zx HS.own cl;by_cases de:k<no
   ·have aq:k<oa.length:=(by rw[Za gl];exact de);obtain⟨ob,oo,rfl,_,ig⟩:=jk.2 (by omega);have ih:=ig k aq;obtain⟨q,hq⟩:=ZF (oa[k]);have BN:=Zb (λL ht=>Ln (name:=name) aq (L:=L) ht);have BL:=Zb (λL M c ht hu=>S8 (name:=name) aq (L:=L) (M:=M) (c:=c) ht hu);have BO:=Zb (λL M c ht hu=>Bd (name:=name) aq (L:=L) (M:=M) (c:=c) ht hu);rw[hq] at ih BL BO;obtain⟨ov,fm⟩:=q;obtain⟨bq,la,ln,lc,g1,lO,lS⟩:=ih;simp only at bq g1 lO;have e0:=Zc ad bq;have e1:=Zc ad g1;have ol:=aC _ _ e0;obtain⟨W1,aj⟩:=ZG (wr.alloc (dW #[E J ov,F la ln lc] 101));have av:ZD wr W1:=(by rw[aj];exact Zg _ _);have p1:W1.heap[wr.heap.size]? = some (dW [E J ov,F la ln lc].toArray 101 (0,0)):=(by rw[aj];exact aK _ _);obtain⟨oh,hz⟩:=ZF (plc (name,(k:Int)) (K.map (·.1)) 0);have CP:=Zb (Qo ra K.length rc (K.map (·.1)) (name,(k:Int)) oh W1 (by have:=Za ay;omega) (bg.later av) hz);have cb:=Zb av;have jl:=Zb p1;have ju:=Zb lO;have lu:=Zb lS.len;clear av ig lO bq g1 p1 bg cl;go_wp2_with fail;rw[<-aj];clear aj;(try go_wp2_with fail);refine CP.mono ?_;rintro e W2 ⟨rfl,bu⟩;have ed:=Zb (Ze cb bu);have cp:=Zb (Ze ad ed);have OB:=Zb (ZE bu jl);clear bu e0 e1
    rcases J0 (name,(k:Int)) (K.map (·.1)) 0 with ⟨ax,az⟩|⟨j,hj,ax,az,fg⟩
    ·obtain rfl:oh = -1:=hz.symm.trans ax
     have ak:Hid ((x,M)=((7:Int),([]:List Zf))):=by
      have e:=BN _ (Eo az);rw[Za HE] at e;obtain⟨rfl,_⟩:=aX e;exact HX.symm.trans (if_pos (by decide))
     clear hz ax az;go_wp2_with fail
     go_quiet (fail)
     go_wp2;go_ret2
     first|exact Wl ak cp|exact Wl ak (Ze cp ⟨rfl,rfl,rfl,aE _,λ_ _=>rfl⟩)
    ·have fc:oh=(j:Int):=(by rw[<-hz,ax];simp);subst fc;have fb:j<K.length:=(by simpa using hj);have TK:=Zb (Hb ef j hj az);obtain⟨cx,ey⟩:=ZF (K[j]);have gy:cx∈K:=ey ▸ List.getElem_mem fb
     obtain⟨g,rfl⟩:∃ g,ra=some ⟨g,0,none⟩:=by
      rcases HS.own.2 with ⟨e,q⟩|⟨g,cap,lv,e,_⟩
      ·omega
      ·exact⟨g,by injection e⟩
     have gn:=Zb ((Gr.of (S:=λ_=>False) ed).own HS.own (λ_ _ q=>q));obtain⟨f0,f1,f2,f3,f4,f5⟩:=Qy K j fb;have cc:=λu (hu:u<6)=>World.ownsRow.cellAt gn (j*6+u) (by omega);have m2:=(cc 2 (by decide)).trans f2;have m3:=(cc 3 (by decide)).trans f3;have kj:=HS.lks cx gy;rw[List.getElem_map,ey] at TK;rw[ey] at m2 m3;obtain⟨⟨c1,O,vv,lk,hg,rr⟩,dv,dx,dw⟩:=cx;simp only[cv] at m2 m3;obtain⟨fh,fj⟩:=kj;simp only[ck] at fh fj;have o0:=Zd OB 0 _ rfl;have o1:=Zd OB 1 _ rfl;have nw:=aA OB;have oj:g<W2.heap.size:=aC _ _ m2;have nc:¬((j:Int)<0):=(by omega);have ni:decide ((j:Int)<0)=false:=(by simp);have nf:(j:Int)<(K.length:Int):=by omega
     have SO:Hid (∀ o W,ZD W2 W->decide ((vv,lk)=(ov,fm))=o->Calls Tryz.prog 44 #[.agg #[E J vv,F dv dx dw],.agg #[E J ov,F la ln lc]] W λe w'=>e = dX (eA o)/\ZD W w'):=λo W hw ho=>
      Kh (vv,lk) (ov,fm) dv la dx dw ln lc o W fj.len ((fh.later cp).later hw) ((ju.later cp).later hw) ho
     clear f0 f1 f2 f3 f4 f5 cc gy fh fj az fg hz ax;by_cases cm:(vv,lk)=(ov,fm)
     ·have C:=Zb (λW hw=>SO true W hw (decide_eq_true cm));have ee:Hid (Yq name (k+1) (oa.drop (k+1)) ((K.map (·.1)).take j++(K.map (·.1)).drop (j+1))=(x2,M2)):=(BO _ _ _ TK cm).symm.trans HE;clear cm;go_wp2_with fail
      go_region_held3 (λw'=>ZD W2 w'/\w'.cell? ⟨wr.heap.size,0,none⟩=some (E J ov)/\w'.cell? ⟨wr.heap.size,1,none⟩=some (F la ln lc)/\w'.cell? ⟨g,j*6+2,none⟩=some (E J vv)/\w'.cell? ⟨g,j*6+3,none⟩=some (F dv dx dw))
       (first
       | exact⟨Zh _,o0,o1,m2,m3⟩
       | (go_split_ands;refine⟨Ze (by assumption) z,Zc z (by assumption),Zc z (by assumption),Zc z (by assumption),Zc z (by assumption)⟩))
       (first|(go_at_call 44;go_split_ands;refine (C _ (by assumption)).mono ?_;rintro e w' ⟨rfl,z⟩))
      rename_i hH;have bd:=Zb (Ze ed hH.1);have bo:=(Gr.of (S:=λ_=>False) hH.1).own gn (λ_ _ q=>q)
      have CD:Hid (Calls Tryz.prog 136 #[F (some ⟨g,0,none⟩) K.length rc,E J j,E J ((j:Int)+1)] w' λe w2=>e = dX (F (some ⟨g,0,none⟩) (K.length - 1) rc)/\w2.ownsRow X0.heap.size 103 6 (F (some ⟨g,0,none⟩) (K.length - 1) rc) (K.length - 1) (Zk (K.take j++K.drop (j+1)))/\w'.grownBy w2 (some g)):=by
       have q:=Ss X0.heap.size g K.length rc j (j+1) K w' fb rfl rfl bo;rw[show ((j+1:Nat):Int)=(j:Int)+1 by omega] at q;exact q
      have jx:=Zb bo;have nh:(j:Int)<=720:=(by have:=Za ay;omega);clear hH bo o0 o1 m2 m3;go_wp2_with fail;refine CD.mono ?_;rintro e w4 ⟨rfl,ie,gz⟩;have ff:(K.take j++K.drop (j+1)).length=K.length - 1:=(by rw[bB,List.length_take,List.length_drop];omega);have fe:(K.take j++K.drop (j+1)).map (·.1)=(K.map (·.1)).take j++(K.map (·.1)).drop (j+1):=by rw[bW,List.map_take,List.map_drop]
      have ek:Hid (Rv1 w X0 w4 (F (some ⟨g,0,none⟩) (K.length - 1) rc) (K.take j++K.drop (j+1))):=by
       refine⟨by rw[ff];exact ie,λx hx=>?_,?_⟩
       ·rcases cI.1 hx with hx|hx
        ·exact HS.lks x (List.mem_of_mem_take hx)
        ·exact HS.lks x (List.mem_of_mem_drop hx)
       ·have dr:=Ze HS.bel bd;exact dr.grown gz dr.size (Y6 jx)
      have kb:Hid (Srt ((K.take j++K.drop (j+1)).map (·.1))):=(by show Srt _;rw[fe];exact Jt TK ef);have jf:Hid (Yq name (k+1) (oa.drop (k+1)) ((K.take j++K.drop (j+1)).map (·.1))=(x2,M2)):=(by show _=_;rw[fe];exact Za ee);have L3:Hid ((K.take j++K.drop (j+1)).length<=720):=(by show _<=_;rw[ff];have:=Za ay;omega);clear ff fe ie gz;go_wp2;go_roundw
      case rel=>exact⟨k+1,_,by omega,by go_num,L3,ek,kb,jf⟩
      case measure=>simp[intOf];omega
     ·have C:=Zb (λW hw=>SO false W hw (decide_eq_false cm))
      have ak:Hid ((x,M)=((7:Int),([]:List Zf))):=by
       have e:=BL _ _ _ TK cm;rw[Za HE] at e;obtain⟨rfl,_⟩:=aX e;exact HX.symm.trans (if_pos (by decide))
      clear cm;go_wp2_with fail
      go_region_held3 (λw'=>ZD W2 w'/\w'.cell? ⟨wr.heap.size,0,none⟩=some (E J ov)/\w'.cell? ⟨wr.heap.size,1,none⟩=some (F la ln lc)/\w'.cell? ⟨g,j*6+2,none⟩=some (E J vv)/\w'.cell? ⟨g,j*6+3,none⟩=some (F dv dx dw))
       (first
       | exact⟨Zh _,o0,o1,m2,m3⟩
       | (go_split_ands;refine⟨Ze (by assumption) z,Zc z (by assumption),Zc z (by assumption),Zc z (by assumption),Zc z (by assumption)⟩))
       (first|(go_at_call 44;go_split_ands;refine (C _ (by assumption)).mono ?_;rintro e w' ⟨rfl,z⟩))
      rename_i hH;have bn:=Zb (Ze cp hH.1);clear hH;go_wp2;go_ret2;exact Wl ak bn
   ·obtain rfl:k=no:=(by omega);have e:=Za HE;rw[D8 (by rw[Za gl];exact aE _)] at e;obtain⟨e0,e1⟩:=aX e;subst e0 e1;have au:=Za HX;rw[if_neg (by decide)] at au;have jp:=Zb au;have ld:=Zd BU 0 _ rfl;have le:=aA BU;have P0:Hid ((K.map (·.1)).Perm (K.map (·.1))/\Srt (K.map (·.1))):=⟨List.Perm.refl _,Za ef⟩;have N0:Hid (K.length<=720+0):=Za ay;have E0:Hid (Yy (I.drop 0) (S.drop 0) (K.map (·.1))=(x3,M3)):=Za H3;clear au e de bg cl;go_wp2
    go_loopw [0,59] (λrv i wr=>∃ (k:Nat) (K:List CV) (G:List Zf),k<=ns/\i = E J k/\Hid (K.length<=720+k)/\Hid (Rv1 w X0 wr rv K)/\Hid ((K.map (·.1)).Perm G/\Srt G)/\Hid (Yy (I.drop k) (S.drop k) G=(x3,M3))) (λ_ i _=>ns - (intOf i).toNat)
    case atStart=>exact⟨0,K,K.map (·.1),aP _,rfl,N0,HS,P0,E0⟩
    case round=>
     clear ld le;obtain⟨k,K,G,hk,rfl,ay,HS,HP,HE⟩:=hrel;have HX:=jp;have ad:=Zb (Ze dh HS.bel);have BT:=Zb (ZE HS.bel gh);have cl:∀ x∈K,LkAt wr x:=λx hx=>(HS.lks x hx).later ad;obtain⟨ra,rc,rfl,bg,im⟩:=Zx HS.own cl;by_cases de:k<ns
     ·have aq:k<S.length:=(by rw[Za jq];exact de);have fd:k<I.length:=(by rw[Za gj];exact de);obtain⟨sb,so,rfl,_,il⟩:=jm.2 (by omega);obtain⟨oc,od,rfl,_,ib⟩:=ji.2 (by omega);have ew:=il k aq;have ic:=ib k fd;obtain⟨q,hq⟩:=ZF (S[k]);obtain⟨r,hr⟩:=ZF (I[k]);have PN:=Zb (λhh=>F8 fd aq (L:=G) hh);have PO:=Zb (λhh=>F7 fd aq (L:=G) hh);rw[hq] at ew;rw[hr] at ic;rw[hq,hr] at PN PO;obtain⟨la,ln,lc,bq,g1,g2,g3,g4,g5,lO,lS⟩:=ew.val;obtain⟨f1,f2,ka,om,kc,f3,f4,_⟩:=ic;obtain⟨c1,O,vv,lk,hg,rr⟩:=q;obtain⟨r1,r2,rk⟩:=r;simp only[cv,ch,cr,ck,pt] at bq g1 g2 g3 g4 g5 lO f1 f2 f3 PN PO;have e0:=Zc ad bq;have e1:=Zc ad g1;have e2:=Zc ad g2;have e3:=Zc ad g3;have e4:=Zc ad g4;have e5:=Zc ad g5;have ol:=aC _ _ e0;obtain⟨W1,aj⟩:=ZG (wr.alloc (dW #[E J c1,E J O,E J vv,F la ln lc,E J hg,eA rr] 103));have av:ZD wr W1:=(by rw[aj];exact Zg _ _);have pw:W1.heap[wr.heap.size]? = some (dW [E J c1,E J O,E J vv,F la ln lc,E J hg,eA rr].toArray 103 (0,0)):=(by rw[aj];exact aK _ _);have n1:=Zc av (Zc ad f1);have n2:=Zc av (Zc ad f2);have t1:=Zc av (Zd BT 1 _ rfl);have p0:=Zd pw 0 _ rfl;have p1:=Zd pw 1 _ rfl;have LK:Hid (LkAt w (((c1,O,vv,lk,hg,rr):Zf),la,ln,lc)):=⟨lO,lS⟩;obtain⟨oh,hz⟩:=ZF (plc (c1,O) (K.map (·.1)) 0);have CP:=Zb (λW (hw:ZD W1 W)=>Qo ra K.length rc (K.map (·.1)) (c1,O) oh W (by have:=Za ay;omega) ((bg.later av).later hw) hz);have cb:=Zb av;have gc:=Zb pw
      have nj:(0:Int)<=(k:Int):=Int.natCast_nonneg _;have nk:(k:Int)<(ns:Int):=(by omega);clear av pw il ib bq g1 g2 g3 g4 g5 f1 f2 f3 f4 lO bg ew
      rcases J0 (c1,O) (K.map (·.1)) 0 with ⟨ax,az⟩|⟨j,hj,ax,az,fg⟩
      ·obtain rfl:oh = -1:=hz.symm.trans ax;have HF:Hid (Xp (c1,O) G=false):=(by show _=_;rw[<-Qh (Za HP).1];exact az);clear hz ax az;by_cases q1:c1=r1
       ·subst q1;by_cases q2:O=r2
        ·subst q2;have ee:Hid (Yy (I.drop (k+1)) (S.drop (k+1)) (Uj (c1,O,vv,lk,hg,rr) G)=(x3,M3)):=(PO (by rintro (q|q);exact q rfl;rw[Za HF] at q;exact Bool.noConfusion q)).symm.trans HE;go_wp2_with fail;rw[<-aj];clear aj
         go_region_held3 (λw'=>ZD W1 w'/\w'.cell? ⟨wr.heap.size,0,none⟩=some (E J c1)/\w'.cell? ⟨wr.heap.size,1,none⟩=some (E J O)/\w'.cell? ⟨w.heap.size,1,none⟩=some (F (some ⟨oc,od,none⟩) ns oe)/\w'.cell? ⟨oc,od+k*3,none⟩=some (E J c1)/\w'.cell? ⟨oc,od+k*3+1,none⟩=some (E J O))
       (first
       | exact⟨Zh _,p0,p1,t1,n1,n2⟩
       | (go_split_ands;refine⟨Ze (by assumption) z,Zc z (by assumption),Zc z (by assumption),Zc z (by assumption),Zc z (by assumption),Zc z (by assumption)⟩))
       (first|(go_at_call 110;go_split_ands;refine (CP _ (by assumption)).mono ?_;rintro e w' ⟨rfl,z⟩))
         rename_i hH;have bd:=Zb (Ze cb hH.1);have bc:=(hH.1.block _ (aA gc)).trans gc;have k0:=Zd bc 0 _ rfl;have k1:=Zd bc 1 _ rfl;have k2:=Zd bc 2 _ rfl;have k3:=Zd bc 3 _ rfl;have k4:=Zd bc 4 _ rfl;have k5:=Zd bc 5 _ rfl;have kl:=aA bc;have bo:=(Gr.of (S:=λ_=>False) bd).own HS.own (λ_ _ q=>q);obtain⟨W3,gv⟩:=ZG (w');rw[<-gv] at bd bc k0 k1 k2 k3 k4 k5 kl bo ⊢;have ds:=Zg W3 (dW #[E J c1,E J O,E J vv,F la ln lc,E J hg,eA rr] 103);have gp:=Zb ((Gr.of (S:=λ_=>False) ds).own bo (λ_ _ q=>q));have jw:=Zb (World.news_of_block (aK W3 (dW #[E J c1,E J O,E J vv,F la ln lc,E J hg,eA rr] 103)));have eu:=Ze HS.bel bd;have YS:X0.heap.size<=(W3.alloc (dW #[E J c1,E J O,E J vv,F la ln lc,E J hg,eA rr] 103)).heap.size:=Nat.le_trans eu.size ds.size;have ga:=Zb (Ze eu ds);have KL:K.length<=726:=(by have:=Za ay;omega);obtain⟨i0,hi,kq,lq,lr⟩:=info_parts Tryz.infoCoin;clear hH bo ds eu gv p0 p1 t1 n1 n2 bc
         go_wp2_with (at_builtin;refine wpList_append_lies _ rfl _ _ 29 rfl X0.heap.size 103 i0 zeroC 6 64 underlying29 hi kq lq lr rfl (by decide) _ _ _ rfl gp ⟨W3.heap.size,0,none⟩ 1 1 [E J c1,E J O,E J vv,F la ln lc,E J hg,eA rr] rfl rfl jw (λu hu=>by simp at hu;rcases hu with rfl|rfl|rfl|rfl|rfl|rfl <;> rfl) (by decide) (by unfold maxLen;omega) (by omega) YS _ rfl ?_;intro g7 ke w7 ii ia kn _;have jj:=Zb ii;have jh:=Zb ia;clear ii ia kn)
         have ek:Hid (Rv1 w X0 w7 (F (some ⟨g7,0,none⟩) (K.length+1) ke) (K++[(((c1,O,vv,lk,hg,rr):Zf),la,ln,lc)])):=by
          refine⟨?_,λx hx=>?_,ga.grown jh ga.size (Y6 gp)⟩
          ·rw[bB,Z0];exact Za jj
          ·rcases cI.1 hx with hx|hx
           ·exact HS.lks x hx
           ·rw[List.mem_singleton.1 hx];exact Za LK
         have P3:Hid (((K++[(((c1,O,vv,lk,hg,rr):Zf),la,ln,lc)]).map (·.1)).Perm (Uj (c1,O,vv,lk,hg,rr) G)/\Srt (Uj (c1,O,vv,lk,hg,rr) G)):=by
          refine⟨?_,Ux HP.2⟩;rw[bW];exact Hh HP.1 HF
         have L3:Hid ((K++[(((c1,O,vv,lk,hg,rr):Zf),la,ln,lc)]).length<=720+(k+1)):=(by show _<=_;rw[bB];have:=Za ay;simp;omega);go_wp2;go_roundw
         case rel=>exact⟨k+1,_,_,by omega,by go_num,L3,ek,P3,ee⟩
         case measure=>simp[intOf];omega
        ·have km:(O == r2)=false:=by simp[q2]
         have ak:Hid ((x,M)=((6:Int),([]:List Zf))):=by
          have e:=PN (.inl (λe=>q2 (by injection e)));rw[Za HE] at e;obtain⟨rfl,_⟩:=aX e;exact HX.symm.trans (if_pos (by decide))
         clear HX;go_wp2_with fail;rw[<-aj];clear aj
         go_region_held3 (λw'=>ZD W1 w'/\w'.cell? ⟨wr.heap.size,0,none⟩=some (E J c1)/\w'.cell? ⟨wr.heap.size,1,none⟩=some (E J O)/\w'.cell? ⟨w.heap.size,1,none⟩=some (F (some ⟨oc,od,none⟩) ns oe)/\w'.cell? ⟨oc,od+k*3,none⟩=some (E J c1)/\w'.cell? ⟨oc,od+k*3+1,none⟩=some (E J r2))
                (first
                | exact⟨Zh _,p0,p1,t1,n1,n2⟩
                | (go_split_ands;refine⟨Ze (by assumption) z,Zc z (by assumption),Zc z (by assumption),Zc z (by assumption),Zc z (by assumption),Zc z (by assumption)⟩))
                (first|(go_at_call 110;go_split_ands;refine (CP _ (by assumption)).mono ?_;rintro e w' ⟨rfl,z⟩))
         rename_i hH;have bn:=Zb (Ze (Ze ad cb) hH.1);clear hH;go_wp2;go_ret2;exact Wl ak bn
       ·have km:(c1 == r1)=false:=by simp[q1]
        have ak:Hid ((x,M)=((6:Int),([]:List Zf))):=by
         have e:=PN (.inl (λe=>q1 (by injection e)));rw[Za HE] at e;obtain⟨rfl,_⟩:=aX e;exact HX.symm.trans (if_pos (by decide))
        clear HX;go_wp2_with fail;rw[<-aj];clear aj
        go_region_held3 (λw'=>ZD W1 w'/\w'.cell? ⟨wr.heap.size,0,none⟩=some (E J c1)/\w'.cell? ⟨wr.heap.size,1,none⟩=some (E J O)/\w'.cell? ⟨w.heap.size,1,none⟩=some (F (some ⟨oc,od,none⟩) ns oe)/\w'.cell? ⟨oc,od+k*3,none⟩=some (E J r1)/\w'.cell? ⟨oc,od+k*3+1,none⟩=some (E J r2))
               (first
               | exact⟨Zh _,p0,p1,t1,n1,n2⟩
               | (go_split_ands;refine⟨Ze (by assumption) z,Zc z (by assumption),Zc z (by assumption),Zc z (by assumption),Zc z (by assumption),Zc z (by assumption)⟩))
               (first|(go_at_call 110;go_split_ands;refine (CP _ (by assumption)).mono ?_;rintro e w' ⟨rfl,z⟩))
        rename_i hH;have bn:=Zb (Ze (Ze ad cb) hH.1);clear hH;go_wp2;go_ret2;exact Wl ak bn
      ·have fc:oh=(j:Int):=(by rw[<-hz,ax];simp);subst fc;have nb:¬((j:Int)<0):=(by omega);have kk:decide ((0:Int)<=(j:Int))=true:=by simp
       have ak:Hid ((x,M)=((6:Int),([]:List Zf))):=by
        have e:=PN (.inr (by rw[<-Qh (Za HP).1];exact fg));rw[Za HE] at e;obtain⟨rfl,_⟩:=aX e;exact HX.symm.trans (if_pos (by decide))
       clear HX;go_wp2_with fail;rw[<-aj];clear aj;have pl:=aC _ _ p0;have KS:Hid (∀ W,ZD W1 W->(λW=>ZD W1 W/\W.cell? ⟨wr.heap.size,0,none⟩=some (E J c1)/\W.cell? ⟨wr.heap.size,1,none⟩=some (E J O)/\wr.heap.size<W.heap.size) W):=λW hb=>⟨hb,Zc hb p0,Zc hb p1,Nat.lt_of_lt_of_le pl hb.size⟩;refine wp_region_held_drew (S:=λW=>ZD W1 W/\W.cell? ⟨wr.heap.size,0,none⟩=some (E J c1)/\W.cell? ⟨wr.heap.size,1,none⟩=some (E J O)/\wr.heap.size<W.heap.size) (by kernel_rfl) (KS _ (Zh _)) (λae=>?_);refine Zt 0 ⟨some 64,.move (.tmp 0),29, "second.go:132",#[],none⟩ ?_ rfl ?_ ae ?_;rotate_left
       ·(intro W da;go_simp;first|done|with_reducible rfl)
       (try simp only[aH,ZA,ZB,ZC]);refine Zt 1 ⟨some 65,.fieldAddr 103 (.tmp 14) 0,0, "second.go:132",#[],none⟩ ?_ rfl ?_ ae ?_;rotate_left
       ·(intro W da;go_simp;first|done|with_reducible rfl)
       (try simp only[aH,ZA,ZB,ZC]);refine Zt 2 ⟨some 66,.load 99 (.tmp 65),99, "second.go:132",#[⟨1,.data⟩],none⟩ ?_ rfl ?_ ae ?_;rotate_left
       ·(intro W da;go_simp;first|done|with_reducible rfl)
       (try simp only[aH,ZA,ZB,ZC]);refine wpAnyH_ready (rs:=[3]) (by kernel_rfl) (by simp) ?_;refine AllReadyH.cons (o:=⟨some 67,.call { callee:=Callee.value (.func 110),args:=#[.tmp 64,.tmp 66],argTypes:=#[29,99] },3, "second.go:132",#[⟨0,.data⟩,⟨2,.data⟩],none⟩) rfl (λK0 hK=>?_) AllReadyH.nil;refine Yr (by kernel_rfl) 110 #[F ra K.length rc,.agg #[E J c1,E J O]] (by kernel_rfl) (CP _ (Zh _)) ?_;rintro e W3 ⟨rfl,dr⟩;refine⟨_,rfl,?_⟩;have bd:=Zb (Ze (Zh W1) dr);refine hK.out _ _ (KS _ bd) (λgs=>?_);clear hK K0 ae;have ae:=gs;clear gs;(try simp only[aH,ZA,ZB,ZC]);refine Zt 4 ⟨some 68,.binOp BinOp.geq 3 (.tmp 67) (.const (Value.int IntKind.i64 0)) 3,4, "second.go:132",#[⟨3,.data⟩],none⟩ (eA true) rfl ?_ ae ?_
       ·(intro W da;go_simp;first|done|(rw[kk];done)|(simp;done))
       (try simp only[aH,ZA,ZB,ZC]);refine Zt 5 ⟨some 69,.move (.tmp 68),4, "second.go:132",#[⟨4,.data⟩,⟨3,.chain⟩],none⟩ ?_ rfl ?_ ae ?_;rotate_left
       ·(intro W da;go_simp;first|done|with_reducible rfl)
       (try simp only[aH,ZA,ZB,ZC]);refine wpAnyH_take (i:=6) (oi:=⟨some 70,.fieldAddr 103 (.tmp 14) 0,0, "second.go:132",#[⟨5,.guard⟩],some (5,false)⟩) (v:=dP) rfl (by kernel_rfl) (by kernel_rfl) (by kernel_rfl) (λ_ _ _ h=>h) (Or.inr ⟨by rfl,rfl⟩) ae ?_;(try simp only[aH,ZA,ZB,ZC]);refine wpAnyH_take (i:=7) (oi:=⟨some 71,.load 99 (.tmp 70),99, "second.go:132",#[⟨6,.data⟩,⟨5,.guard⟩],some (5,false)⟩) (v:=dP) rfl (by kernel_rfl) (by kernel_rfl) (by kernel_rfl) (λ_ _ _ h=>h) (Or.inr ⟨by rfl,rfl⟩) ae ?_;(try simp only[aH,ZA,ZB,ZC]);refine wpAnyH_take (i:=8) (oi:=⟨some 72,.fieldAddr 52 (.tmp 5) 1,0, "second.go:132",#[⟨5,.guard⟩],some (5,false)⟩) (v:=dP) rfl (by kernel_rfl) (by kernel_rfl) (by kernel_rfl) (λ_ _ _ h=>h) (Or.inr ⟨by rfl,rfl⟩) ae ?_;(try simp only[aH,ZA,ZB,ZC]);refine wpAnyH_take (i:=9) (oi:=⟨some 73,.load 49 (.tmp 72),49, "second.go:132",#[⟨8,.data⟩,⟨5,.guard⟩],some (5,false)⟩) (v:=dP) rfl (by kernel_rfl) (by kernel_rfl) (by kernel_rfl) (λ_ _ _ h=>h) (Or.inr ⟨by rfl,rfl⟩) ae ?_;(try simp only[aH,ZA,ZB,ZC]);refine wpAnyH_take (i:=10) (oi:=⟨some 74,.move (.tmp 13),3, "second.go:132",#[⟨5,.guard⟩],some (5,false)⟩) (v:=dP) rfl (by kernel_rfl) (by kernel_rfl) (by kernel_rfl) (λ_ _ _ h=>h) (Or.inr ⟨by rfl,rfl⟩) ae ?_;(try simp only[aH,ZA,ZB,ZC])
       refine wpAnyH_take (i:=11) (oi:=⟨some 75,.indexAddr 49 (.tmp 73) (.tmp 74),0, "second.go:132",#[⟨9,.data⟩,⟨10,.data⟩,⟨5,.guard⟩],some (5,false)⟩) (v:=dP) rfl (by kernel_rfl) (by kernel_rfl) (by kernel_rfl) (λ_ _ _ h=>h) (Or.inr ⟨by rfl,rfl⟩) ae ?_;(try simp only[aH,ZA,ZB,ZC]);refine wpAnyH_take (i:=12) (oi:=⟨some 76,.fieldAddr 124 (.tmp 75) 0,0, "second.go:132",#[⟨11,.data⟩,⟨5,.guard⟩],some (5,false)⟩) (v:=dP) rfl (by kernel_rfl) (by kernel_rfl) (by kernel_rfl) (λ_ _ _ h=>h) (Or.inr ⟨by rfl,rfl⟩) ae ?_;(try simp only[aH,ZA,ZB,ZC]);refine wpAnyH_take (i:=13) (oi:=⟨some 77,.load 99 (.tmp 76),99, "second.go:132",#[⟨12,.data⟩,⟨5,.guard⟩],some (5,false)⟩) (v:=dP) rfl (by kernel_rfl) (by kernel_rfl) (by kernel_rfl) (λ_ _ _ h=>h) (Or.inr ⟨by rfl,rfl⟩) ae ?_;(try simp only[aH,ZA,ZB,ZC]);refine wpAnyH_take (i:=14) (oi:=⟨some 78,.binOp BinOp.neq 99 (.tmp 71) (.tmp 77) 99,4, "second.go:132",#[⟨7,.data⟩,⟨13,.data⟩,⟨5,.guard⟩],some (5,false)⟩) (v:=dP) rfl (by kernel_rfl) (by kernel_rfl) (by kernel_rfl) (λ_ _ _ h=>h) (Or.inr ⟨by rfl,rfl⟩) ae ?_;(try simp only[aH,ZA,ZB,ZC]);refine Zt 15 ⟨some 79,.pick (.tmp 69) (.const (Value.bool true)) (.tmp 78),4, "second.go:132",#[⟨5,.data⟩,⟨14,.data⟩],none⟩ ?_ rfl ?_ ae ?_;rotate_left
       ·(intro W da;go_simp;first|done|with_reducible rfl)
       (try simp only[aH,ZA,ZB,ZC]);refine wpAnyH_done (by kernel_rfl) ?_ _;clear ae;have bn:=Zb (Ze (Ze ad cb) bd);go_wp2;go_ret2;exact Wl ak bn
     ·obtain rfl:k=ns:=(by omega);have e:=Za HE;rw[M6 (by rw[Za gj];exact aE _)] at e;obtain⟨e0,e1⟩:=aX e;subst e0 e1;have au:=Za HX;rw[if_neg (by decide)] at au;have gi:=Zb au;have ix:=Zb (Zcx ra K.length rc (K.map (·.1)) wr (by have:=Za ay;omega) bg im);clear HX au e bg cl;go_wp2_with fail;refine ix.mono ?_;rintro e w6 ⟨a6,c6,L6,rfl,ev,ko,ij,io,gw⟩;have e6:L6=G:=Ha io (ij.trans HP.1) HP.2;subst e6;have iv:=Zb (Qq a6 K.length c6 L6 x4 w6 ev H4);have jd:=Zb ev;have jn:=Zb (Ze ad gw);clear ij io gw ev;go_wp2_with fail;refine iv.mono ?_;rintro e w7 ⟨rfl,et⟩;have gg:=Zb (Ze jn et);have je:=Zb (jd.later et);clear et;by_cases e5:x4=0
      ·subst e5;have au:=Za gi;rw[if_neg (by decide)] at au;obtain⟨rfl,rfl⟩:=aX au;have jg:Hid (RvR w w7 0 L6 (dX (dY #[F a6 K.length c6,E J 0]))):=⟨a6,K.length,c6,rfl,Za je,ko,Za gg⟩;go_wp2;go_ret2;exact Za jg
      ·have g9:(x4 != 0)=true:=(by simp[e5]);have ak:Hid ((x,M)=((x4:Int),([]:List Zf))):=gi.symm.trans (if_pos e5);go_wp2;go_ret2;exact Wl ak gg
 ·have ak:=Zb (Zkm ci db (by rw[hS.1,hI.1];exact id) hx);have g0:((ns:Int) != (og:Int))=true:=by simp;omega
  have dh:=Zb dd;clear hL sL hI hO hS ci db hx bt dc dd;go_enter func90,ntmps90;go_wp2_with fail;rw[<-bs];clear bs;go_wp2;go_ret2;exact Wl ak dh
theorem Zdg{P:Program}{row:String}{args w}{R z:Value->World->Prop}{l n:Nat}(h:Rows P row args w R)(O:∀ v w',R v w'->z v w'):RowsIn (Fence.wide.inRound l) n P row args w z:=
 λc cs _=>let ⟨v,w',r,s⟩:=h c cs;⟨v,w',O _ _ r,stepsIn_wide.2 s⟩
theorem Zcu{l n:Nat}{P:Program}{ops}{Q:Exit->Act->World->Prop}{i:Nat}{K K':Act->World->Prop}{a w}
  (hd:∀ (i:Nat) (o:Oper),ops[i]? = some o->∀ c,o.op ≠ .defer c) (hL:¬LetsOut Q) (z:∀ a w,K a w->K' a w) (h:wpOp P ops Q i K a w):wpOpIn (Fence.wide.inRound l) n P ops Q i K' a w:=by
 unfold wpOp at h;unfold wpOpIn;cases ho:ops[i]? with
 | none=>simp only[ho] at h ⊢;exact z _ _ h
 | some o=>
  simp only[ho] at h ⊢;split at h
  ·rename_i hw;rw[if_pos hw]
   rcases h with h|h
   ·refine⟨λ_ _=>trivial,?_⟩;rw[Oper.semAt_plain _ _ _ (hd i o ho)];unfold Oper.wp at h;generalize (execOp a.eval o).run P w=res at *;cases res with
    | ok x w'=>
     cases x with
     | value v=>exact z _ _ h
     | skip=>exact z _ _ h
     | defer d=>exact z _ _ h
     | enter f args=>
      refine⟨λq=>(by cases q),?_⟩;have h2:Calls P f args w' _:=h;refine CallsIn.inRound l (callsIn_wide.2 (h2.mono λe ae O=>?_));cases e with
      | returned v=>exact z _ _ O
      | panicked c=>exact O
      | outgrown=>exact O
     | row row args=>exact⟨λq=>(by cases q),Zdg h (λv ae q=>z _ _ q)⟩
     | _=>exact False.elim h
    | halt x w'=>
     cases x with
     | panic v=>exact h
     | _=>exact False.elim h
   ·exact absurd h.2 hL
  ·rename_i hw;rw[if_neg hw];exact⟨λ_ _=>trivial,z _ _ h⟩
theorem Kc{l n:Nat}{P:Program}{md:Region.Mode}{ops}{Q:Exit->Act->World->Prop}(O:∀ (i:Nat) (o:Oper),ops[i]? = some o->∀ c,o.op ≠ .defer c)(z:¬LetsOut Q) :
  ∀ (fuel:Nat) (listed:Array Bool) (a:Act) (w:World),wpAny P md ops Q fuel listed a w->wpAnyIn (Fence.wide.inRound l) n P md ops Q fuel listed a w
 | 0,_,_,_,h=>h
 | fuel+1,_,_,_,h=>⟨h.1,λi hi=>Zcu O z (λa' w' h'=>Kc O z fuel _ a' w' h') (h.2 i hi)⟩
def Bz(ops:Array Oper):Bool:=ops.all λo=>match o.op with|.defer _=>false|_=>true
theorem Bx{ops}(h:Bz ops=true):∀ (i:Nat) (o:Oper),ops[i]? = some o->∀ c,o.op ≠ .defer c:=by
 intro i o z c e;unfold Bz at h;rw[Array.all_eq_true] at h;obtain⟨hi,rfl⟩:=Array.getElem?_eq_some_iff.1 z;have:=h i hi;rw[e] at this;exact Bool.noConfusion this
theorem Rg{l n:Nat}{P:Program}{z:Nat}{ops:Array Oper}{Q:Exit->Act->World->Prop}{S:World->Prop}{a}{w:World}(hm:P.follows .mixedOrders=true)(hd:Bz ops=true)(O:S w.drew)
  (h:S w.drew->wpAnyH P .any ops (λe a w=>e ≠ .outgrown/\Q e a w) S ops.size (Array.replicate ops.size false) a w.drew):(Code.region z ops true).wpIn (Fence.wide.inRound l) n P Q a w:=by
 have h1:=Kc (l:=l) (n:=n) (Bx hd) (λ⟨_,_,q⟩=>q.1 rfl) _ _ _ _ (wpAny_of_held _ _ _ _ (h O));have h2:(Code.region z ops true).wpIn (Fence.wide.inRound l) n P (λe a w=>e ≠ .outgrown/\Q e a w) a w:=wpIn_region_any hm h1;intro b k cs ae hb hr;obtain⟨e,a',w',q,r⟩:=h2 b k cs ae hb hr;exact⟨e,a',w',q.2,r⟩
