import Derived.Test.YtmomfkikogbdeaaGreatDoorH
import Derived.Test.YtmomfkikogbdeaaGreatDoorG31
open Go.Proofs.Tryz
open Classical renaming not_not->bV
open Go.Ending renaming returned->cS
open Go.IntKind renaming i64->J
open Go.Obj renaming cells->cR
open Go.Value renaming int->E,slice->F,tuple->cT,pointer->cU,bool->cV
open List renaming take_succ_eq_append_getElem->aV,take_of_length_le->aN,length_eq_zero_iff->aG,mem_cons->bB,drop_eq_getElem_cons->aL,length_take->bJ,getElem_mem->aX
open Nat renaming le_refl->aF,zero_le->aM,lt_of_lt_of_le->aC
set_option maxHeartbeats 12800000
set_option maxRecDepth 10000
namespace Go.Proofs.YtmomfkikogbdeaaGreatDoor.Tr
open Go.RowKit
theorem below_dn(w:World)(n:Nat):ZD w (w.drewN n):=⟨rfl,rfl,rfl,aF _,λ_ _=>rfl⟩
theorem J0{α : Type}{L M:List α}{j:Nat}(h1:j<L.length)(h2:j<M.length)(h:L.take j=M.take j)(e:L[j]=M[j]):L.take (j+1)=M.take (j+1):=by
 rw[aV h1,aV h2,h,e]
theorem Th{α : Type}{L M:List α}{j:Nat}(h1:j<L.length)(h2:j<M.length)(e:L[j]≠M[j]):L≠M:=by
 intro h;subst h;exact e rfl
theorem R8(b off b2 an n c d:Nat)(L M:List Int)(o:Bool)(w:World)(hn:n<=maxLen)(hz:L.length=n)(am:M.length=n)
  (hc:∀ i (h:i<L.length),w.cell? ⟨b,off+i,none⟩=some (E J L[i])) (ah:∀ i (h:i<M.length),w.cell? ⟨b2,an+i,none⟩=some (E J M[i])) (ho:decide (L=M)=o) :
  ZH 38 #[F (some ⟨b,off,none⟩) n c,F (some ⟨b2,an,none⟩) n d] w (cV o):=by
 have HC:=Zd hc;have aq:=Zd ah;have HZ:=Zd hz;have ae:=Zd am;have HO:=Zd ho;have g0:((n:Int) != (n:Int))=false:=by simp
 unfold maxLen at hn;clear hc ah hz am ho;go_enter func38,ntmps38;go_wp2
 go_loopw [13] (λi wr=>∃ j m:Nat,j<=n/\i = E J j/\wr=w.drewN m/\Hid (L.take j=M.take j)) (λi _=>n - (intOf i).toNat)
 case atStart=>exact⟨0,0,aM _,rfl,rfl,rfl⟩
 case round=>
  obtain⟨j,m,hk,rfl,rfl,A⟩:=hrel;by_cases aj:j<n
  ·have h1:j<L.length:=(by rw[Za HZ];exact aj);have h2:j<M.length:=(by rw[Za ae];exact aj);have f1:=HC j h1;have f2:=aq j h2;have z:=Zd (J0 h1 h2 A);have Q:=Zd (Th h1 h2);obtain⟨s,hs⟩:=ZF (L[j]);obtain⟨t,ht⟩:=ZF (M[j]);rw[hs] at f1;rw[ht] at f2;rw[hs,ht] at z Q;clear hs ht A;by_cases e:s=t
   ·subst e;have R:=Zd (z rfl);have g:(s != s)=false:=(by simp);clear z Q;go_wp2
    go_quiet (fail)
    go_wp2;go_roundw
    case rel=>exact⟨j+1,m+nq,by omega,by go_num,rfl,R⟩
    case measure=>simp[intOf];omega
   ·have R:Hid (o=false):=(by show _=_;rw[<-Za HO];exact decide_eq_false (Q e));have g:(s != t)=true:=(by simp[e]);clear z Q;go_wp2
    go_quiet (fail)
    go_wp2;go_ret;exact⟨by rw[Za R];rfl,by simp only[World.drewN_drewN];exact below_dn _ _⟩
  ·have R:Hid (o=true):=by
    have h:=Za A;rw[aN (by rw[Za HZ];omega),aN (by rw[Za ae];omega)] at h;show _=_;rw[<-Za HO];exact decide_eq_true h
   clear A;go_wp2;go_ret;exact⟨by rw[Za R];rfl,below_dn _ _⟩
theorem R7(a z c d)(w:World) :
  ZH 38 #[F a 0 c,F z 0 d] w (cV true):=by
 go_enter func38,ntmps38;go_wp2;refine wp_loop_rounds 1 ?_;rw[rounds_succ];go_wp2;go_ret;exact⟨rfl,Below.refl _ _⟩
theorem Sz(a z)(n m c d:Nat)(w:World)(h:n≠m) :
  ZH 38 #[F a n c,F z m d] w (cV false):=by
 have g:((n:Int) != (m:Int))=true:=by simp;omega
 go_enter func38,ntmps38;go_wp2;go_ret;exact⟨rfl,Below.refl _ _⟩
theorem eqInt_is(a z)(n m c d:Nat)(L M)(o:Bool)(w:World)(hn:n<=maxLen)(h:IntsAt w a n L)(h2:IntsAt w z m M)(ho:decide (L=M)=o) :
  ZH 38 #[F a n c,F z m d] w (cV o):=by
 by_cases e:n=m
 ·subst e;by_cases h0:n=0
  ·subst h0;have e1:L=[]:=aG.1 h.1;have Q:M=[]:=aG.1 h2.1;subst e1 Q;have:o=true:=(by rw[<-ho];rfl);subst this;exact R7 a z c d w
  ·obtain⟨b,off,rfl,_,hc⟩:=h.2 (by omega);obtain⟨b2,ag,rfl,_,ae⟩:=h2.2 (by omega);exact R8 b off b2 ag n c d L M o w hn h.1 h2.1 hc ae ho
 ·have:o=false:=by
   rw[<-ho];exact decide_eq_false (λQ=>e (by rw[<-h.1,<-h2.1,Q]))
  subst this;exact Sz a z n m c d w e
theorem best_is(a b n c m d N T)(de x:Int)(w:World)(hN:IntsAt w a n N)(hT:BlksAt w b m T)(sN:SlOk a n c)(sT:SlOk b m d)(hx:bstD N T=(de,x)) :
  ZH 163 #[.agg #[F a n c,F b m d]] w (cT #[E J de,E J x]):=by
 obtain⟨X,hX⟩:=ZG (w.alloc (cR #[F a n c,F b m d] 28));have ab:ZD w X:=by rw[hX];exact Zh _ _
 have ag:X.heap[w.heap.size]? = some (cR [F a n c,F b m d].toArray 28 (0,0)):=by rw[hX];exact Yu _ _ _ _
 have HB:=Zd ab;have bg:=Zd ag;obtain⟨y,hy⟩:=ZF (chkTr N T);have C1:=Zd (Ve a b n c m d N T y X (hN.later ab) (hT.later ab) sN sT hy);have x0:=Zb ag 0 _ rfl;have x1:=Zb ag 1 _ rfl;have xl:=lt_of_block ag;unfold bstD at hx;rw[hy] at hx;by_cases q:y=0
 ·subst q;rw[if_neg (by simp)] at hx;obtain⟨hl,h24,hH,_⟩:=Xy hy;obtain rfl:n=m:=by rw[<-hN.1,<-hT.1,hl]
  have db:n<=24:=by rw[<-hN.1];exact h24
  have ax:n<=maxLen:=sN.len;obtain⟨hz,rfl⟩:bstGo N T 0 0 N=de/\0=x:=⟨congrArg Prod.fst hx,congrArg Prod.snd hx⟩;have HN:=Zd (hN.later ab);have bi:=Zd hN.1;have HH:=Zd hH;have CP:=Zd (λs P pn W (hb:ZD X W) (h1:Wv N T s=P) (h2:P.length=pn)=>Mg a b n c d N T s P pn W ax (hN.later (Zf ab hb)) (hT.later (Zf ab hb)) hH h1 h2);have CW:=Zd (λpa pc pn P v W (hb:ZD X W) (av:IntsAt W pa pn P) (aq:pn<=1000) (hv:Xw N T 0 P=v)=>L3 a b pa n c d pn pc N T P v W ax (hN.later (Zf ab hb)) (hT.later (Zf ab hb)) av aq hH hv);have HZ:Hid (bstGo N T 0 0 (N.drop 0)=de):=hz;clear ab ag hN hT sN sT hx hy hl h24 hH ax hz;go_enter func163,ntmps163;go_wp2_with fail;rw[<-hX];clear hX;refine C1.mono ?_;rintro e w1 ⟨rfl,ah⟩;have hc:=ZE ah bg;have t0:=Zb hc 0 _ rfl;have tl:=lt_of_block hc;have au:=Zd ah;clear ah x0 x1 xl hc C1;go_wp2
  go_loopw [5,6,18] (λbv mv i wr=>∃ (k:Nat) (z mm:Int),k<=n/\bv = E J z/\mv = E J mm/\i = E J k/\Hid (bstGo N T z mm (N.drop k)=de)/\Hid (ZD X wr)) (λ_ _ i _=>n - (intOf i).toNat)
  case atStart=>exact⟨0,0,0,aM _,rfl,rfl,rfl,HZ,au⟩
  case round=>
   obtain⟨k,z,mm,hk,rfl,rfl,rfl,A,ae⟩:=hrel;clear t0 tl HZ;by_cases cm:k<n
   ·have h1:k<N.length:=(by rw[Za bi];exact cm);obtain⟨b1,dc,rfl,bq,bk⟩:=HN.2 (by omega);have f1:=Ze ae (bk k h1);have AT:=Zd (Zii N T z mm N k h1);obtain⟨s,hs⟩:=ZF (N[k]);rw[hs] at f1 AT;have ll:=aC bq ae.size;have ap:=ZE ae bg;have t0:=Zb ap 0 _ rfl;have t1:=Zb ap 1 _ rfl;have tl:=lt_of_block ap;obtain⟨P,hP⟩:=ZF (Wv N T s);obtain⟨pn,ay⟩:=ZF (P.length);obtain⟨v,hv⟩:=ZF (Xw N T 0 P);have bu:Y1 N T s=v:=(by unfold Y1;rw[hP,hv]);rw[bu] at AT;have aq:pn<=1000:=(by rw[<-ay,<-hP];exact Gg HH s);have CC:=Zd (CP s P pn wr.drew (Zf ae (Zi _)) hP ay);have CV:=Zd (λpa pc W hb av=>CW pa pc pn P v W hb av aq hv);have da:(k:Int)<(n:Int):=(by omega);clear bk ap hs hP ay hv bu bq aq;go_wp2_with fail
    go_region_with (first
     | (go_at_call 131;refine CC.mono ?_;rintro e w5 ⟨vv,rfl,br,aj⟩;obtain⟨pa,pc,rfl,_,bs⟩:=Ur br;have e0:=Ze aj (Ze (Zi _) t0);have e1:=Ze aj (Ze (Zi _) t1);have el:=aC tl aj.size;have H5:=Zd (Zf ae (Zf (Zi _) aj));have C5:=Zd (CV pa pc _ H5 bs);clear br bs aj)
     | (go_at_call 102;refine C5.mono ?_;rintro e w6 ⟨rfl,bj⟩;have H6:=Zd (Zf H5 bj);clear bj C5 H5))
    all_goals
     by_cases q1:mm<v
     ·have R:Hid (bstGo N T s v (N.drop (k+1))=de):=(by show _=_;rw[<-Za A,Za AT,if_pos (.inl q1)]);clear A AT;go_wp2;go_roundw
      case rel=>exact⟨k+1,s,v,by omega,rfl,rfl,by go_num,R,H6⟩
      case measure=>simp[intOf];omega
     ·by_cases q2:v=mm
      ·subst q2;by_cases q3:s<z
       ·have R:Hid (bstGo N T s v (N.drop (k+1))=de):=(by show _=_;rw[<-Za A,Za AT,if_pos (.inr ⟨rfl,q3⟩)]);clear A AT;go_wp2;go_roundw
        case rel=>exact⟨k+1,s,v,by omega,rfl,rfl,by go_num,R,H6⟩
        case measure=>simp[intOf];omega
       ·have R:Hid (bstGo N T z v (N.drop (k+1))=de):=by
         show _=_;rw[<-Za A,Za AT,if_neg (by omega)]
        clear A AT;go_wp2;go_roundw
        case rel=>exact⟨k+1,z,v,by omega,rfl,rfl,by go_num,R,H6⟩
        case measure=>simp[intOf];omega
      ·have R:Hid (bstGo N T z mm (N.drop (k+1))=de):=by
        show _=_;rw[<-Za A,Za AT,if_neg (by omega)]
       have g2:(v == mm)=false:=(by simp[q2]);clear A AT q2;go_wp2;go_roundw
       case rel=>exact⟨k+1,z,mm,by omega,rfl,rfl,by go_num,R,H6⟩
       case measure=>simp[intOf];omega
   ·have R:Hid (z=de):=(by show _=_;rw[<-Za A,Zep N T z mm N k (by rw[Za bi];omega)]);have ce:=Zd (Zf HB ae);clear A;go_wp2;go_ret2;exact⟨by rw[<-Za R];rfl,Za ce⟩
 ·rw[if_pos q] at hx;obtain⟨rfl,rfl⟩:0=de/\y=x:=⟨congrArg Prod.fst hx,congrArg Prod.snd hx⟩;have g:(y != 0)=true:=by simp[q]
  clear ab ag hN hT sN sT hy hx q;go_enter func163,ntmps163;go_wp2_with fail;rw[<-hX];clear hX;refine C1.mono ?_;rintro e w1 ⟨rfl,ah⟩;have au:=Zd (Zf HB ah);clear ah x0 x1 xl;go_wp2;go_ret2;exact⟨rfl,Za au⟩
theorem fnd_out{N:List Int}{T:List Zl}{x:Int}(z:N.length=T.length)(h:x∉N):fnd x N T=Yf:=by
 rcases Tw x N T 0 z with ⟨_,_,h3⟩|⟨i,hi,_,h2,_⟩
 ·exact h3
 ·exact absurd h2 h
theorem nextD_ok{N T}{x:Int}{b:Zl}(h:nextD N T x b=0):(1<=x/\x<=120)/\Ym b=0/\x∉N/\(b.1=0\/b.1∈N)/\b.2.1=(fnd b.1 N T).2.1+1:=by
 unfold nextD at h;split at h
 ·cases h
 ·next q1=>
  split at h
  ·next q2=>exact absurd h q2
  ·next q2=>
   split at h
   ·cases h
   ·next q3=>
    split at h
    ·cases h
    ·next q4=>
     split at h
     ·cases h
     ·next q5=>
      refine⟨by simpa using q1,bV.1 q2,by simpa using q3,?_,bV.1 q5⟩;by_cases e:b.1=0
      ·exact .inl e
      ·right
       by_cases z:b.1∈N
       ·exact z
       ·exact absurd ⟨e,by simp[z]⟩ q4
theorem Zgr{N T}{x:Int}{b:Zl}(h1:1<=x/\x<=120)(h2:Ym b=0)(h3:x∉N)(h4:b.1=0\/b.1∈N)(h5:b.2.1=(fnd b.1 N T).2.1+1):nextD N T x b=0:=by
 unfold nextD
 rw[if_neg (by simp[h1]),if_neg (by simp[h2]),if_neg (by simp[h3]),if_neg (by
  rintro ⟨e,z⟩
  rcases h4 with h|h
  ·exact e h
  ·simp[h] at z),if_neg (by simp[h5])]
theorem Zds{N M:List Int}{T U:List Zl}{y:Int}:N.length=T.length->y∈N->fnd y (N++M) (T++U)=fnd y N T:=by
 induction N generalizing T with
 | nil=>intro _ h;cases h
 | cons a N ih=>
  intro z h;cases T with
  | nil=>cases z
  | cons b T=>
   simp only[List.cons_append,fnd];by_cases e:y=a
   ·simp[e]
   ·rw[if_neg e,if_neg e];refine ih (by simpa using z) ?_
    rcases bB.1 h with h|h
    ·exact absurd h e
    ·exact h
theorem fnd_app_r{N M:List Int}{T U:List Zl}{y:Int}:N.length=T.length->y∉N->fnd y (N++M) (T++U)=fnd y M U:=by
 induction N generalizing T with
 | nil=>
  intro z _;cases T with
  | nil=>rfl
  | cons _ _=>cases z
 | cons a N ih=>
  intro z h;cases T with
  | nil=>cases z
  | cons b T=>
   simp only[List.cons_append,fnd];rw[if_neg (λe=>h (by simp[e]))];exact ih (by simpa using z) (λq=>h (by simp[q]))
theorem Zkt(x:Int)(b:Zl):fnd x [x] [b]=b:=by simp[fnd]
structure TrOk(N:List Int)(T:List Zl):Prop where
 len:N.length=T.length
 nd:N.Nodup
 nm:∀ x∈N,1<=x/\x<=120
 par:∀ x∈N,(fnd x N T).1=0\/(fnd x N T).1∈N
 hgt:∀ x∈N,(fnd x N T).2.1=(fnd (fnd x N T).1 N T).2.1+1
 chk:∀ b∈T,Ym b=0
theorem TrOk.nil:TrOk [] []:=⟨rfl,List.nodup_nil,λ_ h=>(by cases h),λ_ h=>(by cases h),λ_ h=>(by cases h),λ_ h=>(by cases h)⟩
theorem TrOk.zero{N T}(h:TrOk N T):(0:Int)∉N:=λq=>by have:=(h.nm 0 q).1;omega
theorem TrOk.heads{N T}(h:TrOk N T):Y9 T:=λb z=>chkB_head (h.chk b z)
theorem TrOk.same{N T}{x:Int}{b:Zl}(h:TrOk N T)(hx:1<=x){y:Int}(z:y=0\/y∈N):fnd y (N++[x]) (T++[b])=fnd y N T:=by
 by_cases e:y∈N
 ·exact Zds h.len e
 ·have Q:y=0:=by rcases z with q|q;exact q;exact absurd q e
  rw[fnd_app_r h.len e,fnd_out h.len e];unfold fnd;rw[if_neg (by omega)];unfold fnd;rfl
theorem TrOk.new{N T}{x:Int}{b:Zl}(h:TrOk N T)(hx:x∉N):fnd x (N++[x]) (T++[b])=b:=by
 rw[fnd_app_r h.len hx,Zkt]
theorem TrOk.add{N T}{x:Int}{b:Zl}(h:TrOk N T)(hn:nextD N T x b=0):TrOk (N++[x]) (T++[b]):=by
 obtain⟨h1,h2,h3,h4,h5⟩:=nextD_ok hn;refine⟨by simp[h.len],?_,λy z=>?_,λy z=>?_,λy z=>?_,λc Q=>?_⟩
 ·rw[List.nodup_append];exact⟨h.nd,by simp,λa ha c Q=>by rw[List.mem_singleton.1 Q];exact λe=>h3 (e ▸ ha)⟩
 ·rcases List.mem_append.1 z with q|q
  ·exact h.nm y q
  ·rw[List.mem_singleton.1 q];exact h1
 ·rcases List.mem_append.1 z with q|q
  ·rw[h.same h1.1 (.inr q)]
   rcases h.par y q with e|e
   ·exact .inl e
   ·exact .inr (by simp[e])
  ·rw[List.mem_singleton.1 q,h.new h3]
   rcases h4 with e|e
   ·exact .inl e
   ·exact .inr (by simp[e])
 ·rcases List.mem_append.1 z with q|q
  ·rw[h.same h1.1 (.inr q),h.same h1.1 (h.par y q)];exact h.hgt y q
  ·rw[List.mem_singleton.1 q,h.new h3,h.same h1.1 h4];exact h5
 ·rcases List.mem_append.1 Q with q|q
  ·exact h.chk c q
  ·rw[List.mem_singleton.1 q];exact h2
theorem Ky:∀ (M:List Int) (U:List Zl) (N:List Int) (T:List Zl),M.length=U.length->TrOk N T->Xc N T M U=0->TrOk (N++M) (T++U)
 | [],[],N,T,_,h,_=>by simpa using h
 | [],_ :: _,_,_,h,_,_=>by cases h
 | _ :: _,[],_,_,h,_,_=>by cases h
 | x :: M,b :: U,N,T,hl,h,hc=>by
  rw[Xc] at hc;split at hc
  ·next q=>exact absurd hc q
  ·next q=>
   have:=Ky M U _ _ (by simpa using hl) (h.add (bV.1 q)) hc;simpa using this
theorem TrOk.of{N T}(h:chkTr N T=0):TrOk N T:=by
 obtain⟨h1,_,_,h4⟩:=Xy h;simpa using Ky N T [] [] h1 TrOk.nil h4
theorem Kz:∀ (M:List Int) (U:List Zl) (N:List Int) (T:List Zl) (x:Int) (b:Zl),M.length=U.length->Xc N T M U=0->nextD (N++M) (T++U) x b=0->Xc N T (M++[x]) (U++[b])=0
 | [],[],N,T,x,b,_,_,h=>by
  rw[List.append_nil,List.append_nil] at h;simp[Xc,h]
 | [],_ :: _,_,_,_,_,h,_,_=>by cases h
 | _ :: _,[],_,_,_,_,h,_,_=>by cases h
 | y :: M,c :: U,N,T,x,b,h,hc,hn=>by
  rw[Xc] at hc;split at hc
  ·next q=>exact absurd hc q
  ·next q=>
   rw[List.cons_append,List.cons_append,Xc,if_neg q];exact Kz M U _ _ x b (by simpa using h) hc (by simpa using hn)
theorem chkTr_snoc{N:List Int}{T}{x:Int}{b:Zl}(h:chkTr N T=0)(z:nextD N T x b=0)(Q:N.length≠24):chkTr (N++[x]) (T++[b])=0:=by
 obtain⟨h1,h2,_,h4⟩:=Xy h;unfold chkTr;rw[if_neg (by simp[h1]),if_neg (by simp;omega)];exact Kz N T [] [] x b h1 h4 (by simpa using z)
theorem TrOk.up{N T}(h:TrOk N T)(y:Int):(fnd y N T).1=0\/(fnd y N T).1∈N:=by
 by_cases e:y∈N
 ·exact h.par y e
 ·rw[fnd_out h.len e];exact .inl rfl
theorem TrOk.upD_same{N T}{x:Int}{b:Zl}(h:TrOk N T)(hx:1<=x):∀ (d:Nat) (y:Int),(y=0\/y∈N)->upD (N++[x]) (T++[b]) d y=upD N T d y
 | 0,_,_=>rfl
 | d+1,y,hy=>by
  rw[upD,upD,h.same hx hy,h.upD_same hx d _ (h.up y)]
theorem TrOk.pth_same{N T}{x:Int}{b:Zl}(h:TrOk N T)(hx:1<=x){y:Int}(z:y=0\/y∈N):Wv (N++[x]) (T++[b]) y=Wv N T y:=by
 unfold Wv;rw[h.same hx z,h.upD_same hx _ y z]
theorem TrOk.pth_new{N T}{x:Int}{b:Zl}(h:TrOk N T)(z:nextD N T x b=0):Wv (N++[x]) (T++[b]) x=Wv N T b.1++[x]:=by
 obtain⟨h1,h2,h3,h4,h5⟩:=nextD_ok z;unfold Wv;have h0:=(Jo h.heads b.1 N).1;rw[h.new h3,h5,show ((fnd b.1 N T).2.1+1).toNat=(fnd b.1 N T).2.1.toNat+1 by omega,upD,h.new h3,h.upD_same h1.1 _ b.1 h4]
theorem TrOk.up_mem{N T}(h:TrOk N T):∀ (d:Nat) (y:Int),(y=0\/y∈N)->∀ z∈upD N T d y,z=0\/z∈N
 | 0,_,_,z,hz=>by cases hz
 | d+1,y,hy,z,hz=>by
  rw[upD] at hz
  rcases List.mem_append.1 hz with q|q
  ·exact h.up_mem d _ (h.up y) z q
  ·rw[List.mem_singleton.1 q];exact hy
theorem TrOk.wk_same{N T}{x:Int}{b:Zl}(h:TrOk N T)(hx:1<=x):∀ (P:List Int) (s:Int),(∀ z∈P,z=0\/z∈N)->Xw (N++[x]) (T++[b]) s P=Xw N T s P
 | [],_,_=>rfl
 | y :: P,s,hP=>by
  rw[Xw,Xw,h.same hx (hP y (by simp)),h.wk_same hx P _ (λz Q=>hP z (by simp[Q]))]
theorem Zew(N T):∀ (P Q:List Int) (s:Int),Xw N T s (P++Q)=Xw N T (Xw N T s P) Q
 | [],_,_=>rfl
 | y :: P,Q,s=>by rw[List.cons_append,Xw,Xw,Zew N T P Q]
theorem TrOk.wrk_same{N T}{x:Int}{b:Zl}(h:TrOk N T)(hx:1<=x){y:Int}(z:y=0\/y∈N):Y1 (N++[x]) (T++[b]) y=Y1 N T y:=by
 unfold Y1;rw[h.pth_same hx z];exact h.wk_same hx (Wv N T y) 0 (h.up_mem _ y z)
theorem TrOk.wrk_new{N T}{x:Int}{b:Zl}(h:TrOk N T)(z:nextD N T x b=0):Y1 (N++[x]) (T++[b]) x=Y1 N T b.1+b.2.2.1:=by
 obtain⟨h1,h2,h3,h4,h5⟩:=nextD_ok z;unfold Y1;rw[h.pth_new z,Zew,h.wk_same h1.1 (Wv N T b.1) 0 (h.up_mem _ b.1 h4),Xw,Xw,h.new h3]
def Vn(N:List Int)(T:List Zl)(q:Int×Int)(P:List Int):Int×Int:=P.foldl (λq x=>if q.2<Y1 N T x\/Y1 N T x=q.2/\x<q.1 then (x,Y1 N T x) else q) q
theorem Gj(N T):∀ (P:List Int) (b m:Int),bstGo N T b m P=(Vn N T (b,m) P).1
 | [],_,_=>rfl
 | x :: P,b,m=>by
  rw[bstGo];unfold Vn;rw[List.foldl_cons];split
  ·rw[Gj N T P];rfl
  ·rw[Gj N T P];rfl
theorem Se(N T):∀ (P:List Int) (q:Int×Int),q.2=Y1 N T q.1->(Vn N T q P).2=Y1 N T (Vn N T q P).1
 | [],_,h=>h
 | x :: P,q,h=>by
  unfold Vn;rw[List.foldl_cons];split
  ·exact Se N T P _ rfl
  ·exact Se N T P _ h
theorem Sf(N T):∀ (P:List Int) (q:Int×Int),(Vn N T q P).1=q.1\/(Vn N T q P).1∈P
 | [],_=>.inl rfl
 | x :: P,q=>by
  unfold Vn;rw[List.foldl_cons];split
  ·rcases Sf N T P (x,Y1 N T x) with h|h
   ·exact .inr (by unfold Vn at h;rw[h];simp)
   ·exact .inr (by unfold Vn at h;simp[h])
  ·rcases Sf N T P q with h|h
   ·exact .inl h
   ·exact .inr (by unfold Vn at h;simp[h])
theorem Mx{N T}{x:Int}{b:Zl}(h:TrOk N T)(hx:1<=x):∀ (P:List Int) (q:Int×Int),(∀ z∈P,z∈N)->Vn (N++[x]) (T++[b]) q P=Vn N T q P
 | [],_,_=>rfl
 | y :: P,q,hP=>by
  have e:=h.wrk_same (b:=b) hx (.inr (hP y (by simp)));have r:=λq=>Mx (b:=b) h hx P q (λz Q=>hP z (by simp[Q]));unfold Vn at r ⊢;rw[List.foldl_cons,List.foldl_cons,e];split
  ·exact r _
  ·exact r _
theorem TrOk.wrk_zero{N T}(h:TrOk N T):Y1 N T 0=0:=by
 unfold Y1 Wv;rw[fnd_out h.len h.zero];rfl
theorem best_more{N T}{x:Int}{b:Zl}(h:TrOk N T)(hn:nextD N T x b=0)(m n:Int)(hm:bstGo N T 0 0 N=m)(z:bstGo (N++[x]) (T++[b]) 0 0 (N++[x])=n) :
  (m=0\/m∈N)/\(n=m\/n=x)/\(n=0\/n∈N++[x])/\Y1 N T m<=Y1 (N++[x]) (T++[b]) n/\Y1 (N++[x]) (T++[b]) x<=Y1 (N++[x]) (T++[b]) n:=by
 obtain⟨h1,h2,h3,h4,h5⟩:=nextD_ok hn;rw[Gj] at hm z
 have e:Vn (N++[x]) (T++[b]) (0,0) (N++[x])=Vn (N++[x]) (T++[b]) (Vn N T (0,0) N) [x]:=by
  have:=Mx (b:=b) h h1.1 N (0,0) (λaj hz=>hz);unfold Vn at this ⊢;rw[List.foldl_append,this]
 have hw:=Se N T N (0,0) h.wrk_zero.symm;have ab:=Sf N T N (0,0);rw[e] at z;obtain⟨mm,hq⟩:∃ mm,Vn N T (0,0) N=(m,mm):=⟨_,Prod.ext hm rfl⟩;rw[hq] at hw ab z;simp only at hw ab;have Q:m=0\/m∈N:=ab;have ad:=h.wrk_same (b:=b) h1.1 Q;unfold Vn at z;rw[List.foldl_cons,List.foldl_nil] at z;simp only at z;split at z
 ·next q=>
  have:x=n:=z;subst this;refine⟨Q,.inr rfl,.inr (by simp),?_,Int.le_refl _⟩;rw[hw] at q;omega
 ·next q=>
  have:m=n:=z;subst this;refine⟨Q,.inl rfl,?_,by rw[ad];exact Int.le_refl _,?_⟩
  ·rcases Q with q|q
   ·exact .inl q
   ·exact .inr (by simp[q])
  ·rw[ad];rw[hw] at q;omega
theorem addE_ok{N:List Int}{T}{x:Int}{b:Zl}{N' T'}(h:addE N T x b=(N',T',0)):chkTr N T=0/\nextD N T x b=0/\N.length≠24/\N'=N++[x]/\T'=T++[b]:=by
 unfold addE at h;split at h
 ·next q=>exact absurd (congrArg (·.2.2) h) q
 ·next q=>
  split at h
  ·next q2=>exact absurd (congrArg (·.2.2) h) q2
  ·next q2=>
   split at h
   ·next q3=>have:=congrArg (·.2.2) h;simp at this
   ·next q3=>exact⟨bV.1 q,bV.1 q2,q3,(congrArg (·.1) h).symm,(congrArg (·.2.1) h).symm⟩
theorem Hl{N T}{y:Int}(h:chkTr N T=0)(Q:y=0\/y∈N):Qb N T y=(Wv N T y,0):=by
 unfold Qb
 rw[if_neg (by simp[h]),if_neg (by
  rintro ⟨e,z⟩
  rcases Q with q|q
  ·exact e q
  ·simp[q] at z)]
theorem workE_mk{N T}{y:Int}(h:chkTr N T=0)(z:y=0\/y∈N):workE N T y=(Y1 N T y,0):=by
 unfold workE;rw[Hl h z,if_neg (by simp)];rfl
theorem Zba{N T}(h:chkTr N T=0):bstD N T=(bstGo N T 0 0 N,0):=by
 unfold bstD;rw[if_neg (by simp[h])]
theorem Zlx{N T}(z:Y9 T)(y:Int):0<=Y1 N T y/\Y1 N T y<=1000000:=by
 have h1:=Dj z (Wv N T y) 0 (N:=N);have h2:=Gg (N:=N) z y;unfold Y1;omega
theorem grow_facts{N:List Int}{T}{x:Int}{b:Zl}{N':List Int}{T'}(h:addE N T x b=(N',T',0)) :
  ∃ m n v u own up P,bstD N T=(m,0)/\bstD N' T'=(n,0)/\workE N T m=(v,0)/\workE N' T' n=(u,0)/\Qb N T b.1=(P,0)/\Qb N' T' x=(P++[x],0)/\workE N' T' x=(own,0)/\workE N T b.1=(up,0) /\
   v<=u/\own<=u/\own=up+b.2.2.1/\(n=m\/n=x)/\0<=up/\up<=1000000/\1<=b.2.2.1/\b.2.2.1<=1000/\P.length<=1000/\N'.take N.length=N/\N'.length=N.length+1:=by
 obtain⟨h1,h2,h3,rfl,rfl⟩:=addE_ok h;have ok:=TrOk.of h1;obtain⟨g1,g2,g3,Q,g5⟩:=nextD_ok h2;have z:=chkTr_snoc h1 h2 h3;obtain⟨f1,f2,f3,f4,f5⟩:=best_more ok h2 _ _ rfl rfl;have hb:=chkB_head g2;have hw:=Zlx (N:=N) ok.heads b.1;refine⟨_,_,_,_,_,_,_,Zba h1,Zba z,workE_mk h1 f1,workE_mk z f3,Hl h1 Q,by rw[Hl z (.inr (by simp)),ok.pth_new h2],workE_mk z (.inr (by simp)),workE_mk h1 Q,f4,f5,ok.wrk_new h2,f2,hw.1,hw.2,hb.2.2.1,hb.2.2.2,Gg ok.heads b.1,by simp,by simp⟩
theorem Nh:∀ (U N:List Int),U.Nodup->(∀ x∈U,x∈N)->U.length<=N.length
 | [],_,_,_=>aM _
 | x :: U,N,h,hs=>by
  have hx:x∈N:=hs x (by simp);have z:=List.nodup_cons.1 h;have h1:=Nh U (N.erase x) z.2 (λy Q=>(List.mem_erase_of_ne (λ(e:y=x)=>z.1 (e ▸ Q))).2 (hs y (by simp[Q])));rw[List.length_erase_of_mem hx] at h1;have:0<N.length:=List.length_pos_of_mem hx;simp only[List.length_cons];omega
theorem K5:∀ (M:List Int) (U:List Zl) (N:List Int) (T:List Zl),M.length=U.length->Xc N T M U=0->∀ i (h:i<M.length) (h':i<U.length),nextD (N++M.take i) (T++U.take i) M[i] U[i]=0
 | [],_,_,_,_,_,_,h,_=>absurd h (by simp)
 | _ :: _,[],_,_,h,_,_,_,_=>by cases h
 | x :: M,b :: U,N,T,hl,hc,0,_,_=>by
  rw[Xc] at hc;split at hc
  ·next q=>exact absurd hc q
  ·next q=>simpa using bV.1 q
 | x :: M,b :: U,N,T,hl,hc,i+1,h,h'=>by
  rw[Xc] at hc;split at hc
  ·next q=>exact absurd hc q
  ·next q=>
   have:=K5 M U _ _ (by simpa using hl) hc i (by simpa using h) (by simpa using h');simpa using this
theorem ahead{N:List Int}{T:List Zl}(hc:chkTr N T=0)(i:Nat)(h:i<N.length)(h':i<T.length):fnd N[i] N T=T[i]/\(T[i].1=0\/T[i].1∈N.take i):=by
 obtain⟨hl,_,_,ab⟩:=Xy hc;have h1:=K5 N T [] [] hl ab i h h';simp only[List.nil_append] at h1;obtain⟨_,_,q3,q4,_⟩:=nextD_ok h1;refine⟨?_,q4⟩;have z:N=N.take i++(N[i] :: N.drop (i+1)):=by rw[<-aL h,List.take_append_drop]
 have Q:T=T.take i++(T[i] :: T.drop (i+1)):=by rw[<-aL h',List.take_append_drop]
 have:=fnd_app_r (N:=N.take i) (M:=N[i] :: N.drop (i+1)) (T:=T.take i) (U:=T[i] :: T.drop (i+1)) (by rw[bJ,bJ];omega) q3;rw[<-z,<-Q] at this;rw[this];simp[fnd]
structure Sub(U:List Int)(V:List Zl)(N:List Int)(T:List Zl):Prop where
 chk:chkTr U V=0
 mem:∀ y∈U,y∈N
 same:∀ y∈U,fnd y U V=fnd y N T
theorem Sub.nil(N T):Sub [] [] N T:=⟨rfl,λ_ h=>(by cases h),λ_ h=>(by cases h)⟩
theorem Sub.all{U V N T}(h:Sub U V N T)(z:chkTr N T=0){y:Int}(Q:y=0\/y∈U):fnd y U V=fnd y N T:=by
 by_cases e:y∈U
 ·exact h.same y e
 ·have aa:y=0:=by rcases Q with q|q;exact q;exact absurd q e
  subst aa;rw[fnd_out (TrOk.of h.chk).len e,fnd_out (TrOk.of z).len (TrOk.of z).zero]
theorem Sub.step{U V}{N:List Int}{T:List Zl}(h:Sub U V N T)(hc:chkTr N T=0){k:Nat}(hk:k<N.length)(ae:k<T.length){z V'}(ha:addE U V N[k] T[k]=(z,V',0)):Sub z V' N T/\z=U++[N[k]]:=by
 obtain⟨h1,h2,h3,rfl,rfl⟩:=addE_ok ha;have ok:=TrOk.of h1;obtain⟨g1,_,g3,_,_⟩:=nextD_ok h2;refine⟨⟨chkTr_snoc h1 h2 h3,λy Q=>?_,λy Q=>?_⟩,rfl⟩
 ·rcases List.mem_append.1 Q with q|q
  ·exact h.mem y q
  ·rw[List.mem_singleton.1 q];exact aX hk
 ·rcases List.mem_append.1 Q with q|q
  ·rw[ok.same g1.1 (.inr q)];exact h.same y q
  ·rw[List.mem_singleton.1 q,ok.new g3,(ahead hc k hk ae).1]
theorem Sub.must{U V}{N:List Int}{T:List Zl}(h:Sub U V N T)(z:chkTr N T=0){i:Nat}(hi:i<N.length)(ac:i<T.length)(ha:∀ j (hj:j<N.length),j<i->N[j]∈U)(hn:N[i]∉U):∃ U' V',addE U V N[i] T[i]=(U',V',0):=by
 have okN:=TrOk.of z;have an:=TrOk.of h.chk;obtain⟨e1,e2⟩:=ahead z i hi ac;have Q:N[i]∈N:=aX hi
 have af:T[i].1=0\/T[i].1∈U:=by
  rcases e2 with q|q
  ·exact .inl q
  ·obtain⟨j,hj,ej⟩:=List.getElem_of_mem q;rw[bJ] at hj;rw[List.getElem_take] at ej;rw[<-ej];exact .inr (ha j (by omega) (by omega))
 have hh:=okN.hgt _ Q;rw[e1,<-h.all z af] at hh;have am:nextD U V N[i] T[i]=0:=Zgr (okN.nm _ Q) (okN.chk _ (aX ac)) hn af hh
 have al:U.length≠24:=by
  have h1:=Nh (N[i] :: U) N (List.nodup_cons.2 ⟨hn,an.nd⟩) (λx hx=>by
   rcases bB.1 hx with rfl|hx
   ·exact Q
   ·exact h.mem x hx)
  have h2:=(Xy z).2.1;simp only[List.length_cons] at h1;omega
 refine⟨U++[N[i]],V++[T[i]],?_⟩;unfold addE;rw[if_neg (by simp[h.chk]),if_neg (by simp[am]),if_neg al]
theorem Sub.full{U:List Int}{V}{N:List Int}{T}(h:Sub U V N T)(hc:chkTr N T=0)(ha:∀ j (z:j<N.length),N[j]∈U):U.length=N.length/\∀ y∈N,y∈U:=by
 have Q:∀ y∈N,y∈U:=λy hy=>by
  obtain⟨j,z,rfl⟩:=List.getElem_of_mem hy;exact ha j z
 have h1:=Nh U N (TrOk.of h.chk).nd h.mem;have h2:=Nh N U (TrOk.of hc).nd Q;exact⟨by omega,Q⟩
theorem Sub.up{U V N T}(h:Sub U V N T)(z:chkTr N T=0):∀ (d:Nat) (y:Int),(y=0\/y∈U)->upD U V d y=upD N T d y
 | 0,_,_=>rfl
 | d+1,y,hy=>by
  rw[upD,upD,<-h.all z hy,h.up z d _ ((TrOk.of h.chk).up y)]
theorem Sub.wk{U V N T}(h:Sub U V N T)(Q:chkTr N T=0):∀ (P:List Int) (s:Int),(∀ z∈P,z=0\/z∈U)->Xw U V s P=Xw N T s P
 | [],_,_=>rfl
 | y :: P,s,hP=>by
  rw[Xw,Xw,h.all Q (hP y (by simp)),h.wk Q P _ (λz hz=>hP z (by simp[hz]))]
theorem Be(N T):∀ (P D:List Int) (q:Int×Int),(∀ y∈D,Y1 N T y<q.2\/Y1 N T y=q.2/\q.1<=y)->∀ y,y∈D\/y∈P->Y1 N T y<(Vn N T q P).2\/Y1 N T y=(Vn N T q P).2/\(Vn N T q P).1<=y
 | [],D,q,h,y,z=>by
  rcases z with z|z
  ·exact h y z
  ·cases z
 | x :: P,D,q,h,y,z=>by
  have aa:Vn N T q (x :: P)=Vn N T (if q.2<Y1 N T x\/Y1 N T x=q.2/\x<q.1 then (x,Y1 N T x) else q) P:=rfl;rw[aa]
  refine Be N T P (x :: D) _ (λac Q=>?_) y (by
   rcases z with z|z
   ·exact .inl (by simp[z])
   ·rcases bB.1 z with rfl|z
    ·exact .inl (by simp)
    ·exact .inr z)
  rcases bB.1 Q with rfl|Q
  ·split
   ·exact .inr ⟨rfl,Int.le_refl _⟩
   ·next q1=>omega
  ·have:=h ac Q;split
   ·next q1=>simp only;omega
   ·exact this
theorem best_max{N T}(h:TrOk N T):(bstGo N T 0 0 N=0\/bstGo N T 0 0 N∈N)/\(∀ y∈N,Y1 N T y<Y1 N T (bstGo N T 0 0 N)\/Y1 N T y=Y1 N T (bstGo N T 0 0 N)/\bstGo N T 0 0 N<=y):=by
 rw[Gj];have z:=Se N T N (0,0) h.wrk_zero.symm;rw[<-z];exact⟨Sf N T N (0,0),λy Q=>Be N T N [] (0,0) (λ_ q=>by cases q) y (.inr Q)⟩
end Tr
open Go.RowKit
theorem W3{N:List Int}{T:List Zl}(z:Tr.chkTr N T=0):N.length=T.length/\N.length<=24/\(∀ x∈N,(Lit.int .i64 x).wf=true)/\(∀ b∈T,(Lit.int .i64 b.1).wf=true)/\(∀ b∈T,Tr.BlkSmall b)/\∀ s,0<=Yt N T s/\Yt N T s<=1000:=by
 have ok:=Tr.TrOk.of z
 have h24:N.length<=24:=by
  unfold Tr.chkTr at z;split at z
  ·cases z
  split at z
  ·cases z
  omega
 refine⟨ok.len,h24,λx hx=>?_,λb Q=>?_,λb Q=>Tr.blk_small (ok.chk b Q),λs=>?_⟩
 ·have:=ok.nm x hx;exact Gq (by omega) (by omega)
 ·have h1:=ok.chk b Q;obtain⟨p,h,k,n,L⟩:=b;have h2:=(V6 h1).1;simp[Wp] at h2;exact Gq (by simp only;omega) (by simp only;omega)
 ·unfold Yt Tr.blockE;rw[if_neg (λq=>q z)];split
  ·rename_i q;have:=Zih (ok.chk _ (Tr.fnd_at ok.len (by simpa using q)));simp only;omega
  ·exact⟨Int.le_refl _,by decide⟩
theorem Yn{N T}{z:Int}(h:Tr.bstD N T=(z,0)):Tr.chkTr N T=0/\(z=0\/z∈N):=by
 unfold Tr.bstD at h;split at h
 ·rename_i q;injection h with _ h;exact absurd h q
 ·rename_i q;injection h with h _;have Q:=Decidable.not_not.1 q;exact⟨Q,h ▸ (Tr.best_max (Tr.TrOk.of Q)).1⟩
theorem Zcs(w:World):(Instr.makeMap 252 none).run Tryz.prog w = .ok (.map (some w.heap.size)) (w.alloc (.map #[] 0)):=by kernel_rfl
def Ziv(Z:Nat->Prop)(w:World)(d bm m:Nat)(K:List ByteArray)(N:List Int)(T:List Zl)(P:List TxD)(tip:Int)(β : Int->List Zj):Prop:=
 ∃ ka kn kc na nn nc ba bn bc pa pn pc f,DeskAt Z w d bm m ka kn kc K na nn nc N ba bn bc T pa pn pc P tip f β
theorem At{V w6 z:World}{d bm B A:Nat}{ka na ba pa kn kc nn nc bn bc pn pc K N T P}{tip:Int}(hK:Fresh A V (λw2=>Bk.TextsAt w2 ka kn K))(sk:SlOk ka kn kc)(hb:ZD V w6)(hF:Fresh B w6 (λw2=>Tr.IntsAt w2 na nn N/\Tr.BlksAt w2 ba bn T/\TxsAt w2 pa pn P))(sn:SlOk na nn nc)(sb:SlOk ba bn bc)(sp:SlOk pa pn pc)
  (h67:ZD w6 z) (box:z.heap[d]? = some (cR [F ka kn kc,F na nn nc,F ba bn bc,F pa pn pc,E J tip,.map (some bm)].toArray 254 (0,0))) (hm:BMap bm 0 (λ_=>Fy) z) (h1:V.heap.size<=bm) (h2:w6.heap.size<=d) (h3:bm<B\/w6.heap.size<=bm) (h4:d≠bm) (hA:A<=B) (hA2:A<=V.heap.size) :
  DeskAt (λq=>q<A) z d bm 0 ka kn kc K na nn nc N ba bn bc T pa pn pc P tip (λ_=>Fy) noB:=by
 have hs:=hb.size;have ag:=h67.size;refine⟨box,λW g=>?_,λW _ x=>⟨none,0,0,rfl,RowsAt.nil _ _,Zp⟩,sk,sn,sb,sp,hm,h4,λq e=>by have e:q<A:=e;omega⟩
 have gV:Gr V W (λq=>q<A):=((Gr.of (Zf hb h67)):Gr V z (λq=>q<A)).far g (λq e=>by
  rcases e with e|e|e
  ·exact .inl (by omega)
  ·exact .inl (by omega)
  ·exact .inr e)
 have g6:Gr w6 W (λq=>q<B):=((Gr.of h67):Gr w6 z (λq=>q<B)).far g (λq e=>by
  rcases e with e|e|e
  ·omega
  ·omega
  ·exact .inr (aC e hA))
 have Q:=hF W g6;exact⟨hK W gV,Q.1,Q.2.1,Q.2.2⟩
def OpnR(w w':World)(x:Int)(K:List ByteArray)(N:List Int)(T:List Zl)(P:List TxD)(tip:Int)(β : Int->List Zj)(e:Ending):Prop:=
 ZD w w'/\((x≠0/\e = cS (cT #[cU none,E J x]))\/(x=0/\∃ d bm m,e = cS (cT #[cU (some ⟨d,0,none⟩),E J 0])/\Ziv (λq=>q<w.heap.size) w' d bm m K N T P tip β/\w.heap.size<=d/\w.heap.size<=bm/\m<=24))
theorem F4(ka kn kc K na ba pa nn nc bn bc pn pc N T P)(tip x:Int)(w)(hE:Env w)(hK:Bk.TextsAt w ka kn K)(hN:Tr.IntsAt w na nn N)(hT:Tr.BlksAt w ba bn T)(hP:TxsAt w pa pn P)(sN:SlOk na nn nc)(sT:SlOk ba bn bc)(sP:SlOk pa pn pc)(hp:pn<=2513169434916)(hq:∀ t∈P,Tr.TxSmall t)(hx:opE K N T P tip=x) :
  Calls Tryz.prog 107 #[.agg #[F ka kn kc],.agg #[F na nn nc,F ba bn bc,F pa pn pc,.int .i64 tip]] w λe w'=>OpnR w w' x K N T P tip (Z3 K N T noB).2 e:=by
 obtain⟨X,hX⟩:=ZG (Yr w [cR #[F ka kn kc] 24,cR #[F na nn nc,F ba bn bc,F pa pn pc,.int .i64 tip] 67]);have dw:X=(w.alloc (cR #[F ka kn kc] 24)).alloc (cR #[F na nn nc,F ba bn bc,F pa pn pc,.int .i64 tip] 67):=hX;have cf:ZD w X:=by rw[hX];exact Zs _ _
 have dx:X.heap.size=w.heap.size+2:=by rw[hX];exact Zy _ _
 have x0:X.heap[w.heap.size]? = some (cR [F ka kn kc].toArray 24 (0,0)):=by rw[hX];exact Zk _ w 0 _ rfl
 have x1:X.heap[w.heap.size+1]? = some (cR [F na nn nc,F ba bn bc,F pa pn pc,.int .i64 tip].toArray 67 (0,0)):=by rw[hX];exact Zk _ w 1 _ rfl
 obtain⟨⟨M,Z,gn⟩,hz⟩:=ZF (Bk.allR K [])
 have cp:gn=Bk.bkChk K/\(gn=0->M=K):=by
  unfold Bk.allR at hz;split at hz
  ·rename_i q;rw[Bk.nmGo] at hz;simp only[Prod.mk.injEq] at hz;exact⟨by rw[<-hz.2.2,q],λ_=>hz.1.symm⟩
  ·rename_i q;simp only[Prod.mk.injEq] at hz;exact⟨hz.2.2.symm,λe=>absurd (hz.2.2.trans e) q⟩
 have C1:=Zd (Bk.all_isF ka none kn kc 0 0 K [] M Z gn X (hK.later cf) ⟨rfl,λh=>absurd h (by omega)⟩ (by omega) hz);obtain⟨⟨b,y⟩,hy⟩:=ZF (Tr.bstD N T);have C2:=Zd (λV (hv:ZD w V)=>Tr.best_is na ba nn nc bn bc N T b y V (hN.later hv) (hT.later hv) sN sT hy);obtain⟨⟨u,γ⟩,Q⟩:=ZF (Z3 K N T noB);unfold opE at hx;rw[<-cp.1,hy,Q] at hx;simp only at hx;rw[Q];simp only;have HX:=Zd hx;have fg:=Zd cp;have dg:=Zd cf;have dn:=Zd dx;have fd:=Zd x0;have fe:=Zd x1;have HY:=Zd hy;have HU:=Zd Q;have HE:=Zd hE;have HN:=Zd hN;have HT:=Zd hT;have HP:=Zd hP;have eu:=Zd sN;have ew:=Zd sT;have ev:=Zd sP;have es:=Zd hp;have HQ:=Zd hq;have t0:=Zb x0 0 _ rfl;have tl:=lt_of_block x0;clear hE hK hN hT hP sN sT sP hp hq hx cf dx x0 x1 hX hz cp hy Q;go_enter func107,ntmps107;go_wp2_with fail;rw[<-dw];clear dw;(try go_wp2_with fail);refine C1.mono ?_;rintro e w1 ⟨⟨a',n',c',a2,n2,c2,rfl,du,eh,_,_,_⟩,aw⟩;have h10:=ZE aw fd;have h11:=ZE aw fe;have y0:=Zb h10 0 _ rfl;have yf:=Zg h10 0;have yl:=lt_of_block h10;obtain⟨V,hV⟩:=ZG (w1.setCell ⟨w.heap.size,0,none⟩ (F a' n' c'));have g1:Gr w1 V (λq=>q=w.heap.size):=by rw[hV];exact (Gr.refl w1 (λq=>q=w.heap.size)).one w.heap.size 0 (.inl rfl) _
 have v0:V.heap[w.heap.size]? = some (cR #[F a' n' c'] 24 (0,0)):=by rw[hV];exact Va h10
 have v1:=g1.heap h11 (by omega);have ce:ZD w V:=g1.below (Zf dg aw) (Zf dg aw).size (λq e=>by have e:q=w.heap.size:=e;omega);have dk:Hid (Fresh w.heap.size V (λw2=>Bk.TextsAt w2 a' n' M)):=λW g=>du W ((g1.mono (λq _ e=>by have e:q=w.heap.size:=e;have:=Za dn;omega)).trans (g.mono (λq _ e=>by have e:q<w.heap.size:=e;have:=Za dn;omega)));have bf:=Zd ce;have ez:=Zd v0;have fa:=Zd v1;have dl:=Zd eh;have q0:=Zb v1 0 _ rfl;have q1:=Zb v1 1 _ rfl;have q3:=Zb v1 3 _ rfl;have ql:=lt_of_block v1;have p0:=Zb h11 0 _ rfl;have p1:=Zb h11 1 _ rfl;have pl:=lt_of_block h11;have D2:=Zd (C2 V ce);clear aw h10 h11 g1 v0 v1 ce du eh C1 C2 t0 tl;by_cases z0:gn=0
 ·subst z0;obtain rfl:=fg.2 rfl;go_wp2_with fail;rw[<-hV];clear hV y0 yf yl p0 p1 pl;(try go_wp2_with fail);refine D2.mono ?_;rintro e w2 ⟨rfl,ax⟩;have ac:=Zd (Zf bf ax);have bg:=Zd ax;have h20:=ZE ax ez;have h21:=ZE ax fa;have fz:=Zd h20;have ga:=Zd h21;have r0:=Zb h20 0 _ rfl;have s0:=Zb h21 0 _ rfl;have s1:=Zb h21 1 _ rfl;have s2:=Zb h21 2 _ rfl;have s3:=Zb h21 3 _ rfl;have rl:=lt_of_block h20;have sl:=lt_of_block h21;clear ax h20 h21 D2 q0 q1 q3 ql;by_cases br:y=0
  ·subst br;by_cases cx:b=tip
   ·subst cx;have cm:=Za HX;rw[if_neg (λq=>q rfl),if_neg (λq=>q rfl),if_neg (λq=>q rfl)] at cm;have bh:=Zd cm;clear cm HX;obtain⟨hc,ec⟩:=Yn HY;obtain⟨f1,f2,f3,f4,f5,f6⟩:=W3 hc;have fh:bn=nn:=(by have q1:=HN.1;have q2:=HT.1;omega);subst fh;have gj:bn<=24:=(by have q1:=HN.1;omega);have CN:=Zd (λU (hv:ZD w U)=>Mt na ba pa bn nc bc pn pc N T P b U (HN.later hv) (HT.later hv) (HP.later hv) eu ew ev (by omega) f5 es HQ);have fc:Hid ((Lit.int .i64 b).wf=true):=(by rcases ec with q|q;exact Gq (by omega) (by omega);exact f3 b q);have eo:=Zd f1;have di:=Zd f2;have ep:=Zd f3;have eq:=Zd f4;have dj:=Zd (f6 b);have fi:=Zcs;clear hc ec f1 f2 f3 f4 f5 f6;have KS:Hid (∀ U:World,ZD w2 U->((U.cell? ⟨w.heap.size,0,none⟩=some (F a' n' c')/\w.heap.size<U.heap.size)/\U.cell? ⟨w.heap.size+1,0,none⟩=some (F na bn nc)/\U.cell? ⟨w.heap.size+1,1,none⟩=some (F ba bn bc)/\U.cell? ⟨w.heap.size+1,2,none⟩=some (F pa pn pc)/\U.cell? ⟨w.heap.size+1,3,none⟩=some (.int .i64 b)/\w.heap.size+1<U.heap.size)):=λU Q=>⟨⟨Ze Q r0,aC rl Q.size⟩,Ze Q s0,Ze Q s1,Ze Q s2,Ze Q s3,aC sl Q.size⟩
    go_upto_region 9 with fail
    clear r0 s0 s1 s2 s3 rl sl
    go_cut [9] from 34 to 39 (λs9 wx=>∃ d bm:Nat,s9 = .pointer (some ⟨d,0,none⟩)/\Hid (∃ na' nc' ba' bc' pa' pc',DeskAt (λq=>q<w.heap.size) wx d bm 0 a' n' c' M na' bn nc' N ba' bn bc' T pa' pn pc' P b (λ_=>Fy) noB)/\Hid (ZD w wx/\w.heap.size<=d/\w.heap.size<=bm))
    case first=>
     refine wp_region_held_drew (S:=λU=>(U.cell? ⟨w.heap.size,0,none⟩=some (F a' n' c')/\w.heap.size<U.heap.size)/\U.cell? ⟨w.heap.size+1,0,none⟩=some (F na bn nc)/\U.cell? ⟨w.heap.size+1,1,none⟩=some (F ba bn bc)/\U.cell? ⟨w.heap.size+1,2,none⟩=some (F pa pn pc)/\U.cell? ⟨w.heap.size+1,3,none⟩=some (.int .i64 b)/\w.heap.size+1<U.heap.size) (by kernel_rfl) (KS _ (Zi _)) (λz=>?_);refine tkL 0 rfl z ?_;refine tkL 1 rfl z ?_;refine wpAnyH_ready (rs:=[2,3]) (by kernel_rfl) (by simp) ?_;refine rdC rfl (λKQ hK=>?_) (rdC rfl (λKQ hK=>?_) AllReadyH.nil)
     ·have hb:=Zi w2;refine Zn (by kernel_rfl) 171 #[.agg #[F na bn nc,F ba bn bc,F pa pn pc,.int .i64 b]] (by kernel_rfl) (CN w2.drew (Zf ac hb)) ?_;rintro e w5 ⟨na',nc',ba',bc',pa',pc',rfl,cc,cu,ct,cw,ay⟩;refine⟨_,rfl,?_⟩;have aa:=Zf hb ay;clear z;refine hK.out _ _ (KS _ aa) (λz=>?_);clear hK KQ;(try simp only[Act.put,ZA,ZB,ZC]);refine rdY 3 rfl (λKQ hK=>?_);go_simp;obtain⟨w6,bb⟩:=ZG (w5.alloc (.map #[] 0));rw[<-bb];have bj:ZD w5 w6:=(by rw[bb];exact Zh _ _);have cl:BMap w5.heap.size 0 (λ_=>Fy) w6:=(by rw[bb];exact BMap.made w5);have eb:w6.heap.size=w5.heap.size+1:=(by rw[bb];simp);clear bb;clear z;refine hK.out _ _ (KS _ (Zf aa bj)) (λz=>?_);clear hK KQ;refine tkL 4 rfl z ?_;refine rdY 5 rfl (λKQ hK=>?_);go_simp;obtain⟨w7,aj⟩:=ZG (w6.alloc (cR #[F a' n' c',F na' bn nc',F ba' bn bc',F pa' pn pc',.int .i64 b,.map (some w5.heap.size)] 254));rw[<-aj];have ah:ZD w6 w7:=(by rw[aj];exact Zh _ _);have bx:w7.heap[w6.heap.size]? = some (cR [F a' n' c',F na' bn nc',F ba' bn bc',F pa' pn pc',.int .i64 b,.map (some w5.heap.size)].toArray 254 (0,0)):=(by rw[aj];exact heap_alloc_new _ _);clear aj;clear z;refine hK.out _ _ (KS _ (Zf (Zf aa bj) ah)) (λz=>?_);clear hK KQ;refine tkL 6 rfl z ?_;refine wpAnyH_done (by kernel_rfl) ?_ _;clear z;go_wp2_with fail;go_meet
      case rel=>
       have s2:=ac.size;have s5:=aa.size;have sV:=bg.size;exact⟨w6.heap.size,w5.heap.size,(by first|rfl|rw[eb]),⟨na',nc',ba',bc',pa',pc',At (V:=V) (B:=w2.drew.heap.size) dk dl (Zf bg aa) cc cu ct cw (Zf bj ah) bx (cl.keep ah) (by omega) (by omega) (.inr (aF _)) (by omega) (by have:=ac.size;show w.heap.size<=w2.heap.size;omega) bf.size⟩,Zf (Zf ac aa) (Zf bj ah),by omega,by omega⟩
     ·go_simp;obtain⟨v6,az⟩:=ZG ((w2.alloc (.map #[] 0)).drew);rw[<-az];have hb:ZD w2 v6:=(by rw[az];exact Zf (Zh _ _) (Zi _));have cl:BMap w2.heap.size 0 (λ_=>Fy) v6:=(by rw[az];exact (BMap.made w2).heap rfl);have eb:v6.heap.size=w2.heap.size+1:=(by rw[az];simp);clear az;clear z;refine hK.out _ _ (KS _ hb) (λz=>?_);clear hK KQ;(try simp only[Act.put,ZA,ZB,ZC]);refine rdS 2 rfl (CN v6 (Zf ac hb)) ?_;rintro e w5 ⟨na',nc',ba',bc',pa',pc',rfl,cc,cu,ct,cw,ay⟩;have aa:=Zf hb ay;clear z;refine⟨_,rfl,(KS _ aa),λz=>?_⟩;refine tkL 4 rfl z ?_;refine rdY 5 rfl (λKQ hK=>?_);go_simp;obtain⟨w7,aj⟩:=ZG (w5.alloc (cR #[F a' n' c',F na' bn nc',F ba' bn bc',F pa' pn pc',.int .i64 b,.map (some w2.heap.size)] 254));rw[<-aj];have ah:ZD w5 w7:=(by rw[aj];exact Zh _ _);have bx:w7.heap[w5.heap.size]? = some (cR [F a' n' c',F na' bn nc',F ba' bn bc',F pa' pn pc',.int .i64 b,.map (some w2.heap.size)].toArray 254 (0,0)):=(by rw[aj];exact heap_alloc_new _ _);clear aj;clear z;refine hK.out _ _ (KS _ (Zf aa ah)) (λz=>?_);clear hK KQ;refine tkL 6 rfl z ?_;refine wpAnyH_done (by kernel_rfl) ?_ _;clear z;go_wp2_with fail;go_meet
      case rel=>
       have s2:=ac.size;have s5:=ay.size;have sV:=bg.size;exact⟨w5.heap.size,w2.heap.size,rfl,⟨na',nc',ba',bc',pa',pc',At (V:=V) (B:=v6.heap.size) dk dl (Zf bg aa) cc cu ct cw ah bx ((cl.keep ay).keep ah) (by omega) (aF _) (.inl (by omega)) (by omega) (by have:=ac.size;omega) bf.size⟩,Zf (Zf ac aa) ah,by omega,by omega⟩
    case rest=>
     obtain⟨d,bm,rfl,hD,hL⟩:=hcut;obtain⟨na',nc',ba',bc',pa',pc',hD⟩:=Za hD;obtain⟨cj,hd,cg⟩:=Za hL;have E1:=Zd (Et hD w cj cg HE eo di ep eq u γ HU);have df:=Zd cj;have ek:=Zd hd;have de:=Zd cg;clear hD hL cj hd cg KS CN fi;go_wp2_with fail;refine E1.mono ?_;rintro e w8 ⟨rfl,ea,ca⟩;have bk:ZD w w8:=ea.below df df.size (λq e=>by have e:q=bm:=e;have:=Za de;omega);have dc:=Zd bk;clear ea E1;by_cases u0:u=0
     ·subst u0;obtain⟨f',cb⟩:=ca rfl;have cn:=Za bh;rw[if_neg (λq=>q rfl)] at cn;have E2:=Zd (Zhx cb (HE.later bk) fc dj.1 dj.2 x cn);have en:=Zd cb;clear ca cb bk bh cn;go_wp2_with fail;refine E2.mono ?_;rintro e w9 ⟨rfl,cd⟩;have dd:=Zd (Zf dc cd);have el:=Zd (en.later cd);clear cd E2;by_cases x0:x=0
      ·subst x0;go_wp2;go_ret2;exact⟨Za dd,.inr ⟨rfl,d,bm,_,rfl,⟨_,_,_,_,_,_,_,_,_,_,_,_,_,Za el⟩,Za ek,Za de,Za di⟩⟩
      ·have gx:(x != 0)=true:=(by simp[x0]);go_wp2;go_ret2;exact⟨Za dd,.inl ⟨x0,rfl⟩⟩
     ·have gu:(u != 0)=true:=(by simp[u0]);have an:Hid (x=u):=(by have q:=Za bh;rw[if_pos u0] at q;exact q.symm);clear bh ca bk;go_wp2;go_ret2;rw[Za an];exact⟨Za dc,.inl ⟨u0,rfl⟩⟩
   ·have gt:(b != tip)=true:=(by simp[cx]);have an:Hid (x=4):=(by have q:=Za HX;rw[if_neg (λq=>q rfl),if_neg (λq=>q rfl),if_pos cx] at q;exact q.symm);clear HX;go_wp2;go_ret2;rw[Za an];exact⟨Za ac,.inl ⟨by decide,rfl⟩⟩
  ·have gy:(y != 0)=true:=(by simp[br]);have an:Hid (x=y):=(by have q:=Za HX;rw[if_neg (λq=>q rfl),if_pos br] at q;exact q.symm);clear HX;go_wp2;go_ret2;rw[Za an];exact⟨Za ac,.inl ⟨br,rfl⟩⟩
 ·have gz:(gn != 0)=true:=by simp[z0]
  have an:Hid (x=gn):=by have q:=Za HX;rw[if_pos z0] at q;exact q.symm
  have fb:=Zd hV;clear HX hV D2;go_wp2;rw[<-Za fb];go_ret2;rw[Za an];exact⟨Za bf,.inl ⟨z0,rfl⟩⟩
