import Derived.Test.YtmomfkikogbdeaaGreatDoorH
import Derived.Test.YtmomfkikogbdeaaGreatDoorG30
open Classical renaming not_not->bQ
open Go.Ending renaming returned->dA
open Go.IntKind renaming i64->J
open Go.Obj renaming cells->cZ
open Go.Value renaming int->E,slice->F,tuple->dB,pointer->dC
open List renaming mem_cons->aU,mem_singleton->bX,mem_append->bA,length_cons->cL,drop_eq_getElem_cons->aI,length_take->bP,getElem_mem->aQ
open Nat renaming zero_le->aL,lt_of_lt_of_le->aD,le_refl->aF
set_option maxHeartbeats 12800000
set_option maxRecDepth 10000
namespace Go.Proofs.YtmomfkikogbdeaaGreatDoor.Tr
open Go.RowKit
theorem best_is(a b n c m d N T)(de x:Int)(w:World)(hN:IntsAt w a n N)(hT:BlksAt w b m T)(sN:SlOk a n c)(sT:SlOk b m d)(hx:bstD N T=(de,x)) :
  ZH 163 #[.agg #[F a n c,F b m d]] w (dB #[E J de,E J x]):=by
 obtain⟨X,hX,ab,an⟩:=ka00 w [F a n c,F b m d] 28;obtain⟨HB,be⟩:=kh2 ab an;obtain⟨y,hy⟩:=ZF (chkTr N T);have C1:=Zd (Vx a b n c m d N T y X (hN.later ab) (hT.later ab) sN sT hy);obtain⟨x0,x1,xl⟩:=kc2 an;unfold bstD at hx;rw[hy] at hx;by_cases q:y=0
 ·subst q;rw[if_neg (by simp)] at hx;obtain⟨hl,h24,hH,_⟩:=Vb hy;obtain rfl:n=m:=by rw[<-hN.1,<-hT.1,hl]
  have db:n<=24:=by rw[<-hN.1];exact h24
  have av:n<=maxLen:=sN.len;obtain⟨hz,rfl⟩:bstGo N T 0 0 N=de/\0=x:=⟨congrArg Prod.fst hx,congrArg Prod.snd hx⟩;obtain⟨HN,bg,HH⟩:=kh3 (hN.later ab) hN.1 hH;have CP:=Zd (λs P pn W (hb:ZD X W) (h1:pthD N T s=P) (h2:P.length=pn)=>Nt a b n c d N T s P pn W av (hN.later (Zf ab hb)) (hT.later (Zf ab hb)) hH h1 h2);have CW:=Zd (λpa pc pn P v W (hb:ZD X W) (au:IntsAt W pa pn P) (ap:pn<=1000) (hv:Wq N T 0 P=v)=>Zes a b pa n c d pn pc N T P v W av (hN.later (Zf ab hb)) (hT.later (Zf ab hb)) au ap hH hv);have HZ:Hid (bstGo N T 0 0 (N.drop 0)=de):=hz;clear ab an hN hT sN sT hx hy hl h24 hH av hz;go_enter Tryz.func163,Tryz.ntmps163;go_wp2_with fail;rw[<-hX];clear hX;refine C1.mono ?_;rintro e w1 ⟨rfl,af⟩;have hc:=ZE af be;obtain⟨t0,tl⟩:=kc1 hc;have ar:=Zd af;clear af x0 x1 xl hc C1;go_wp2
  go_loopw [5,6,18] (λbv mv i wr=>∃ (k:Nat) (z mm:Int),k<=n/\bv = E J z/\mv = E J mm/\i = E J k/\Hid (bstGo N T z mm (N.drop k)=de)/\Hid (ZD X wr)) (λ_ _ i _=>n - (intOf i).toNat)
  case atStart=>exact⟨0,0,0,aL _,rfl,rfl,rfl,HZ,ar⟩
  case round=>
   obtain⟨k,z,mm,hk,rfl,rfl,rfl,A,ae⟩:=hrel;clear t0 tl HZ;by_cases cm:k<n
   ·have h1:k<N.length:=(by rw[Za bg];exact cm);obtain⟨b1,dc,rfl,bq,bj⟩:=HN.2 (by omega);have f1:=Ze ae (bj k h1);have AT:=Zd (Zmh N T z mm N k h1);obtain⟨s,hs⟩:=ZF (N[k]);rw[hs] at f1 AT;have ll:=aD bq ae.size;have bk:=ZE ae be;obtain⟨t0,t1,tl⟩:=kc2 bk;obtain⟨P,hP⟩:=ZF (pthD N T s);obtain⟨pn,aw⟩:=ZF (P.length);obtain⟨v,hv⟩:=ZF (Wq N T 0 P);have bu:Xb N T s=v:=(by unfold Xb;rw[hP,hv]);rw[bu] at AT;have ap:pn<=1000:=(by rw[<-aw,<-hP];exact D7 HH s);have CC:=Zd (CP s P pn wr.drew (Zf ae (Zi _)) hP aw);have CV:=Zd (λpa pc W hb au=>CW pa pc pn P v W hb au ap hv);have da:(k:Int)<(n:Int):=(by omega);clear bj bk hs hP aw hv bu bq ap;go_wp2_with fail
    go_region_with (first
     | (go_at_call 131;refine CC.mono ?_;rintro e w5 ⟨vv,rfl,br,ag⟩;obtain⟨pa,pc,rfl,_,bs⟩:=ints_of_own br;have e0:=Ze ag (Ze (Zi _) t0);have e1:=Ze ag (Ze (Zi _) t1);have el:=aD tl ag.size;have H5:=Zd (Zf ae (Zf (Zi _) ag));have C5:=Zd (CV pa pc _ H5 bs);clear br bs ag)
     | (go_at_call 102;refine C5.mono ?_;rintro e w6 ⟨rfl,bh⟩;have H6:=Zd (Zf H5 bh);clear bh C5 H5))
    all_goals
     by_cases q1:mm<v
     ·have R:Hid (bstGo N T s v (N.drop (k+1))=de):=(by show _=_;rw[<-Za A,Za AT,if_pos (.inl q1)]);clear A AT;go_wp2;go_roundw
      case rel=>exact⟨k+1,s,v,by omega,rfl,rfl,by go_num,R,H6⟩
      case measure=>simp[intOf];omega
     ·by_cases q2:v=mm
      ·subst q2;by_cases q3:s<z
       ·have R:Hid (bstGo N T s v (N.drop (k+1))=de):=(by show _=_;rw[<-Za A,Za AT,if_pos (.inr ⟨rfl,q3⟩)]);clear A AT;go_wp2;go_roundw
        case rel=>exact⟨k+1,s,v,by omega,rfl,rfl,by go_num,R,H6⟩
        case measure=>simp[intOf];omega
       ·have R:Hid (bstGo N T z v (N.drop (k+1))=de):=by
         show _=_;rw[<-Za A,Za AT,if_neg (by omega)]
        clear A AT;go_wp2;go_roundw
        case rel=>exact⟨k+1,z,v,by omega,rfl,rfl,by go_num,R,H6⟩
        case measure=>simp[intOf];omega
      ·have R:Hid (bstGo N T z mm (N.drop (k+1))=de):=by
        show _=_;rw[<-Za A,Za AT,if_neg (by omega)]
       have g2:(v == mm)=false:=(by simp[q2]);clear A AT q2;go_wp2;go_roundw
       case rel=>exact⟨k+1,z,mm,by omega,rfl,rfl,by go_num,R,H6⟩
       case measure=>simp[intOf];omega
   ·have R:Hid (z=de):=(by show _=_;rw[<-Za A,Zih N T z mm N k (by rw[Za bg];omega)]);have ce:=Zd (Zf HB ae);clear A;go_wp2;go_ret2;exact⟨by rw[<-Za R];rfl,Za ce⟩
 ·rw[if_pos q] at hx;obtain⟨rfl,rfl⟩:0=de/\y=x:=⟨congrArg Prod.fst hx,congrArg Prod.snd hx⟩;have g:(y != 0)=true:=by simp[q]
  clear ab an hN hT sN sT hy hx q;go_enter Tryz.func163,Tryz.ntmps163;go_wp2_with fail;rw[<-hX];clear hX;refine C1.mono ?_;rintro e w1 ⟨rfl,af⟩;have ar:=Zd (Zf HB af);clear af x0 x1 xl;go_wp2;go_ret2;exact⟨rfl,Za ar⟩
theorem fnd_out{N:List Int}{T:List Zl}{x:Int}(z:N.length=T.length)(h:x∉N):fnd x N T=Ym:=by
 rcases Ss x N T 0 z with ⟨_,_,h3⟩|⟨i,hi,_,h2,_⟩
 ·exact h3
 ·exact absurd h2 h
theorem nextD_ok{N T}{x:Int}{b:Zl}(h:nextD N T x b=0):(1<=x/\x<=120)/\Yk b=0/\x∉N/\(b.1=0\/b.1∈N)/\b.2.1=(fnd b.1 N T).2.1+1:=by
 unfold nextD at h;split at h
 ·cases h
 ·next q1=>
  split at h
  ·next q2=>exact absurd h q2
  ·next q2=>
   split at h
   ·cases h
   ·next q3=>
    split at h
    ·cases h
    ·next q4=>
     split at h
     ·cases h
     ·next q5=>
      refine⟨by simpa using q1,bQ.1 q2,by simpa using q3,?_,bQ.1 q5⟩;by_cases e:b.1=0
      ·exact .inl e
      ·right
       by_cases z:b.1∈N
       ·exact z
       ·exact absurd ⟨e,by simp[z]⟩ q4
theorem Zko{N T}{x:Int}{b:Zl}(h1:1<=x/\x<=120)(h2:Yk b=0)(h3:x∉N)(h4:b.1=0\/b.1∈N)(h5:b.2.1=(fnd b.1 N T).2.1+1):nextD N T x b=0:=by
 unfold nextD
 rw[if_neg (by simp[h1]),if_neg (by simp[h2]),if_neg (by simp[h3]),if_neg (by
  rintro ⟨e,z⟩
  rcases h4 with h|h
  ·exact e h
  ·simp[h] at z),if_neg (by simp[h5])]
theorem Zho{N M:List Int}{T U:List Zl}{y:Int}:N.length=T.length->y∈N->fnd y (N++M) (T++U)=fnd y N T:=by
 induction N generalizing T with
 | nil=>intro _ h;cases h
 | cons a N ih=>
  intro z h;cases T with
  | nil=>cases z
  | cons b T=>
   simp only[List.cons_append,fnd];by_cases e:y=a
   ·simp[e]
   ·rw[if_neg e,if_neg e];refine ih (by simpa using z) ?_
    rcases aU.1 h with h|h
    ·exact absurd h e
    ·exact h
theorem fnd_app_r{N M:List Int}{T U:List Zl}{y:Int}:N.length=T.length->y∉N->fnd y (N++M) (T++U)=fnd y M U:=by
 induction N generalizing T with
 | nil=>
  intro z _;cases T with
  | nil=>rfl
  | cons _ _=>cases z
 | cons a N ih=>
  intro z h;cases T with
  | nil=>cases z
  | cons b T=>
   simp only[List.cons_append,fnd];rw[if_neg (λe=>h (by simp[e]))];exact ih (by simpa using z) (λq=>h (by simp[q]))
theorem Zox(x:Int)(b:Zl):fnd x [x] [b]=b:=by simp[fnd]
structure TrOk(N:List Int)(T:List Zl):Prop where
 len:N.length=T.length
 nd:N.Nodup
 nm:∀ x∈N,1<=x/\x<=120
 par:∀ x∈N,(fnd x N T).1=0\/(fnd x N T).1∈N
 hgt:∀ x∈N,(fnd x N T).2.1=(fnd (fnd x N T).1 N T).2.1+1
 chk:∀ b∈T,Yk b=0
theorem TrOk.nil:TrOk [] []:=⟨rfl,List.nodup_nil,λ_ h=>(by cases h),λ_ h=>(by cases h),λ_ h=>(by cases h),λ_ h=>(by cases h)⟩
theorem TrOk.zero{N T}(h:TrOk N T):(0:Int)∉N:=λq=>by have:=(h.nm 0 q).1;omega
theorem TrOk.heads{N T}(h:TrOk N T):Xj T:=λb z=>chkB_head (h.chk b z)
theorem TrOk.same{N T}{x:Int}{b:Zl}(h:TrOk N T)(hx:1<=x){y:Int}(z:y=0\/y∈N):fnd y (N++[x]) (T++[b])=fnd y N T:=by
 by_cases e:y∈N
 ·exact Zho h.len e
 ·have Q:y=0:=by rcases z with q|q;exact q;exact absurd q e
  rw[fnd_app_r h.len e,fnd_out h.len e];unfold fnd;rw[if_neg (by omega)];unfold fnd;rfl
theorem TrOk.new{N T}{x:Int}{b:Zl}(h:TrOk N T)(hx:x∉N):fnd x (N++[x]) (T++[b])=b:=by
 rw[fnd_app_r h.len hx,Zox]
theorem TrOk.add{N T}{x:Int}{b:Zl}(h:TrOk N T)(hn:nextD N T x b=0):TrOk (N++[x]) (T++[b]):=by
 obtain⟨h1,h2,h3,h4,h5⟩:=nextD_ok hn;refine⟨by simp[h.len],?_,λy z=>?_,λy z=>?_,λy z=>?_,λc Q=>?_⟩
 ·rw[List.nodup_append];exact⟨h.nd,by simp,λa ha c Q=>by rw[bX.1 Q];exact λe=>h3 (e ▸ ha)⟩
 ·rcases bA.1 z with q|q
  ·exact h.nm y q
  ·rw[bX.1 q];exact h1
 ·rcases bA.1 z with q|q
  ·rw[h.same h1.1 (.inr q)]
   rcases h.par y q with e|e
   ·exact .inl e
   ·exact .inr (by simp[e])
  ·rw[bX.1 q,h.new h3]
   rcases h4 with e|e
   ·exact .inl e
   ·exact .inr (by simp[e])
 ·rcases bA.1 z with q|q
  ·rw[h.same h1.1 (.inr q),h.same h1.1 (h.par y q)];exact h.hgt y q
  ·rw[bX.1 q,h.new h3,h.same h1.1 h4];exact h5
 ·rcases bA.1 Q with q|q
  ·exact h.chk c q
  ·rw[bX.1 q];exact h2
theorem Md:∀ (M:List Int) (U:List Zl) (N:List Int) (T:List Zl),M.length=U.length->TrOk N T->Xq N T M U=0->TrOk (N++M) (T++U)
 | [],[],N,T,_,h,_=>by simpa using h
 | [],_ :: _,_,_,h,_,_=>by cases h
 | _ :: _,[],_,_,h,_,_=>by cases h
 | x :: M,b :: U,N,T,hl,h,hc=>by
  rw[Xq] at hc;split at hc
  ·next q=>exact absurd hc q
  ·next q=>
   have:=Md M U _ _ (by simpa using hl) (h.add (bQ.1 q)) hc;simpa using this
theorem TrOk.of{N T}(h:chkTr N T=0):TrOk N T:=by
 obtain⟨h1,_,_,h4⟩:=Vb h;simpa using Md N T [] [] h1 TrOk.nil h4
theorem Me:∀ (M:List Int) (U:List Zl) (N:List Int) (T:List Zl) (x:Int) (b:Zl),M.length=U.length->Xq N T M U=0->nextD (N++M) (T++U) x b=0->Xq N T (M++[x]) (U++[b])=0
 | [],[],N,T,x,b,_,_,h=>by
  rw[List.append_nil,List.append_nil] at h;simp[Xq,h]
 | [],_ :: _,_,_,_,_,h,_,_=>by cases h
 | _ :: _,[],_,_,_,_,h,_,_=>by cases h
 | y :: M,c :: U,N,T,x,b,h,hc,hn=>by
  rw[Xq] at hc;split at hc
  ·next q=>exact absurd hc q
  ·next q=>
   rw[List.cons_append,List.cons_append,Xq,if_neg q];exact Me M U _ _ x b (by simpa using h) hc (by simpa using hn)
theorem chkTr_snoc{N:List Int}{T}{x:Int}{b:Zl}(h:chkTr N T=0)(z:nextD N T x b=0)(Q:N.length≠24):chkTr (N++[x]) (T++[b])=0:=by
 obtain⟨h1,h2,_,h4⟩:=Vb h;unfold chkTr;rw[if_neg (by simp[h1]),if_neg (by simp;omega)];exact Me N T [] [] x b h1 h4 (by simpa using z)
theorem TrOk.up{N T}(h:TrOk N T)(y:Int):(fnd y N T).1=0\/(fnd y N T).1∈N:=by
 by_cases e:y∈N
 ·exact h.par y e
 ·rw[fnd_out h.len e];exact .inl rfl
theorem TrOk.upD_same{N T}{x:Int}{b:Zl}(h:TrOk N T)(hx:1<=x):∀ (d:Nat) (y:Int),(y=0\/y∈N)->upD (N++[x]) (T++[b]) d y=upD N T d y
 | 0,_,_=>rfl
 | d+1,y,hy=>by
  rw[upD,upD,h.same hx hy,h.upD_same hx d _ (h.up y)]
theorem TrOk.pth_same{N T}{x:Int}{b:Zl}(h:TrOk N T)(hx:1<=x){y:Int}(z:y=0\/y∈N):pthD (N++[x]) (T++[b]) y=pthD N T y:=by
 unfold pthD;rw[h.same hx z,h.upD_same hx _ y z]
theorem TrOk.pth_new{N T}{x:Int}{b:Zl}(h:TrOk N T)(z:nextD N T x b=0):pthD (N++[x]) (T++[b]) x=pthD N T b.1++[x]:=by
 obtain⟨h1,h2,h3,h4,h5⟩:=nextD_ok z;unfold pthD;have h0:=(Qh h.heads b.1 N).1;rw[h.new h3,h5,show ((fnd b.1 N T).2.1+1).toNat=(fnd b.1 N T).2.1.toNat+1 by omega,upD,h.new h3,h.upD_same h1.1 _ b.1 h4]
theorem TrOk.up_mem{N T}(h:TrOk N T):∀ (d:Nat) (y:Int),(y=0\/y∈N)->∀ z∈upD N T d y,z=0\/z∈N
 | 0,_,_,z,hz=>by cases hz
 | d+1,y,hy,z,hz=>by
  rw[upD] at hz
  rcases bA.1 hz with q|q
  ·exact h.up_mem d _ (h.up y) z q
  ·rw[bX.1 q];exact hy
theorem TrOk.wk_same{N T}{x:Int}{b:Zl}(h:TrOk N T)(hx:1<=x):∀ (P:List Int) (s:Int),(∀ z∈P,z=0\/z∈N)->Wq (N++[x]) (T++[b]) s P=Wq N T s P
 | [],_,_=>rfl
 | y :: P,s,hP=>by
  rw[Wq,Wq,h.same hx (hP y (by simp)),h.wk_same hx P _ (λz Q=>hP z (by simp[Q]))]
theorem Zip(N T):∀ (P Q:List Int) (s:Int),Wq N T s (P++Q)=Wq N T (Wq N T s P) Q
 | [],_,_=>rfl
 | y :: P,Q,s=>by rw[List.cons_append,Wq,Wq,Zip N T P Q]
theorem TrOk.wrk_same{N T}{x:Int}{b:Zl}(h:TrOk N T)(hx:1<=x){y:Int}(z:y=0\/y∈N):Xb (N++[x]) (T++[b]) y=Xb N T y:=by
 unfold Xb;rw[h.pth_same hx z];exact h.wk_same hx (pthD N T y) 0 (h.up_mem _ y z)
theorem TrOk.wrk_new{N T}{x:Int}{b:Zl}(h:TrOk N T)(z:nextD N T x b=0):Xb (N++[x]) (T++[b]) x=Xb N T b.1+b.2.2.1:=by
 obtain⟨h1,h2,h3,h4,h5⟩:=nextD_ok z;unfold Xb;rw[h.pth_new z,Zip,h.wk_same h1.1 (pthD N T b.1) 0 (h.up_mem _ b.1 h4),Wq,Wq,h.new h3]
def Uc(N:List Int)(T:List Zl)(q:Int×Int)(P:List Int):Int×Int:=P.foldl (λq x=>if q.2<Xb N T x\/Xb N T x=q.2/\x<q.1 then (x,Xb N T x) else q) q
theorem Hv(N T):∀ (P:List Int) (b m:Int),bstGo N T b m P=(Uc N T (b,m) P).1
 | [],_,_=>rfl
 | x :: P,b,m=>by
  rw[bstGo];unfold Uc;rw[List.foldl_cons];split
  ·rw[Hv N T P];rfl
  ·rw[Hv N T P];rfl
theorem Pe(N T):∀ (P:List Int) (q:Int×Int),q.2=Xb N T q.1->(Uc N T q P).2=Xb N T (Uc N T q P).1
 | [],_,h=>h
 | x :: P,q,h=>by
  unfold Uc;rw[List.foldl_cons];split
  ·exact Pe N T P _ rfl
  ·exact Pe N T P _ h
theorem Pf(N T):∀ (P:List Int) (q:Int×Int),(Uc N T q P).1=q.1\/(Uc N T q P).1∈P
 | [],_=>.inl rfl
 | x :: P,q=>by
  unfold Uc;rw[List.foldl_cons];split
  ·rcases Pf N T P (x,Xb N T x) with h|h
   ·exact .inr (by unfold Uc at h;rw[h];simp)
   ·exact .inr (by unfold Uc at h;simp[h])
  ·rcases Pf N T P q with h|h
   ·exact .inl h
   ·exact .inr (by unfold Uc at h;simp[h])
theorem Dn{N T}{x:Int}{b:Zl}(h:TrOk N T)(hx:1<=x):∀ (P:List Int) (q:Int×Int),(∀ z∈P,z∈N)->Uc (N++[x]) (T++[b]) q P=Uc N T q P
 | [],_,_=>rfl
 | y :: P,q,hP=>by
  have e:=h.wrk_same (b:=b) hx (.inr (hP y (by simp)));have r:=λq=>Dn (b:=b) h hx P q (λz Q=>hP z (by simp[Q]));unfold Uc at r ⊢;rw[List.foldl_cons,List.foldl_cons,e];split
  ·exact r _
  ·exact r _
theorem TrOk.wrk_zero{N T}(h:TrOk N T):Xb N T 0=0:=by
 unfold Xb pthD;rw[fnd_out h.len h.zero];rfl
theorem best_more{N T}{x:Int}{b:Zl}(h:TrOk N T)(hn:nextD N T x b=0)(m n:Int)(hm:bstGo N T 0 0 N=m)(z:bstGo (N++[x]) (T++[b]) 0 0 (N++[x])=n) :
  (m=0\/m∈N)/\(n=m\/n=x)/\(n=0\/n∈N++[x])/\Xb N T m<=Xb (N++[x]) (T++[b]) n/\Xb (N++[x]) (T++[b]) x<=Xb (N++[x]) (T++[b]) n:=by
 obtain⟨h1,h2,h3,h4,h5⟩:=nextD_ok hn;rw[Hv] at hm z
 have e:Uc (N++[x]) (T++[b]) (0,0) (N++[x])=Uc (N++[x]) (T++[b]) (Uc N T (0,0) N) [x]:=by
  have:=Dn (b:=b) h h1.1 N (0,0) (λaj hz=>hz);unfold Uc at this ⊢;rw[List.foldl_append,this]
 have hw:=Pe N T N (0,0) h.wrk_zero.symm;have ab:=Pf N T N (0,0);rw[e] at z;obtain⟨mm,hq⟩:∃ mm,Uc N T (0,0) N=(m,mm):=⟨_,Prod.ext hm rfl⟩;rw[hq] at hw ab z;simp only at hw ab;have Q:m=0\/m∈N:=ab;have ad:=h.wrk_same (b:=b) h1.1 Q;unfold Uc at z;rw[List.foldl_cons,List.foldl_nil] at z;simp only at z;split at z
 ·next q=>
  have:x=n:=z;subst this;refine⟨Q,.inr rfl,.inr (by simp),?_,Int.le_refl _⟩;rw[hw] at q;omega
 ·next q=>
  have:m=n:=z;subst this;refine⟨Q,.inl rfl,?_,by rw[ad];exact Int.le_refl _,?_⟩
  ·rcases Q with q|q
   ·exact .inl q
   ·exact .inr (by simp[q])
  ·rw[ad];rw[hw] at q;omega
theorem addE_ok{N:List Int}{T}{x:Int}{b:Zl}{N' T'}(h:addE N T x b=(N',T',0)):chkTr N T=0/\nextD N T x b=0/\N.length≠24/\N'=N++[x]/\T'=T++[b]:=by
 unfold addE at h;split at h
 ·next q=>exact absurd (congrArg (·.2.2) h) q
 ·next q=>
  split at h
  ·next q2=>exact absurd (congrArg (·.2.2) h) q2
  ·next q2=>
   split at h
   ·next q3=>have:=congrArg (·.2.2) h;simp at this
   ·next q3=>exact⟨bQ.1 q,bQ.1 q2,q3,(congrArg (·.1) h).symm,(congrArg (·.2.1) h).symm⟩
theorem pathE_mk{N T}{y:Int}(h:chkTr N T=0)(Q:y=0\/y∈N):pathE N T y=(pthD N T y,0):=by
 unfold pathE
 rw[if_neg (by simp[h]),if_neg (by
  rintro ⟨e,z⟩
  rcases Q with q|q
  ·exact e q
  ·simp[q] at z)]
theorem workE_mk{N T}{y:Int}(h:chkTr N T=0)(z:y=0\/y∈N):workE N T y=(Xb N T y,0):=by
 unfold workE;rw[pathE_mk h z,if_neg (by simp)];rfl
theorem Zel{N T}(h:chkTr N T=0):bstD N T=(bstGo N T 0 0 N,0):=by
 unfold bstD;rw[if_neg (by simp[h])]
theorem Zqi{N T}(z:Xj T)(y:Int):0<=Xb N T y/\Xb N T y<=1000000:=by
 have h1:=Ae z (pthD N T y) 0 (N:=N);have h2:=D7 (N:=N) z y;unfold Xb;omega
theorem grow_facts{N:List Int}{T}{x:Int}{b:Zl}{N':List Int}{T'}(h:addE N T x b=(N',T',0)) :
  ∃ m n v u own up P,bstD N T=(m,0)/\bstD N' T'=(n,0)/\workE N T m=(v,0)/\workE N' T' n=(u,0)/\pathE N T b.1=(P,0)/\pathE N' T' x=(P++[x],0)/\workE N' T' x=(own,0)/\workE N T b.1=(up,0) /\
   v<=u/\own<=u/\own=up+b.2.2.1/\(n=m\/n=x)/\0<=up/\up<=1000000/\1<=b.2.2.1/\b.2.2.1<=1000/\P.length<=1000/\N'.take N.length=N/\N'.length=N.length+1:=by
 obtain⟨h1,h2,h3,rfl,rfl⟩:=addE_ok h;have ok:=TrOk.of h1;obtain⟨g1,g2,g3,Q,g5⟩:=nextD_ok h2;have z:=chkTr_snoc h1 h2 h3;obtain⟨f1,f2,f3,f4,f5⟩:=best_more ok h2 _ _ rfl rfl;have hb:=chkB_head g2;have hw:=Zqi (N:=N) ok.heads b.1;refine⟨_,_,_,_,_,_,_,Zel h1,Zel z,workE_mk h1 f1,workE_mk z f3,pathE_mk h1 Q,by rw[pathE_mk z (.inr (by simp)),ok.pth_new h2],workE_mk z (.inr (by simp)),workE_mk h1 Q,f4,f5,ok.wrk_new h2,f2,hw.1,hw.2,hb.2.2.1,hb.2.2.2,D7 ok.heads b.1,by simp,by simp⟩
theorem Fb:∀ (U N:List Int),U.Nodup->(∀ x∈U,x∈N)->U.length<=N.length
 | [],_,_,_=>aL _
 | x :: U,N,h,hs=>by
  have hx:x∈N:=hs x (by simp);have z:=List.nodup_cons.1 h;have h1:=Fb U (N.erase x) z.2 (λy Q=>(List.mem_erase_of_ne (λ(e:y=x)=>z.1 (e ▸ Q))).2 (hs y (by simp[Q])));rw[List.length_erase_of_mem hx] at h1;have:0<N.length:=List.length_pos_of_mem hx;simp only[cL];omega
theorem Mf:∀ (M:List Int) (U:List Zl) (N:List Int) (T:List Zl),M.length=U.length->Xq N T M U=0->∀ i (h:i<M.length) (h':i<U.length),nextD (N++M.take i) (T++U.take i) M[i] U[i]=0
 | [],_,_,_,_,_,_,h,_=>absurd h (by simp)
 | _ :: _,[],_,_,h,_,_,_,_=>by cases h
 | x :: M,b :: U,N,T,hl,hc,0,_,_=>by
  rw[Xq] at hc;split at hc
  ·next q=>exact absurd hc q
  ·next q=>simpa using bQ.1 q
 | x :: M,b :: U,N,T,hl,hc,i+1,h,h'=>by
  rw[Xq] at hc;split at hc
  ·next q=>exact absurd hc q
  ·next q=>
   have:=Mf M U _ _ (by simpa using hl) hc i (by simpa using h) (by simpa using h');simpa using this
theorem ahead{N:List Int}{T:List Zl}(hc:chkTr N T=0)(i:Nat)(h:i<N.length)(h':i<T.length):fnd N[i] N T=T[i]/\(T[i].1=0\/T[i].1∈N.take i):=by
 obtain⟨hl,_,_,ab⟩:=Vb hc;have h1:=Mf N T [] [] hl ab i h h';simp only[List.nil_append] at h1;obtain⟨_,_,q3,q4,_⟩:=nextD_ok h1;refine⟨?_,q4⟩;have z:N=N.take i++(N[i] :: N.drop (i+1)):=by rw[<-aI h,List.take_append_drop]
 have Q:T=T.take i++(T[i] :: T.drop (i+1)):=by rw[<-aI h',List.take_append_drop]
 have:=fnd_app_r (N:=N.take i) (M:=N[i] :: N.drop (i+1)) (T:=T.take i) (U:=T[i] :: T.drop (i+1)) (by rw[bP,bP];omega) q3;rw[<-z,<-Q] at this;rw[this];simp[fnd]
structure Sub(U:List Int)(V:List Zl)(N:List Int)(T:List Zl):Prop where
 chk:chkTr U V=0
 mem:∀ y∈U,y∈N
 same:∀ y∈U,fnd y U V=fnd y N T
theorem Sub.nil(N T):Sub [] [] N T:=⟨rfl,λ_ h=>(by cases h),λ_ h=>(by cases h)⟩
theorem Sub.all{U V N T}(h:Sub U V N T)(z:chkTr N T=0){y:Int}(Q:y=0\/y∈U):fnd y U V=fnd y N T:=by
 by_cases e:y∈U
 ·exact h.same y e
 ·have aa:y=0:=by rcases Q with q|q;exact q;exact absurd q e
  subst aa;rw[fnd_out (TrOk.of h.chk).len e,fnd_out (TrOk.of z).len (TrOk.of z).zero]
theorem Sub.step{U V}{N:List Int}{T:List Zl}(h:Sub U V N T)(hc:chkTr N T=0){k:Nat}(hk:k<N.length)(ae:k<T.length){z V'}(ha:addE U V N[k] T[k]=(z,V',0)):Sub z V' N T/\z=U++[N[k]]:=by
 obtain⟨h1,h2,h3,rfl,rfl⟩:=addE_ok ha;have ok:=TrOk.of h1;obtain⟨g1,_,g3,_,_⟩:=nextD_ok h2;refine⟨⟨chkTr_snoc h1 h2 h3,λy Q=>?_,λy Q=>?_⟩,rfl⟩
 ·rcases bA.1 Q with q|q
  ·exact h.mem y q
  ·rw[bX.1 q];exact aQ hk
 ·rcases bA.1 Q with q|q
  ·rw[ok.same g1.1 (.inr q)];exact h.same y q
  ·rw[bX.1 q,ok.new g3,(ahead hc k hk ae).1]
theorem Sub.must{U V}{N:List Int}{T:List Zl}(h:Sub U V N T)(z:chkTr N T=0){i:Nat}(hi:i<N.length)(ac:i<T.length)(ha:∀ j (hj:j<N.length),j<i->N[j]∈U)(hn:N[i]∉U):∃ U' V',addE U V N[i] T[i]=(U',V',0):=by
 have okN:=TrOk.of z;have an:=TrOk.of h.chk;obtain⟨e1,e2⟩:=ahead z i hi ac;have Q:N[i]∈N:=aQ hi
 have af:T[i].1=0\/T[i].1∈U:=by
  rcases e2 with q|q
  ·exact .inl q
  ·obtain⟨j,hj,ej⟩:=List.getElem_of_mem q;rw[bP] at hj;rw[List.getElem_take] at ej;rw[<-ej];exact .inr (ha j (by omega) (by omega))
 have hh:=okN.hgt _ Q;rw[e1,<-h.all z af] at hh;have am:nextD U V N[i] T[i]=0:=Zko (okN.nm _ Q) (okN.chk _ (aQ ac)) hn af hh
 have al:U.length≠24:=by
  have h1:=Fb (N[i] :: U) N (List.nodup_cons.2 ⟨hn,an.nd⟩) (λx hx=>by
   rcases aU.1 hx with rfl|hx
   ·exact Q
   ·exact h.mem x hx)
  have h2:=(Vb z).2.1;simp only[cL] at h1;omega
 refine⟨U++[N[i]],V++[T[i]],?_⟩;unfold addE;rw[if_neg (by simp[h.chk]),if_neg (by simp[am]),if_neg al]
theorem Sub.full{U:List Int}{V}{N:List Int}{T}(h:Sub U V N T)(hc:chkTr N T=0)(ha:∀ j (z:j<N.length),N[j]∈U):U.length=N.length/\∀ y∈N,y∈U:=by
 have Q:∀ y∈N,y∈U:=λy hy=>by
  obtain⟨j,z,rfl⟩:=List.getElem_of_mem hy;exact ha j z
 have h1:=Fb U N (TrOk.of h.chk).nd h.mem;have h2:=Fb N U (TrOk.of hc).nd Q;exact⟨by omega,Q⟩
theorem Sub.up{U V N T}(h:Sub U V N T)(z:chkTr N T=0):∀ (d:Nat) (y:Int),(y=0\/y∈U)->upD U V d y=upD N T d y
 | 0,_,_=>rfl
 | d+1,y,hy=>by
  rw[upD,upD,<-h.all z hy,h.up z d _ ((TrOk.of h.chk).up y)]
theorem Sub.wk{U V N T}(h:Sub U V N T)(Q:chkTr N T=0):∀ (P:List Int) (s:Int),(∀ z∈P,z=0\/z∈U)->Wq U V s P=Wq N T s P
 | [],_,_=>rfl
 | y :: P,s,hP=>by
  rw[Wq,Wq,h.all Q (hP y (by simp)),h.wk Q P _ (λz hz=>hP z (by simp[hz]))]
theorem Eu(N T):∀ (P D:List Int) (q:Int×Int),(∀ y∈D,Xb N T y<q.2\/Xb N T y=q.2/\q.1<=y)->∀ y,y∈D\/y∈P->Xb N T y<(Uc N T q P).2\/Xb N T y=(Uc N T q P).2/\(Uc N T q P).1<=y
 | [],D,q,h,y,z=>by
  rcases z with z|z
  ·exact h y z
  ·cases z
 | x :: P,D,q,h,y,z=>by
  have aa:Uc N T q (x :: P)=Uc N T (if q.2<Xb N T x\/Xb N T x=q.2/\x<q.1 then (x,Xb N T x) else q) P:=rfl;rw[aa]
  refine Eu N T P (x :: D) _ (λac Q=>?_) y (by
   rcases z with z|z
   ·exact .inl (by simp[z])
   ·rcases aU.1 z with rfl|z
    ·exact .inl (by simp)
    ·exact .inr z)
  rcases aU.1 Q with rfl|Q
  ·split
   ·exact .inr ⟨rfl,Int.le_refl _⟩
   ·next q1=>omega
  ·have:=h ac Q;split
   ·next q1=>simp only;omega
   ·exact this
theorem best_max{N T}(h:TrOk N T):(bstGo N T 0 0 N=0\/bstGo N T 0 0 N∈N)/\(∀ y∈N,Xb N T y<Xb N T (bstGo N T 0 0 N)\/Xb N T y=Xb N T (bstGo N T 0 0 N)/\bstGo N T 0 0 N<=y):=by
 rw[Hv];have z:=Pe N T N (0,0) h.wrk_zero.symm;rw[<-z];exact⟨Pf N T N (0,0),λy Q=>Eu N T N [] (0,0) (λ_ q=>by cases q) y (.inr Q)⟩
end Tr
open Go.RowKit
theorem Vj{N:List Int}{T:List Zl}(z:Tr.chkTr N T=0):N.length=T.length/\N.length<=24/\(∀ x∈N,(Lit.int .i64 x).wf=true)/\(∀ b∈T,(Lit.int .i64 b.1).wf=true)/\(∀ b∈T,Tr.BlkSmall b)/\∀ s,0<=Yh N T s/\Yh N T s<=1000:=by
 have ok:=Tr.TrOk.of z
 have h24:N.length<=24:=by
  unfold Tr.chkTr at z;split at z
  ·cases z
  split at z
  ·cases z
  omega
 refine⟨ok.len,h24,λx hx=>?_,λb Q=>?_,λb Q=>Tr.blk_small (ok.chk b Q),λs=>?_⟩
 ·have:=ok.nm x hx;exact Ur (by omega) (by omega)
 ·have h1:=ok.chk b Q;obtain⟨p,h,k,n,L⟩:=b;have h2:=(Un h1).1;simp[W9] at h2;exact Ur (by simp only;omega) (by simp only;omega)
 ·unfold Yh Tr.blockE;rw[if_neg (λq=>q z)];split
  ·rename_i q;have:=Qw (ok.chk _ (Tr.fnd_at ok.len (by simpa using q)));simp only;omega
  ·exact⟨Int.le_refl _,by decide⟩
theorem Yb{N T}{z:Int}(h:Tr.bstD N T=(z,0)):Tr.chkTr N T=0/\(z=0\/z∈N):=by
 unfold Tr.bstD at h;split at h
 ·rename_i q;injection h with _ h;exact absurd h q
 ·rename_i q;injection h with h _;have Q:=Decidable.not_not.1 q;exact⟨Q,h ▸ (Tr.best_max (Tr.TrOk.of Q)).1⟩
theorem Zgp(w:World):(Instr.makeMap 252 none).run Tryz.prog w = .ok (.map (some w.heap.size)) (w.alloc (.map #[] 0)):=by kernel_rfl
def Zmt(Z:Nat->Prop)(w:World)(d bm m:Nat)(K:List ByteArray)(N:List Int)(T:List Zl)(P:List TxD)(tip:Int)(β : Int->List Zj):Prop:=
 ∃ ka kn kc na nn nc ba bn bc pa pn pc f,DeskAt Z w d bm m ka kn kc K na nn nc N ba bn bc T pa pn pc P tip f β
theorem C7{V w6 z:World}{d bm B A:Nat}{ka na ba pa kn kc nn nc bn bc pn pc K N T P}{tip:Int}(hK:Fresh A V (λw2=>Bk.TextsAt w2 ka kn K))(sk:SlOk ka kn kc)(hb:ZD V w6)(hF:Fresh B w6 (λw2=>Tr.IntsAt w2 na nn N/\Tr.BlksAt w2 ba bn T/\TxsAt w2 pa pn P))(sn:SlOk na nn nc)(sb:SlOk ba bn bc)(sp:SlOk pa pn pc)
  (h67:ZD w6 z) (box:z.heap[d]? = some (cZ [F ka kn kc,F na nn nc,F ba bn bc,F pa pn pc,E J tip,.map (some bm)].toArray 254 (0,0))) (hm:BMap bm 0 (λ_=>Bv) z) (h1:V.heap.size<=bm) (h2:w6.heap.size<=d) (h3:bm<B\/w6.heap.size<=bm) (h4:d≠bm) (hA:A<=B) (hA2:A<=V.heap.size) :
  DeskAt (λq=>q<A) z d bm 0 ka kn kc K na nn nc N ba bn bc T pa pn pc P tip (λ_=>Bv) noB:=by
 have hs:=hb.size;have ag:=h67.size;refine⟨box,λW g=>?_,λW _ x=>⟨none,0,0,rfl,RowsAt.nil _ _,Zq⟩,sk,sn,sb,sp,hm,h4,λq e=>by have e:q<A:=e;omega⟩
 have gV:Gr V W (λq=>q<A):=((Gr.of (Zf hb h67)):Gr V z (λq=>q<A)).far g (λq e=>by
  rcases e with e|e|e
  ·exact .inl (by omega)
  ·exact .inl (by omega)
  ·exact .inr e)
 have g6:Gr w6 W (λq=>q<B):=((Gr.of h67):Gr w6 z (λq=>q<B)).far g (λq e=>by
  rcases e with e|e|e
  ·omega
  ·omega
  ·exact .inr (aD e hA))
 have Q:=hF W g6;exact⟨hK W gV,Q.1,Q.2.1,Q.2.2⟩
def OpnR(w w':World)(x:Int)(K:List ByteArray)(N:List Int)(T:List Zl)(P:List TxD)(tip:Int)(β : Int->List Zj)(e:Ending):Prop:=
 ZD w w'/\((x≠0/\e = dA (dB #[dC none,E J x]))\/(x=0/\∃ d bm m,e = dA (dB #[dC (some ⟨d,0,none⟩),E J 0])/\Zmt (λq=>q<w.heap.size) w' d bm m K N T P tip β/\w.heap.size<=d/\w.heap.size<=bm/\m<=24))
theorem Ld(ka kn kc K na ba pa nn nc bn bc pn pc N T P)(tip x:Int)(w)(hE:Env w)(hK:Bk.TextsAt w ka kn K)(hN:Tr.IntsAt w na nn N)(hT:Tr.BlksAt w ba bn T)(hP:TxsAt w pa pn P)(sN:SlOk na nn nc)(sT:SlOk ba bn bc)(sP:SlOk pa pn pc)(hp:pn<=2513169434916)(hq:∀ t∈P,Tr.TxSmall t)(hx:opE K N T P tip=x) :
  Calls Tryz.prog 107 #[.agg #[F ka kn kc],.agg #[F na nn nc,F ba bn bc,F pa pn pc,.int .i64 tip]] w λe w'=>OpnR w w' x K N T P tip (Z0 K N T noB).2 e:=by
 obtain⟨X,hX⟩:=ZG (Yw w [cZ #[F ka kn kc] 24,cZ #[F na nn nc,F ba bn bc,F pa pn pc,.int .i64 tip] 67]);have dv:X=(w.alloc (cZ #[F ka kn kc] 24)).alloc (cZ #[F na nn nc,F ba bn bc,F pa pn pc,.int .i64 tip] 67):=hX;have ce:ZD w X:=by rw[hX];exact Zs _ _
 have dw:X.heap.size=w.heap.size+2:=by rw[hX];exact Z3 _ _
 have x0:=kl0 hX _ _ rfl;have x1:=kl hX 1 _ _ rfl;obtain⟨⟨M,Z,gn⟩,hz⟩:=ZF (Bk.allR K [])
 have cn:gn=Bk.bkChk K/\(gn=0->M=K):=by
  unfold Bk.allR at hz;split at hz
  ·rename_i q;rw[Bk.nmGo] at hz;simp only[Prod.mk.injEq] at hz;exact⟨by rw[<-hz.2.2,q],λ_=>hz.1.symm⟩
  ·rename_i q;simp only[Prod.mk.injEq] at hz;exact⟨hz.2.2.symm,λe=>absurd (hz.2.2.trans e) q⟩
 have C1:=Zd (Bk.all_isF ka none kn kc 0 0 K [] M Z gn X (hK.later ce) ⟨rfl,λh=>absurd h (by omega)⟩ (by omega) hz);obtain⟨⟨b,y⟩,hy⟩:=ZF (Tr.bstD N T);have C2:=Zd (λV (hv:ZD w V)=>Tr.best_is na ba nn nc bn bc N T b y V (hN.later hv) (hT.later hv) sN sT hy);obtain⟨⟨u,γ⟩,Q⟩:=ZF (Z0 K N T noB);unfold opE at hx;rw[<-cn.1,hy,Q] at hx;simp only at hx;rw[Q];simp only;obtain⟨HX,ff,df,dm,fc,fd,HY,HU⟩:=kh8 hx cn ce dw x0 x1 hy Q;obtain⟨HE,HN,HT,HP,et,ev,eu,er⟩:=kh8 hE hN hT hP sN sT sP hp;have HQ:=Zd hq;obtain⟨t0,tl⟩:=kc1 x0;clear hE hK hN hT hP sN sT sP hp hq hx ce dw x0 x1 hX hz cn hy Q;go_enter Tryz.func107,Tryz.ntmps107;go_wp2_with fail;rw[<-dv];clear dv;(try go_wp2_with fail);refine C1.mono ?_;rintro e w1 ⟨⟨a',n',c',a2,n2,c2,rfl,dt,eg,_,_,_⟩,av⟩;have h10:=ZE av fc;have h11:=ZE av fd;obtain⟨y0,yf,yl⟩:=kf1 h10;obtain⟨V,hV⟩:=ZG (w1.setCell ⟨w.heap.size,0,none⟩ (F a' n' c'));have g1:Gr w1 V (λq=>q=w.heap.size):=by rw[hV];exact (Gr.refl w1 (λq=>q=w.heap.size)).one w.heap.size 0 (.inl rfl) _
 have v0:V.heap[w.heap.size]? = some (cZ #[F a' n' c'] 24 (0,0)):=by rw[hV];exact Vt h10
 have v1:=g1.heap h11 (by omega);have cd:ZD w V:=g1.below (Zf df av) (Zf df av).size (λq e=>by have e:q=w.heap.size:=e;omega);have dj:Hid (Fresh w.heap.size V (λw2=>Bk.TextsAt w2 a' n' M)):=λW g=>dt W ((g1.mono (λq _ e=>by have e:q=w.heap.size:=e;have:=Za dm;omega)).trans (g.mono (λq _ e=>by have e:q<w.heap.size:=e;have:=Za dm;omega)));obtain⟨be,ey,ez,dk⟩:=kh4 cd v0 v1 eg;obtain⟨q0,q1,-,q3,ql⟩:=kc4 v1;obtain⟨p0,p1,pl⟩:=kc2 h11;have D2:=Zd (C2 V cd);clear av h10 h11 g1 v0 v1 cd dt eg C1 C2 t0 tl;by_cases z0:gn=0
 ·subst z0;obtain rfl:=ff.2 rfl;go_wp2_with fail;rw[<-hV];clear hV y0 yf yl p0 p1 pl;(try go_wp2_with fail);refine D2.mono ?_;rintro e w2 ⟨rfl,aw⟩;obtain⟨ac,bf⟩:=kh2 (Zf be aw) aw;have h20:=ZE aw ey;have h21:=ZE aw ez;obtain⟨fz,ga⟩:=kh2 h20 h21;have r0:=Zb h20 0 _ rfl;obtain⟨s0,s1,s2,s3,-⟩:=kc4 h21;have rl:=lt_of_block h20;have sl:=lt_of_block h21;clear aw h20 h21 D2 q0 q1 q3 ql;by_cases bq:y=0
  ·subst bq;by_cases cw:b=tip
   ·subst cw;have cl:=Za HX;rw[if_neg (λq=>q rfl),if_neg (λq=>q rfl),if_neg (λq=>q rfl)] at cl;have bg:=Zd cl;clear cl HX;obtain⟨hc,eb⟩:=Yb HY;obtain⟨f1,f2,f3,f4,f5,f6⟩:=Vj hc;have fg:bn=nn:=(by have q1:=HN.1;have q2:=HT.1;omega);subst fg;have gj:bn<=24:=(by have q1:=HN.1;omega);have CN:=Zd (λU (hv:ZD w U)=>Di na ba pa bn nc bc pn pc N T P b U (HN.later hv) (HT.later hv) (HP.later hv) et ev eu (by omega) f5 er HQ);have fb:Hid ((Lit.int .i64 b).wf=true):=(by rcases eb with q|q;exact Ur (by omega) (by omega);exact f3 b q);obtain⟨en,dh,eo,ep,di⟩:=kh5 f1 f2 f3 f4 (f6 b);have fh:=Zgp;clear hc eb f1 f2 f3 f4 f5 f6;have KS:Hid (∀ U:World,ZD w2 U->((U.cell? ⟨w.heap.size,0,none⟩=some (F a' n' c')/\w.heap.size<U.heap.size)/\U.cell? ⟨w.heap.size+1,0,none⟩=some (F na bn nc)/\U.cell? ⟨w.heap.size+1,1,none⟩=some (F ba bn bc)/\U.cell? ⟨w.heap.size+1,2,none⟩=some (F pa pn pc)/\U.cell? ⟨w.heap.size+1,3,none⟩=some (.int .i64 b)/\w.heap.size+1<U.heap.size)):=λU Q=>⟨⟨Ze Q r0,aD rl Q.size⟩,Ze Q s0,Ze Q s1,Ze Q s2,Ze Q s3,aD sl Q.size⟩
    go_upto_region 9 with fail
    clear r0 s0 s1 s2 s3 rl sl
    go_cut [9] from 34 to 39 (λs9 wx=>∃ d bm:Nat,s9 = .pointer (some ⟨d,0,none⟩)/\Hid (∃ na' nc' ba' bc' pa' pc',DeskAt (λq=>q<w.heap.size) wx d bm 0 a' n' c' M na' bn nc' N ba' bn bc' T pa' pn pc' P b (λ_=>Bv) noB)/\Hid (ZD w wx/\w.heap.size<=d/\w.heap.size<=bm))
    case first=>
     refine wp_region_held_drew (S:=λU=>(U.cell? ⟨w.heap.size,0,none⟩=some (F a' n' c')/\w.heap.size<U.heap.size)/\U.cell? ⟨w.heap.size+1,0,none⟩=some (F na bn nc)/\U.cell? ⟨w.heap.size+1,1,none⟩=some (F ba bn bc)/\U.cell? ⟨w.heap.size+1,2,none⟩=some (F pa pn pc)/\U.cell? ⟨w.heap.size+1,3,none⟩=some (.int .i64 b)/\w.heap.size+1<U.heap.size) (by kernel_rfl) (KS _ (Zi _)) (λz=>?_);refine tkL 0 rfl z ?_;refine tkL 1 rfl z ?_;refine wpAnyH_ready (rs:=[2,3]) (by kernel_rfl) (by simp) ?_;refine rdC rfl (λKQ hK=>?_) (rdC rfl (λKQ hK=>?_) AllReadyH.nil)
     ·have hb:=Zi w2;refine Zo (by kernel_rfl) 171 #[.agg #[F na bn nc,F ba bn bc,F pa pn pc,.int .i64 b]] (by kernel_rfl) (CN w2.drew (Zf ac hb)) ?_;rintro e w5 ⟨na',nc',ba',bc',pa',pc',rfl,cb,ct,cq,cu,ax⟩;refine⟨_,rfl,?_⟩;have aa:=Zf hb ax;clear z;refine hK.out _ _ (KS _ aa) (λz=>?_);clear hK KQ;(try simp only[Act.put,ZA,ZB,ZC]);refine rdY 3 rfl (λKQ hK=>?_);go_simp;obtain⟨w6,az⟩:=ZG (w5.alloc (.map #[] 0));rw[<-az];have bi:ZD w5 w6:=(by rw[az];exact Zh _ _);have cj:BMap w5.heap.size 0 (λ_=>Bv) w6:=(by rw[az];exact BMap.made w5);have ea:w6.heap.size=w5.heap.size+1:=(by rw[az];simp);clear az;clear z;refine hK.out _ _ (KS _ (Zf aa bi)) (λz=>?_);clear hK KQ;refine tkL 4 rfl z ?_;refine rdY 5 rfl (λKQ hK=>?_);go_simp;obtain⟨w7,bb,ae,bv⟩:=ka00 w6 [F a' n' c',F na' bn nc',F ba' bn bc',F pa' pn pc',.int .i64 b,.map (some w5.heap.size)] 254;rw[<-bb];clear bb;clear z;refine hK.out _ _ (KS _ (Zf (Zf aa bi) ae)) (λz=>?_);clear hK KQ;refine tkL 6 rfl z ?_;refine wpAnyH_done (by kernel_rfl) ?_ _;clear z;go_wp2_with fail;go_meet
      case rel=>
       have s2:=ac.size;have s5:=aa.size;have sV:=bf.size;exact⟨w6.heap.size,w5.heap.size,(by first|rfl|rw[ea]),⟨na',nc',ba',bc',pa',pc',C7 (V:=V) (B:=w2.drew.heap.size) dj dk (Zf bf aa) cb ct cq cu (Zf bi ae) bv (cj.keep ae) (by omega) (by omega) (.inr (aF _)) (by omega) (by have:=ac.size;show w.heap.size<=w2.heap.size;omega) be.size⟩,Zf (Zf ac aa) (Zf bi ae),by omega,by omega⟩
     ·go_simp;obtain⟨v6,ay⟩:=ZG ((w2.alloc (.map #[] 0)).drew);rw[<-ay];have hb:ZD w2 v6:=(by rw[ay];exact Zf (Zh _ _) (Zi _));have cj:BMap w2.heap.size 0 (λ_=>Bv) v6:=(by rw[ay];exact (BMap.made w2).heap rfl);have ea:v6.heap.size=w2.heap.size+1:=(by rw[ay];simp);clear ay;clear z;refine hK.out _ _ (KS _ hb) (λz=>?_);clear hK KQ;(try simp only[Act.put,ZA,ZB,ZC]);refine rdS 2 rfl (CN v6 (Zf ac hb)) ?_;rintro e w5 ⟨na',nc',ba',bc',pa',pc',rfl,cb,ct,cq,cu,ax⟩;have aa:=Zf hb ax;clear z;refine⟨_,rfl,(KS _ aa),λz=>?_⟩;refine tkL 4 rfl z ?_;refine rdY 5 rfl (λKQ hK=>?_);go_simp;obtain⟨w7,bb,ae,bv⟩:=ka00 w5 [F a' n' c',F na' bn nc',F ba' bn bc',F pa' pn pc',.int .i64 b,.map (some w2.heap.size)] 254;rw[<-bb];clear bb;clear z;refine hK.out _ _ (KS _ (Zf aa ae)) (λz=>?_);clear hK KQ;refine tkL 6 rfl z ?_;refine wpAnyH_done (by kernel_rfl) ?_ _;clear z;go_wp2_with fail;go_meet
      case rel=>
       have s2:=ac.size;have s5:=ax.size;have sV:=bf.size;exact⟨w5.heap.size,w2.heap.size,rfl,⟨na',nc',ba',bc',pa',pc',C7 (V:=V) (B:=v6.heap.size) dj dk (Zf bf aa) cb ct cq cu ae bv ((cj.keep ax).keep ae) (by omega) (aF _) (.inl (by omega)) (by omega) (by have:=ac.size;omega) be.size⟩,Zf (Zf ac aa) ae,by omega,by omega⟩
    case rest=>
     obtain⟨d,bm,rfl,hD,hL⟩:=hcut;obtain⟨na',nc',ba',bc',pa',pc',hD⟩:=Za hD;obtain⟨cg,hd,cf⟩:=Za hL;obtain⟨E1,de,ej,dd⟩:=kh4 (Zcg hD w cg cf HE en dh eo ep u γ HU) cg hd cf;clear hD hL cg hd cf KS CN fh;go_wp2_with fail;refine E1.mono ?_;rintro e w8 ⟨rfl,dz,bz⟩;have bj:ZD w w8:=dz.below de de.size (λq e=>by have e:q=bm:=e;have:=Za dd;omega);have db:=Zd bj;clear dz E1;by_cases u0:u=0
     ·subst u0;obtain⟨f',ca⟩:=bz rfl;have cm:=Za bg;rw[if_neg (λq=>q rfl)] at cm;obtain⟨E2,el⟩:=kh2 (Zlw ca (HE.later bj) fb di.1 di.2 x cm) ca;clear bz ca bj bg cm;go_wp2_with fail;refine E2.mono ?_;rintro e w9 ⟨rfl,cc⟩;obtain⟨dc,ek⟩:=kh2 (Zf db cc) (el.later cc);clear cc E2;by_cases x0:x=0
      ·subst x0;go_wp2;go_ret2;exact⟨Za dc,.inr ⟨rfl,d,bm,_,rfl,⟨_,_,_,_,_,_,_,_,_,_,_,_,_,Za ek⟩,Za ej,Za dd,Za dh⟩⟩
      ·have gx:(x != 0)=true:=(by simp[x0]);go_wp2;go_ret2;exact⟨Za dc,.inl ⟨x0,rfl⟩⟩
     ·have gu:(u != 0)=true:=(by simp[u0]);have ak:Hid (x=u):=(by have q:=Za bg;rw[if_pos u0] at q;exact q.symm);clear bg bz bj;go_wp2;go_ret2;rw[Za ak];exact⟨Za db,.inl ⟨u0,rfl⟩⟩
   ·have gt:(b != tip)=true:=(by simp[cw]);have ak:Hid (x=4):=(by have q:=Za HX;rw[if_neg (λq=>q rfl),if_neg (λq=>q rfl),if_pos cw] at q;exact q.symm);clear HX;go_wp2;go_ret2;rw[Za ak];exact⟨Za ac,.inl ⟨by decide,rfl⟩⟩
  ·have gy:(y != 0)=true:=(by simp[bq]);have ak:Hid (x=y):=(by have q:=Za HX;rw[if_neg (λq=>q rfl),if_pos bq] at q;exact q.symm);clear HX;go_wp2;go_ret2;rw[Za ak];exact⟨Za ac,.inl ⟨bq,rfl⟩⟩
 ·have gz:(gn != 0)=true:=by simp[z0]
  have ak:Hid (x=gn):=by have q:=Za HX;rw[if_pos z0] at q;exact q.symm
  have fa:=Zd hV;clear HX hV D2;go_wp2;rw[<-Za fa];go_ret2;rw[Za ak];exact⟨Za be,.inl ⟨z0,rfl⟩⟩
section
variable {Z : Nat -> Prop} {w w' : World} {d bm m : Nat} {ka na ba pa ka' na' ba' pa' : Option Addr} {kn kc nn nc bn bc pn pc kn' kc' nn' nc' bn' bc' pn' pc' : Nat} {K K' : List ByteArray} {N N' : List Int} {T T' : List Zl} {P P' : List TxD} {tip tip' : Int} {f : Int -> Value} {β : Int -> List Zj}
theorem DeskAt.set(h:DeskAt Z w d bm m ka kn kc K na nn nc N ba bn bc T pa pn pc P tip f β)(g:Gr w w' (λq=>q=d))
  (box:w'.heap[d]? = some (cZ [F ka' kn' kc',F na' nn' nc',F ba' bn' bc',F pa' pn' pc',E J tip',.map (some bm)].toArray 254 (0,0)))
  (D:∀ W,Gr w' W (λq=>q=d\/q=bm\/Z q)->Ri W ka kn K na nn N ba bn T pa pn P->Bk.TextsAt W ka' kn' K'/\Tr.IntsAt W na' nn' N'/\Tr.BlksAt W ba' bn' T'/\TxsAt W pa' pn' P')
  (Q:SlOk ka' kn' kc') (s2:SlOk na' nn' nc') (s3:SlOk ba' bn' bc') (s4:SlOk pa' pn' pc'):DeskAt Z w' d bm m ka' kn' kc' K' na' nn' nc' N' ba' bn' bc' T' pa' pn' pc' P' tip' f β:=by
 refine⟨box,λW z=>?_,λW z=>h.coi W ((g.mono (λq _ e=>.inl e)).trans z),Q,s2,s3,s4,h.mp.gr g (λe=>h.ne (by have e:bm=d:=e;exact e.symm)),h.ne,λq e=>aD (h.zb q e) g.size⟩;have D0:=h.dat W ((g.mono (λq _ e=>.inl e)).trans z);obtain⟨h1,h2,h3,h4⟩:=D W z D0;exact⟨h1,h2,h3,h4⟩
theorem DeskAt.swept(h:DeskAt Z w d bm m ka kn kc K na nn nc N ba bn bc T pa pn pc P tip f β){V z:World}(hv:ZD w V)(h1:ZD V z)(hF:Fresh V.heap.size z (λw2=>Bk.TextsAt w2 ka' kn' K'/\TxsAt w2 pa' pn' P'))(s1:SlOk ka' kn' kc')(s4:SlOk pa' pn' pc')
  (g:Gr z w' (λq=>q=d)) (box:w'.heap[d]? = some (cZ [F ka' kn' kc',F na nn nc,F ba bn bc,F pa' pn' pc',E J tip,.map (some bm)].toArray 254 (0,0))) :
  DeskAt Z w' d bm m ka' kn' kc' K' na nn nc N ba bn bc T pa' pn' pc' P' tip f β/\Gr w w' (λq=>q=d):=by
 have gw:Gr w w' (λq=>q=d):=(Gr.of (Zf hv h1)).trans g;have l1:=lt_of_block h.box;have l2:=h.mp.lt;have l3:=hv.size;refine⟨h.set gw box (λW gW D0=>?_) s1 h.sn h.sb s4,gw⟩;have Q:=hF W ((g.mono (λq _ e=>by have e:q=d:=e;omega)).trans (gW.mono (λq _ e=>e.elim (λe=>by omega) (λe=>e.elim (λe=>by omega) (λe=>aD (h.zb q e) l3)))));exact⟨Q.1,D0.n,D0.b,Q.2⟩
end
def Zad(K:List ByteArray)(C:List Zj)(P:List TxD)(h:Int):List ByteArray×List TxD×Int:=
 if 1000<h then (K,P,0) else ((swF K C P h (swE K C P h)).1,(swF K C P h (swE K C P h)).2.1,swE K C P h)
def Zpq(Z:Nat->Prop)(w w':World)(d bm m:Nat)(K:List ByteArray)(na:Option Addr)(nn nc:Nat)(N:List Int)(ba:Option Addr)(bn bc:Nat)(T:List Zl)(P:List TxD)(tip:Int)(f:Int->Value)(β : Int->List Zj):Prop:=
 ∃ ka kn kc pa pn pc,DeskAt Z w' d bm m ka kn kc K na nn nc N ba bn bc T pa pn pc P tip f β/\Gr w w' (λq=>q=d)
