import Derived.Test.YtmomfkikogbdeaaGreatDoorH
import Derived.Test.YtmomfkikogbdeaaGreatDoorG26
open Go.Proofs.Tryz
open Go renaming maxLen->bP,lt_of_block->aA,bodyPost_ret->bA,wpAnyH_ready->aG
open Go.Act renaming put->aC
open Go.Callee renaming value->aP
open Go.Ending renaming returned->cY
open Go.IntKind renaming i64->J
open Go.Obj renaming cells->cW
open Go.Proofs.Tryz renaming prog->aB
open Go.RowKit renaming intOf->cE,Below->aD
open Go.Value renaming int->E,slice->F,tuple->cZ,pointer->dA,bool->dB
open Go.World renaming block_lt_of_cell?->aF,cell?->bF
open List renaming take_of_length_le->aL,length_eq_zero_iff->aI
open Nat renaming zero_le->aQ,lt_of_lt_of_le->aE
set_option maxHeartbeats 12800000
set_option maxRecDepth 10000
namespace Go.Proofs.YtmomfkikogbdeaaGreatDoor.Bk
open Go.RowKit
theorem Db{s:ByteArray}{L:List ByteArray}{j:Nat}(h:j<L.length)(h0:place s (L.take j)=0)(e:L[j]≠s):place s (L.take (j+1))=0:=by
 rw[place_zero] at *;rw[List.take_succ_eq_append_getElem h];simp only[List.mem_append,List.mem_singleton,not_or];exact⟨h0,λq=>e q.symm⟩
theorem P7{s:ByteArray}:∀ {A B:List ByteArray},place s A=0->place s (A++s :: B)=A.length+1
 | [],B,_=>by simp[place]
 | x :: A,B,h=>by
  have hx:x≠s:=λq=>by simp[place,q] at h
  have z:place s A=0:=by
   rw[place_zero] at *;exact λq=>h (List.mem_cons_of_mem _ q)
  rw[List.cons_append,place,if_neg hx,P7 z,if_neg (by omega),List.length_cons]
theorem Aq{s:ByteArray}{L:List ByteArray}{j:Nat}(h:j<L.length)(h0:place s (L.take j)=0)(e:L[j]=s):place s L=j+1:=by
 have h1:L=L.take j++s :: L.drop (j+1):=by
  conv=>lhs;rw[<-List.take_append_drop j L,List.drop_eq_getElem_cons h,e]
 rw[h1,P7 h0,List.length_take];omega
theorem indexS_is(a:Option Addr)(n c:Nat)(L:List ByteArray)(s:ByteArray)(x:Int)(w:World)(hn:n<=bP)(h:TextsAt w a n L)(hx:(place s L:Int) - 1=x) :
  ZH 291 #[F a n c,.string s] w (E J x):=by
 have HT:=Zd h;have HX:=Zd hx;unfold bP at hn;clear h hx;go_enter func291,ntmps291;go_wp2
 go_loop [8] (λi=>∃ j:Nat,j<=n/\i = E J j/\Hid (place s (L.take j)=0)) (λi=>n - (cE i).toNat)
 case atStart=>exact⟨0,aQ _,rfl,rfl⟩
 case round=>
  obtain⟨j,hk,rfl,A⟩:=hrel;by_cases aj:j<n
  ·obtain⟨hz,ad⟩:=Za HT;obtain⟨b,off,rfl,hc⟩:=ad (by omega);have h1:j<L.length:=(by omega);have f:=hc j h1;have Q:=Zd (Db h1 A);have z:=Zd (Aq h1 A);obtain⟨t,ht⟩:=ZF (L[j]);rw[ht] at f Q z;clear ht A hc ad hz;by_cases e:t=s
   ·subst e;have R:Hid (x=j):=(by show _=_;rw[<-Za HX,(Za z) rfl];omega);clear Q z;go_wp2;go_ret;exact⟨by rw[Za R];rfl,Below.refl _ _⟩
   ·have R:=Zd (Q e);have g:=Zcr (λh:s=t=>e h.symm);clear Q z e;go_wp2
    go_round
    case rel=>exact⟨j+1,by omega,by go_num,R⟩
    case measure=>simp[cE];omega
  ·have R:Hid (x = -1):=by
    have h:=Za A;rw[aL (by rw[(Za HT).1];omega)] at h;show _=_;rw[<-Za HX,h];rfl
   clear A;go_wp2;go_ret;exact⟨by rw[Za R];rfl,Below.refl _ _⟩
end Bk
open Go.RowKit
def KAt(w:World)(d:Nat)(K:List ByteArray):Prop:=∃ ka kn kc,w.cell? ⟨d,0,none⟩=some (F ka kn kc)/\Bk.TextsAt w ka kn K/\SlOk ka kn kc/\d<w.heap.size
theorem KAt.later{w w':World}{d:Nat}{K:List ByteArray}(h:KAt w d K)(z:aD w.heap.size w w'):KAt w' d K:=by
 obtain⟨ka,kn,kc,h1,h2,h3,h4⟩:=h;exact⟨ka,kn,kc,Ze z h1,h2.later z,h3,aE h4 z.size⟩
def knT(K:List ByteArray)(t:TxD):Bool:=decide (Zv t=0) && !decide (Bk.place (txT t) K=0)
def kbD(K:List ByteArray)(s:Int)(b:Zl):Bool:=decide (Yn b=0) && (decide ((Bk.place (Fy b) K:Int)=s) && b.2.2.2.2.all (knT K))
theorem K5(d:Nat)(s:ByteArray)(K:List ByteArray)(x:Int)(w:World)(h:KAt w d K)(hx:(Bk.place s K:Int)=x) :
  ZH 261 #[dA (some ⟨d,0,none⟩),.string s] w (E J x):=by
 obtain⟨ka,kn,kc,h1,h2,h3,h4⟩:=h;have C1:=Zd (Bk.indexS_is ka kn kc K s (x - 1) w h3.len h2 (by omega));have hl:=Bk.place_le s K;have hk:=h2.1;have hs:kn<=9223372036854775807:=h3.len;have ae:IntKind.i64.wrap (x - 1+1)=x:=by rw[IntKind.wrap_i64];omega
 have af:IntKind.i64.wrap x=x:=by rw[IntKind.wrap_i64];omega
 have he:x - 1+1=x:=by omega
 clear h2 h3 hx hl hk hs;go_enter func261,ntmps261;go_wp2_with fail;refine C1.mono ?_;rintro e w1 ⟨rfl,z⟩;have Q:=Zd z;clear z C1;go_wp2;go_ret;exact⟨by simp,Za Q⟩
theorem L6(q d:Nat)(K:List ByteArray)(w:World)(hE:Env w)(hq:w.cell? ⟨q,0,none⟩=some (dA (some ⟨d,0,none⟩)))(hK:KAt w d K) :
  Cj 262 #[dA (some ⟨q,0,none⟩)] w (λx=>!knT K x) where
 enters:=enters_of (fn:=Tryz.f262) (by kernel_rfl) (by kernel_rfl) rfl
 call V hV th ai ao ni ci no co I O hI hO sI sO:=by
  obtain⟨X,hX⟩:=ZG (V.alloc (cW #[E J th,F ai ni ci,F ao no co] 59));have Q:aD V.heap.size V X:=by rw[hX];exact Zh _ _
  have z:X.heap[V.heap.size]? = some (cW [E J th,F ai ni ci,F ao no co].toArray 59 (0,0)):=by rw[hX];exact Zw _ _ _ _ _
  have ae:=Zf hV Q;obtain⟨x1,af⟩:=ZF (Zv (th,I,O));obtain⟨T,hT⟩:=ZF (txT (th,I,O));obtain⟨y,hy⟩:=ZF ((Bk.place T K:Int));have C1:=Zd (Pe th ai ao ni ci no co I O T x1 X (hE.later ae) (hI.later Q) (hO.later Q) sI af hT);have C2:=Zd (λU (hu:aD w.heap.size w U)=>K5 d T K y U (hK.later hu) hy)
  have HG:Hid ((!knT K (th,I,O))=(decide (x1≠0) || decide (y=0))):=by
   show _=_;unfold knT;rw[af,hT,<-hy];by_cases e:x1=0
   ·simp[e]
   ·simp[e]
  show Calls _ _ _ _ (λe w'=>e = cY (dB (!knT K (th,I,O)))/\_);rw[Za HG];have t0:=Zb z 0 _ rfl;have t1:=Zb z 1 _ rfl;have t2:=Zb z 2 _ rfl;have tl:=aA z;have HB:=Zd Q;have am:=Zd ae;have HQ:=Zd hq;clear hE hq hK hV hI hO sI sO Q z ae af hT hy HG;go_enter func262,ntmps262;go_wp2_with fail;rw[<-hX];clear hX;(try go_wp2_with fail);refine C1.mono ?_;rintro e w1 ⟨rfl,ac⟩;have ak:=Zd (Zf HB ac);have C3:=Zd (C2 w1 (Zf am ac));have q1:=Ze (Zf am ac) HQ;have ql:=aF _ _ q1;clear ac C1 C2 t0 t1 t2 tl;by_cases e1:x1=0
  ·subst e1;go_wp2_with fail;refine C3.mono ?_;rintro e w2 ⟨rfl,an⟩;have aq:=Zd (Zf ak an);clear an C3;go_wp2;go_ret;exact⟨by cases h:decide (y=0) <;> simp_all,Za aq⟩
  ·have gx:(x1 != 0)=true:=(by simp[e1]);go_wp2;go_ret;exact⟨by simp[e1],Za ak⟩
theorem Cw(K:List ByteArray):∀ (L:List TxD),(!(L.any λx=>!knT K x))=L.all (knT K)
 | []=>rfl
 | t :: L=>by
  rw[List.any_cons,List.all_cons,<-Cw K L];cases knT K t <;> simp
theorem K8(d:Nat)(K:List ByteArray)(a:Option Addr)(n c:Nat)(L:List TxD)(o:Bool)(w:World)(hE:Env w)(hK:KAt w d K)(hL:TxsAt w a n L)(hn:n<=bP)(ho:L.all (knT K)=o) :
  ZH 217 #[dA (some ⟨d,0,none⟩),F a n c] w (dB o):=by
 obtain⟨X,Q⟩:=ZG (w.alloc (cW #[dA (some ⟨d,0,none⟩)] 181));have z:aD w.heap.size w X:=by rw[Q];exact Zh _ _
 have ab:X.heap[w.heap.size]? = some (cW [dA (some ⟨d,0,none⟩)].toArray 181 (0,0)):=by rw[Q];exact Yl _ _ _
 have C1:=Zd (Hv _ _ _ a n c L (!o) X (L6 w.heap.size d K X (hE.later z) (Zb ab 0 _ rfl) (hK.later z)) (hL.later z) hn (by rw[<-ho,<-Cw,Bool.not_not]));have HB:=Zd z;clear hE hK hL hn ho z ab;go_enter func217,ntmps217;go_wp2_with fail;rw[<-Q];clear Q;(try go_wp2_with fail);refine C1.mono ?_;rintro e w1 ⟨rfl,hb⟩;have ag:=Zd (Zf HB hb);clear hb C1;go_wp2;go_ret;exact⟨by simp,Za ag⟩
theorem Zar(d:Nat)(K:List ByteArray)(s p h k o:Int)(a:Option Addr)(m c:Nat)(T:List TxD)(y:Bool)(w:World)(hE:Env w)(hK:KAt w d K)(hT:TxsAt w a m T)(sT:SlOk a m c)(hy:kbD K s (p,h,k,o,T)=y) :
  ZH 216 #[dA (some ⟨d,0,none⟩),E J s,.agg #[E J p,E J h,E J k,E J o,F a m c]] w (dB y):=by
 obtain⟨X,hX⟩:=ZG (w.alloc (cW #[E J p,E J h,E J k,E J o,F a m c] 39));have ad:aD w.heap.size w X:=by rw[hX];exact Zh _ _
 have z:X.heap[w.heap.size]? = some (cW [E J p,E J h,E J k,E J o,F a m c].toArray 39 (0,0)):=by rw[hX];exact Zu _ _ _ _ _ _ _
 obtain⟨x1,al⟩:=ZF (Yn (p,h,k,o,T));obtain⟨t,ht⟩:=ZF (Fy (p,h,k,o,T));obtain⟨bs,hz⟩:=ZF ((Bk.place t K:Int));obtain⟨g,hg⟩:=ZF (T.all (knT K));have C1:=Zd (Fz p h k o a m c T t x1 X (hE.later ad) (hT.later ad) al ht);have C2:=Zd (λU (Q:aD w.heap.size w U)=>K5 d t K bs U (hK.later Q) hz);have C3:=Zd (λU (Q:aD w.heap.size w U)=>K8 d K a m c T g U (hE.later Q) (hK.later Q) (hT.later Q) sT.len hg)
 have HY:Hid ((decide (x1=0) && (decide (bs=s) && g))=y):=by
  show _=_;rw[<-hy];unfold kbD;rw[al,ht,hz];simp only;rw[hg]
 have HB:=Zd ad;have bg:=Zd z;have e0:=Zb z 0 _ rfl;have e1:=Zb z 1 _ rfl;have e2:=Zb z 2 _ rfl;have e3:=Zb z 3 _ rfl;have e4:=Zb z 4 _ rfl;have el:=aA z;clear hE hK hT sT hy ad z al ht hz hg;go_enter func216,ntmps216;go_wp2_with fail;rw[<-hX];clear hX;(try go_wp2_with fail);refine C1.mono ?_;rintro e w1 ⟨rfl,ab⟩;have ag:=Zd (Zf HB ab);have be:=Zd ab;have D2:=Zd (C2 w1 (Zf HB ab));clear ab C1 C2 e0 e1 e2 e3 e4 el;by_cases q1:x1=0
 ·subst q1;go_wp2_with fail;refine D2.mono ?_;rintro e w2 ⟨rfl,ac⟩;have ax:=Zd (Zf ag ac);have D3:=Zd (C3 w2 (Zf ag ac));have h2:=ZE (Zf be ac) bg;have e4:=Zb h2 4 _ rfl;have el:=aA h2;clear ac D2 C3 h2;by_cases q2:bs=s
  ·subst q2;go_wp2_with fail;refine D3.mono ?_;rintro e w3 ⟨rfl,bb⟩;have bf:=Zd (Zf ax bb);clear bb D3;go_wp2;go_ret;exact⟨by rw[<-Za HY];simp,Za bf⟩
  ·have gz:(bs == s)=false:=(by simp[q2]);go_wp2;go_ret;exact⟨by rw[<-Za HY];simp[q2],Za ax⟩
 ·have gx:(x1 == 0)=false:=by simp[q1]
  go_wp2;go_ret;exact⟨by rw[<-Za HY];simp[q1],Za ag⟩
namespace Tr
open Go.RowKit
def blockE(N:List Int)(T:List Zl)(s:Int):Zl×Int:=
 if chkTr N T≠0 then (Yq,chkTr N T) else if decide (s∈N)=true then (fnd s N T,0) else (Yq,5)
theorem fnd_at{N:List Int}{T:List Zl}{s:Int}(z:N.length=T.length)(h:s∈N):fnd s N T∈T:=by
 rcases Rw s N T 0 z with ⟨_,q,_⟩|⟨i,hi,_,_,q⟩
 ·exact absurd h q
 ·rw[q];exact List.getElem_mem hi
def Zfv(w w':World)(x:Zl)(y:Int)(e:Ending):Prop:=
 ∃ z Q tc,e = cY (cZ #[.agg #[E J x.1,E J x.2.1,E J x.2.2.1,E J x.2.2.2.1,F z Q tc],E J y])/\TxsAt w' z Q x.2.2.2.2/\SlOk z Q tc/\aD w.heap.size w w'
theorem Hi{w w':World}{y:Int}(z:aD w.heap.size w w'):Zfv w w' Yq y (cY (cZ #[.agg #[E J 0,E J 0,E J 0,E J 0,F none 0 0],E J y])):=
 ⟨none,0,0,rfl,RowsAt.nil _ _,⟨Nat.le_refl _,aQ _,λ_=>⟨rfl,rfl⟩⟩,z⟩
theorem Mx(W:World)(t:Nat)(a b c d e:Value):Gr W (((((W.setCell ⟨t,0,none⟩ a).setCell ⟨t,1,none⟩ b).setCell ⟨t,2,none⟩ c).setCell ⟨t,3,none⟩ d).setCell ⟨t,4,none⟩ e) (λq=>q=t):=
 (((((Gr.refl W (λq=>q=t)).one t 0 (.inl rfl) _).one t 1 (.inl rfl) _).one t 2 (.inl rfl) _).one t 3 (.inl rfl) _).one t 4 (.inl rfl) _
theorem block_is(a b:Option Addr)(n c m d:Nat)(N:List Int)(T:List Zl)(s:Int)(x:Zl)(y:Int)(w:World)(hN:IntsAt w a n N)(hT:BlksAt w b m T)(sN:SlOk a n c)(sT:SlOk b m d)(hx:blockE N T s=(x,y)) :
  Calls aB 20 #[.agg #[F a n c,F b m d],E J s] w λe w'=>Zfv w w' x y e:=by
 obtain⟨X,hX⟩:=ZG ((w.alloc (cW #[F a n c,F b m d] 28)).alloc (cW #[E J 0,E J 0,E J 0,E J 0,F none 0 0] 39));have ad:aD w.heap.size w X:=by rw[hX];exact Zf (Zh _ _) (Zh _ _)
 have ae:X.heap[w.heap.size]? = some (cW [F a n c,F b m d].toArray 28 (0,0)):=by rw[hX,Below.heap_alloc _ _ _ (by simp)];exact Yt _ _ _ _
 have av:X.heap[w.heap.size+1]? = some (cW [E J 0,E J 0,E J 0,E J 0,F none 0 0].toArray 39 (0,0)):=by
  rw[hX];have:=Zu (w.alloc (cW #[F a n c,F b m d] 28)) (E J 0) (E J 0) (E J 0) (E J 0) (F none 0 0) 39;rw[show (w.alloc (cW #[F a n c,F b m d] 28)).heap.size=w.heap.size+1 by simp] at this;exact this
 have HB:=Zd ad;have ce:=Zd ae;have bf:=Zd av;obtain⟨dq,hz⟩:=ZF (chkTr N T);have C1:=Zd (Qf a b n c m d N T dq X (hN.later ad) (hT.later ad) sN sT hz);have x0:=Zb ae 0 _ rfl;have x1:=Zb ae 1 _ rfl;have xl:=aA ae;unfold blockE at hx;rw[hz] at hx;by_cases q:dq=0
 ·subst q;rw[if_neg (by simp)] at hx;obtain⟨hl,h24,hH,bo⟩:=Vt hz;obtain rfl:n=m:=by rw[<-hN.1,<-hT.1,hl]
  have az:n<=bP:=sN.len;obtain⟨o,ho⟩:=ZF (decide (s∈N));rw[ho] at hx;have C2:=Zd (λW (hb:aD X.heap.size X W)=>Be a b n c n d N s o W az (hN.later (Zf ad hb)) ho);cases o with
  | false=>
   rw[if_neg (by simp)] at hx;obtain⟨rfl,rfl⟩:Yq=x/\5=y:=⟨congrArg Prod.fst hx,congrArg Prod.snd hx⟩;clear ad ae av hN hT sN sT hz hx hl h24 hH bo ho az;go_enter func20,ntmps20;go_wp2_with fail;rw[<-hX];clear hX;refine C1.mono ?_;rintro e w1 ⟨rfl,Q⟩;have CC:=Zd (C2 _ Q);have hc:=ZE Q ce;have aj:=ZE Q bf;have H0:=Zd hc;have H1:=Zd aj;have t0:=Zb hc 0 _ rfl;have t1:=Zb hc 1 _ rfl;have tl:=aA hc;have cb:=Zd Q;have ah:=Zd (Zf HB Q);clear Q x0 x1 xl hc aj C1 C2;go_wp2_with fail;refine CC.mono ?_;rintro e w2 ⟨rfl,ac⟩;have z:=ZE ac H1;have z0:=Zb z 0 _ rfl;have f0:=Zg z 0;have z1:=Zb z 1 _ rfl;have f1:=Zg z 1;have z2:=Zb z 2 _ rfl;have f2:=Zg z 2;have z3:=Zb z 3 _ rfl;have f3:=Zg z 3;have z4:=Zb z 4 _ rfl;have f4:=Zg z 4;have zl:=aA z;clear z;have be:=Zd (Zf ah ac);clear ac t0 t1 tl;go_wp2;(try simp only[Exit.inBlock,Exit.then]);refine bA (v:=cZ #[.agg #[E J 0,E J 0,E J 0,E J 0,F none 0 0],E J 5]) ?_ rfl (Hi ?_)
   ·rw[Zo rfl];go_simp
   ·exact (Mx _ _ _ _ _ _ _).below be (by omega) (λk hk=>by omega)
  | true=>
   rw[if_pos rfl] at hx;obtain⟨bj,rfl⟩:fnd s N T=x/\0=y:=⟨congrArg Prod.fst hx,congrArg Prod.snd hx⟩;have cp:x∈T:=(by rw[<-bj];exact fnd_at hl (by simpa using ho));have cq:=blk_small (J9 N T [] [] hl bo x cp);have C3:=Zd (λW (hb:aD X.heap.size X W)=>S9 a b n c d N T s x W az (hN.later (Zf ad hb)) (hT.later (Zf ad hb)) bj);have cd:=Zd cq;clear ad ae av hN hT sN sT hz hx hl h24 hH bo ho az bj cp cq;obtain⟨p,h,k,r,L⟩:=x;go_enter func20,ntmps20;go_wp2_with fail;rw[<-hX];clear hX;refine C1.mono ?_;rintro e w1 ⟨rfl,Q⟩;have CC:=Zd (C2 _ Q);have hc:=ZE Q ce;have aj:=ZE Q bf;have H0:=Zd hc;have H1:=Zd aj;have t0:=Zb hc 0 _ rfl;have t1:=Zb hc 1 _ rfl;have tl:=aA hc;have cb:=Zd Q;have ah:=Zd (Zf HB Q);clear Q x0 x1 xl hc aj C1 C2;go_wp2_with fail;refine CC.mono ?_;rintro e w2 ⟨rfl,ac⟩;have C4:=Zd (C3 _ (Zf cb ac));have ay:=ZE ac H0;have z:=ZE ac H1;have HD:=Zd z;have u0:=Zb ay 0 _ rfl;have u1:=Zb ay 1 _ rfl;have ul:=aA ay;have dd:=Zd (Zf ah ac);clear ac ay z t0 t1 tl CC C3;go_wp2_with fail;refine C4.mono ?_;rintro e w3 ⟨ta,tn,tc,rfl,hL,sL,ax⟩;have hL:TxsAt w2 ta tn L:=hL;have C5:=Zd (clBlock_is p h k r ta tn tc L w3 (hL.later ax) sL (by rw[<-hL.1];exact cd.1) cd.2);have z:=ZE ax HD;have cc:=Zd z;have de:=Zd (Zf dd ax);have dl:=Zd hL.1;clear ax z hL sL u0 u1 ul C4;unfold Ji;go_wp2_with fail;refine C5.mono ?_;rintro e w4 ⟨a',c',rfl,hf,bi⟩;have z:=ZE bi cc;have z0:=Zb z 0 _ rfl;have f0:=Zg z 0;have z1:=Zb z 1 _ rfl;have f1:=Zg z 1;have z2:=Zb z 2 _ rfl
   have f2:=Zg z 2;have z3:=Zb z 3 _ rfl;have f3:=Zg z 3;have z4:=Zb z 4 _ rfl;have f4:=Zg z 4;have zl:=aA z;clear z;have hg:=Mx w4 (w.heap.size+1) (E J p) (E J h) (E J k) (E J r) (F a' tn c');have di:=aA cc;have HW:=Zd (hf _ (hg.mono λq _ e=>by omega));have be:Hid (aD w.heap.size w (((((w4.setCell ⟨w.heap.size+1,0,none⟩ (E J p)).setCell ⟨w.heap.size+1,1,none⟩ (E J h)).setCell ⟨w.heap.size+1,2,none⟩ (E J k)).setCell ⟨w.heap.size+1,3,none⟩ (E J r)).setCell ⟨w.heap.size+1,4,none⟩ (F a' tn c'))):=hg.below (Zf de bi) (by omega) (λk hk=>by omega);clear bi hf hg di C5;go_wp2;(try simp only[Exit.inBlock,Exit.then]);refine bA (v:=cZ #[.agg #[E J p,E J h,E J k,E J r,F a' tn c'],E J 0]) ?_ rfl ?_
   ·rw[Zo rfl];go_simp
   ·obtain⟨a2,n2,c2,e2,f1,f2⟩:=Za HW;cases e2;exact⟨_,_,_,rfl,f1,f2,Za be⟩
 ·rw[if_pos q] at hx;obtain⟨rfl,rfl⟩:Yq=x/\dq=y:=⟨congrArg Prod.fst hx,congrArg Prod.snd hx⟩;have g:(dq != 0)=true:=by simp[q]
  clear ad ae av hN hT sN sT hz hx q;go_enter func20,ntmps20;go_wp2_with fail;rw[<-hX];clear hX;refine C1.mono ?_;rintro e w1 ⟨rfl,Q⟩;have z:=ZE Q bf;have z0:=Zb z 0 _ rfl;have f0:=Zg z 0;have z1:=Zb z 1 _ rfl;have f1:=Zg z 1;have z2:=Zb z 2 _ rfl;have f2:=Zg z 2;have z3:=Zb z 3 _ rfl;have f3:=Zg z 3;have z4:=Zb z 4 _ rfl;have f4:=Zg z 4;have zl:=aA z;clear z;have ah:=Zd (Zf HB Q);clear Q x0 x1 xl C1;go_wp2;(try simp only[Exit.inBlock,Exit.then]);refine bA (v:=cZ #[.agg #[E J 0,E J 0,E J 0,E J 0,F none 0 0],E J dq]) ?_ rfl (Hi ?_)
  ·rw[Zo rfl];go_simp
  ·exact (Mx _ _ _ _ _ _ _).below ah (by omega) (λk hk=>by omega)
end Tr
open Go.RowKit
def Ho(w:World)(q:Nat):Prop:=(∀ (j:Nat) (i z:Int),w.cell? ⟨q,j,none⟩=some (E J i)->w.cell? ⟨q,j+1,none⟩=some (E J z)->False)/\∀ (j:Nat) (s:ByteArray),w.cell? ⟨q,j,none⟩≠some (.string s)
theorem At{w:World}{q:Nat}{z:Array MapEntry}{c:Nat}(h:w.heap[q]? = some (.map z c)):Ho w q:=by
 refine⟨λj i Q h1 _=>?_,λj s h1=>?_⟩ <;> simp[bF,h] at h1
theorem Di{w:World}{q:Nat}{a b c d:Option Addr}{n1 c1 n2 z n3 Q n4 c4:Nat}{t:Int}{m:Option Nat}{ty:TypeId}(h:w.heap[q]? = some (cW [F a n1 c1,F b n2 z,F c n3 Q,F d n4 c4,E J t,.map m].toArray ty (0,0))):Ho w q:=by
 refine⟨λj i i' h1 h2=>?_,λj s h1=>?_⟩
 ·match j with
  | 0=>simp[bF,h] at h1
  | 1=>simp[bF,h] at h1
  | 2=>simp[bF,h] at h1
  | 3=>simp[bF,h] at h1
  | 4=>simp[bF,h] at h2
  | 5=>simp[bF,h] at h1
  | j+6=>simp[bF,h] at h1
 ·match j with
  | 0=>simp[bF,h] at h1
  | 1=>simp[bF,h] at h1
  | 2=>simp[bF,h] at h1
  | 3=>simp[bF,h] at h1
  | 4=>simp[bF,h] at h1
  | 5=>simp[bF,h] at h1
  | j+6=>simp[bF,h] at h1
theorem Zja{w w':World}{S:Nat->Prop}(g:Gr w w' S)(Q:∀ q,S q->Ho w q){a:Option Addr}{n:Nat}{l:List (Int×Int)}(h:OpsAt w a n l):OpsAt w' a n l:=by
 refine⟨h.1,λh0=>?_⟩;obtain⟨b,off,rfl,hc⟩:=h.2 h0;refine⟨b,off,rfl,λi hi=>?_⟩;obtain⟨c0,c1⟩:=hc i hi;have z:¬S b:=λq=>(Q b q).1 _ _ _ c0 c1;exact⟨g.cell c0 z,g.cell c1 z⟩
theorem Zev{w w':World}{S:Nat->Prop}(g:Gr w w' S)(Q:∀ q,S q->Ho w q){a:Option Addr}{n:Nat}{C:List Zj}(h:CoinsAt w a n C):CoinsAt w' a n C:=by
 refine⟨h.1,λh0=>?_⟩;obtain⟨b,off,rfl,hl,hc⟩:=h.2 h0;refine⟨b,off,rfl,aE hl g.size,λi hi=>?_⟩;obtain⟨c0,c1,c2,⟨la,ln,lc,c3,h5,h6⟩,c4,c5⟩:=hc i hi;have z:¬S b:=λq=>(Q b q).1 _ _ _ c0 c1;exact⟨g.cell c0 z,g.cell c1 z,g.cell c2 z,⟨la,ln,lc,g.cell c3 z,Zja g Q h5,h6⟩,g.cell c4 z,g.cell c5 z⟩
def Sp(β : Int->List Zj)(s:Int)(C:List Zj):Int->List Zj:=λx=>if x=s then C else β x
structure Qw(w:World)(ka:Option Addr)(kn:Nat)(K:List ByteArray)(na:Option Addr)(nn:Nat)(N:List Int)(ba:Option Addr)(bn:Nat)(T:List Zl)(pa:Option Addr)(pn:Nat)(P:List TxD):Prop where
 k:Bk.TextsAt w ka kn K
 n:Tr.IntsAt w na nn N
 b:Tr.BlksAt w ba bn T
 p:TxsAt w pa pn P
def Zft(w:World)(f:Int->Value)(β : Int->List Zj):Prop:=∀ x,∃ a m c,f x = F a m c/\CoinsAt w a m (β x)/\SlOk a m c
structure DeskAt(Z:Nat->Prop)(w:World)(d bm m:Nat)(ka:Option Addr)(kn kc:Nat)(K:List ByteArray)(na:Option Addr)(nn nc:Nat)(N:List Int)(ba:Option Addr)(bn bc:Nat)(T:List Zl)(pa:Option Addr)(pn pc:Nat)(P:List TxD)(tip:Int)(f:Int->Value)(β : Int->List Zj):Prop where
 box:w.heap[d]? = some (cW [F ka kn kc,F na nn nc,F ba bn bc,F pa pn pc,E J tip,.map (some bm)].toArray 254 (0,0))
 dat:∀ W,Gr w W (λq=>q=d\/q=bm\/Z q)->Qw W ka kn K na nn N ba bn T pa pn P
 coi:∀ W,Gr w W (λq=>q=d\/q=bm)->Zft W f β
 sk:SlOk ka kn kc
 sn:SlOk na nn nc
 sb:SlOk ba bn bc
 sp:SlOk pa pn pc
 mp:BMap bm m f w
 ne:d≠bm
 zb:∀ q,Z q->q<w.heap.size
section
variable {Z : Nat -> Prop} {w w' : World} {d bm m : Nat} {ka na ba pa : Option Addr} {kn kc nn nc bn bc pn pc : Nat} {K : List ByteArray} {N : List Int} {T : List Zl} {P : List TxD} {tip : Int} {f : Int -> Value} {β : Int -> List Zj}
theorem DeskAt.now(h:DeskAt Z w d bm m ka kn kc K na nn nc N ba bn bc T pa pn pc P tip f β):Qw w ka kn K na nn N ba bn T pa pn P:=h.dat w (Gr.refl _ _)
theorem DeskAt.c(h:DeskAt Z w d bm m ka kn kc K na nn nc N ba bn bc T pa pn pc P tip f β):Zft w f β:=h.coi w (Gr.refl _ _)
theorem DeskAt.later(h:DeskAt Z w d bm m ka kn kc K na nn nc N ba bn bc T pa pn pc P tip f β)(z:aD w.heap.size w w'):DeskAt Z w' d bm m ka kn kc K na nn nc N ba bn bc T pa pn pc P tip f β:=
 ⟨(z.block d (aA h.box)).trans h.box,λW g=>h.dat W ((Gr.of z).trans g),λW g=>h.coi W ((Gr.of z).trans g),h.sk,h.sn,h.sb,h.sp,h.mp.keep z,h.ne,λq e=>aE (h.zb q e) z.size⟩
theorem DeskAt.np(h:DeskAt Z w d bm m ka kn kc K na nn nc N ba bn bc T pa pn pc P tip f β)(q:Nat)(hq:q=d\/q=bm):Ho w q:=by
 rcases hq with rfl|rfl
 ·exact Di h.box
 ·obtain⟨Q,c,z⟩:=h.mp.isMap;exact At z
theorem DeskAt.book(h:DeskAt Z w d bm m ka kn kc K na nn nc N ba bn bc T pa pn pc P tip f β):KAt w d K:=⟨ka,kn,kc,Zb h.box 0 _ rfl,h.now.k,h.sk,aA h.box⟩
theorem DeskAt.put(h:DeskAt Z w d bm m ka kn kc K na nn nc N ba bn bc T pa pn pc P tip f β){W:World}(hb:aD w.heap.size w W){s:Int}{a:Option Addr}{n c:Nat}{C:List Zj}(Q:CoinsAt W a n C)(sC:SlOk a n c)
  (hm:BMap bm (m+1) (λy=>if y=s then F a n c else f y) w') (hg:W.grownBy w' (some bm)):DeskAt Z w' d bm (m+1) ka kn kc K na nn nc N ba bn bc T pa pn pc P tip (λy=>if y=s then F a n c else f y) (Sp β s C):=by
 have h2:=h.later hb;have g:Gr W w' (λq=>q=bm):=(Gr.refl W (λq=>q=bm)).grown hg (λq e=>.inl (by injection e with e;exact e.symm));have g2:Gr W w' (λq=>q=d\/q=bm):=g.mono (λq _ e=>.inr e);refine⟨g.heap h2.box h.ne,λV z=>h2.dat V ((g.mono (λq _ e=>.inr (.inl e))).trans z),λV z=>?_,h.sk,h.sn,h.sb,h.sp,hm,h.ne,λq e=>aE (h2.zb q e) g.size⟩;have D:=h2.coi V (g2.trans z);intro x;unfold Sp;by_cases e:x=s
 ·simp only[if_pos e];exact⟨a,n,c,rfl,Zev (g2.trans z) (λq hq=>h2.np q hq) Q,sC⟩
 ·simp only[if_neg e];exact D x
theorem DeskAt.widen(h:DeskAt Z w d bm m ka kn kc K na nn nc N ba bn bc T pa pn pc P tip f β)(z:aD w.heap.size w w')(r:Nat)(Q:w.heap.size<=r)(aa:r<w'.heap.size):DeskAt (λq=>Z q\/q=r) w' d bm m ka kn kc K na nn nc N ba bn bc T pa pn pc P tip f β:=by
 have h2:=h.later z;refine⟨h2.box,λW g=>h.dat W ((Gr.of z).far g (λq e=>?_)),h2.coi,h2.sk,h2.sn,h2.sb,h2.sp,h2.mp,h2.ne,λq e=>?_⟩
 ·rcases e with e|e|e|e
  ·exact .inr (.inl e)
  ·exact .inr (.inr (.inl e))
  ·exact .inr (.inr (.inr e))
  ·exact .inl (e ▸ Q)
 ·rcases e with e|e
  ·exact h2.zb q e
  ·exact e ▸ aa
end
def Xl:List TxD->List TxD->Bool
 | [],[]=>true
 | x :: r,y :: q=>T5 x y && Xl r q
 | _,_=>false
theorem Po(x y:TxD):T5 x y=true↔x=y:=by
 obtain⟨a,b,c⟩:=x;obtain⟨d,e,f⟩:=y;unfold T5;simp
theorem Us:∀ (l k:List TxD),Xl l k=true↔l=k
 | [],[]=>by simp[Xl]
 | [],y :: q=>by simp[Xl]
 | x :: r,[]=>by simp[Xl]
 | x :: r,y :: q=>by rw[Xl,Bool.and_eq_true,Po,Us r q,List.cons.injEq]
theorem Th{l k:List TxD}(h:l≠k):Xl l k=false:=by
 rw[<-Bool.not_eq_true,Us];exact h
theorem Jz{l k:List TxD}(h:l=k):Xl l k=true:=(Us l k).2 h
theorem Zbd(a b:Option Addr)(n m c d:Nat)(v:Value)(w:World)(h:n≠m) :
  Calls aB 29 #[F a n c,F b m d,v] w λe w'=>e = cY (dB false)/\w=w':=by
 have g:((n:Int) != (m:Int))=true:=by simp;omega
 clear h;go_enter func29,ntmps29;go_wp2;go_ret;exact⟨rfl,rfl⟩
theorem Zbc(a b:Option Addr)(c d:Nat)(v:Value)(w:World) :
  Calls aB 29 #[F a 0 c,F b 0 d,v] w λe w'=>e = cY (dB true)/\w=w':=by
 go_enter func29,ntmps29;go_wp2;refine wp_loop_rounds 1 ?_;rw[rounds_succ];go_wp2;go_ret;exact⟨rfl,rfl⟩
theorem Zbb(b1 o1 b2 o2 n c d:Nat)(l k:List TxD)(o:Bool)(w:World)(hn:n<=bP)(z1:l.length=n)(z2:k.length=n)
  (h1:∀ i (h:i<l.length),TxAt w b1 (o1+i*3) l[i]) (h2:∀ i (h:i<k.length),TxAt w b2 (o2+i*3) k[i]) (ho:Xl l k=o) :
  ZH 29 #[F (some ⟨b1,o1,none⟩) n c,F (some ⟨b2,o2,none⟩) n d,.func (.func 30) #[] #[]] w (dB o):=by
 subst ho;unfold bP at hn;have H1:=Zd h1;have H2:=Zd h2;have Z1:=Zd z1;have Z2:=Zd z2;clear h1 h2 z1 z2;go_enter func29,ntmps29;go_wp2
 go_loopw [17] (λi wr=>∃ j:Nat,j<=n/\i = E J j/\aD w.heap.size w wr/\Hid (l.take j=k.take j)) (λi _=>n - (cE i).toNat)
 case atStart=>exact⟨0,aQ _,rfl,Below.refl _ _,rfl⟩
 case round=>
  obtain⟨j,hk,rfl,hb,A⟩:=hrel;have HB:=Zd hb;by_cases bh:j<n
  ·have al:j<l.length:=(by rw[Za Z1];exact bh);have am:j<k.length:=(by rw[Za Z2];exact bh);have g:=TxAt.kept _ _ _ _ _ hb (H1 j al);have f:=TxAt.kept _ _ _ _ _ hb (H2 j am);have TS:=Zd (Ue al am A);have TU:=Zd (Wt al am);obtain⟨q,hq⟩:=ZF (l[j]);obtain⟨r,hr⟩:=ZF (k[j]);rw[hq] at g;rw[hr] at f;rw[hq,hr] at TS TU;obtain⟨q1,I,O⟩:=q;obtain⟨r1,I',O'⟩:=r;obtain⟨g0,⟨ai,ni,ci,g1,gI,sI⟩,ao,no,co,g2,gO,sO⟩:=g;obtain⟨f0,⟨bi,mi,di,f1,fI,_⟩,bo,mo,eo,f2,fO,_⟩:=f;simp only at g0 g1 g2 f0 f1 f2 gI gO fI fO;have z:=Zf (Zh wr (cW #[E J q1,F ai ni ci,F ao no co] 59)) (Zh _ (cW #[E J r1,F bi mi di,F bo mo eo] 59));obtain⟨o',Q⟩:=ZF (T5 (q1,I,O) (r1,I',O'));have HC:=Zd (Ek q1 r1 ai ao bi bo ni ci no co mi di mo eo I I' O O' o' _ sI.len sO.len (gI.later z) (gO.later z) (fI.later z) (fO.later z) Q);have au:=Zd (Zf HB z);have cg:b2<wr.heap.size:=aF _ _ f0;have cf:(j:Int)<(n:Int):=(by omega);clear hb z gI gO fI fO sI sO hq hr A;cases o' with
   | true=>
    have T:=Zd (TS ((Po _ _).1 Q));clear TS TU Q;go_wp2_with fail;refine HC.mono ?_;rintro e w2 ⟨rfl,ab⟩;have ae:=Zd (Zf au ab);clear ab;go_wp2;go_roundw
    case rel=>exact⟨j+1,by omega,by go_num,Za ae,T⟩
    case measure=>simp[cE];omega
   | false=>
    have U:Hid (Xl l k=false):=Th (TU (λe=>by rw[(Po _ _).2 e] at Q;cases Q));clear TS TU Q;go_wp2_with fail;refine HC.mono ?_;rintro e w2 ⟨rfl,ab⟩;have ae:=Zd (Zf au ab);clear ab;go_wp2;go_ret;exact⟨by rw[Za U];rfl,Za ae⟩
  ·have U:Hid (Xl l k=true):=by
    have h:=Za A;rw[aL (by rw[Za Z1];omega),aL (by rw[Za Z2];omega)] at h;exact Jz h
   clear A hb;go_wp2;go_ret;exact⟨by rw[Za U];rfl,Za HB⟩
theorem Dx(a b:Option Addr)(n m c d:Nat)(l k:List TxD)(o:Bool)(w:World)(hn:n<=bP)(Q:TxsAt w a n l)(hB:TxsAt w b m k)(z:Xl l k=o) :
  ZH 29 #[F a n c,F b m d,.func (.func 30) #[] #[]] w (dB o):=by
 by_cases h:n=m
 ·subst h;by_cases h0:n=0
  ·subst h0;have e1:l=[]:=aI.1 Q.1;have e2:k=[]:=aI.1 hB.1;subst e1 e2;rw[Jz rfl] at z;subst z;exact (Zbc a b c d _ w).mono λe w' ⟨h1,h2⟩=>⟨h1,h2 ▸ Below.refl _ _⟩
  ·obtain⟨b1,o1,rfl,_,h1⟩:=Q.2 (by omega);obtain⟨b2,o2,rfl,_,h2⟩:=hB.2 (by omega);exact Zbb b1 o1 b2 o2 n c d l k o w hn Q.1 hB.1 h1 h2 z
 ·have e:l≠k:=λe=>h (by rw[<-Q.1,<-hB.1,e]);rw[Th e] at z;subst z;exact (Zbd a b n m c d _ w h).mono λe w' ⟨h1,h2⟩=>⟨h1,h2 ▸ Below.refl _ _⟩
theorem Tryz.underHead:Tryz.prog.underlying 187=some (.array 4 3):=by kernel_rfl
theorem Zav(p h k n pp Q kk nn:Int)(W:World):(binOp .eql 187 (.agg #[E J p,E J h,E J k,E J n]) (.agg #[E J pp,E J Q,E J kk,E J nn])).run aB W = .ok (dB ((p == pp) && ((h == Q) && ((k == kk) && (n == nn))))) W:=by
 obtain⟨i0,hi,_,_,_⟩:=info_parts Tryz.infoInt;have hk:Tryz.prog.plainKey 3=true:=by kernel_rfl
 have hc:Tryz.prog.cellsOf 3=1:=by kernel_rfl
 have p0:∀ (x y z u:Int),(part 3 #[E J x,E J y,E J z,E J u] 0).run aB W = .ok (E J x) W:=λx y z u=>run_part_plain W hk rfl;have p1:∀ (x y z u:Int),(part 3 #[E J x,E J y,E J z,E J u] 1).run aB W = .ok (E J y) W:=λx y z u=>run_part_plain W hk rfl;have p2:∀ (x y z u:Int),(part 3 #[E J x,E J y,E J z,E J u] 2).run aB W = .ok (E J z) W:=λx y z u=>run_part_plain W hk rfl;have p3:∀ (x y z u:Int),(part 3 #[E J x,E J y,E J z,E J u] 3).run aB W = .ok (E J u) W:=λx y z u=>run_part_plain W hk rfl;have q:∀ (a b:Int),(Op.equalIn 9999 3 (E J a) (E J b)).run aB W = .ok (a == b) W:=λa b=>run_equalIn_int W 9998 3 .i64 .i64 a b underlying3
 have e:(Op.equalIn 10000 187 (.agg #[E J p,E J h,E J k,E J n]) (.agg #[E J pp,E J Q,E J kk,E J nn])).run aB W = .ok ((p == pp) && ((h == Q) && ((k == kk) && (n == nn)))) W:=by
  rw[show (10000:Nat)=9999+1 from rfl,run_equalIn_array W 9999 _ _ Tryz.underHead hi,hc,show List.range 4=[0,1,2,3] from rfl];simp only[Op.eqItems,Sem.run_bind,Nat.mul_one,p0,Result.andThen_ok,q];by_cases e1:p=pp <;> by_cases e2:h=Q <;> by_cases e3:k=kk <;> by_cases e4:n=nn <;> simp[p1,p2,p3,q,e1,e2,e3,e4]
 rw[run_eql_struct,e];rfl
def Nr(b c:Zl):Bool:=(decide (b.1=c.1) && (decide (b.2.1=c.2.1) && (decide (b.2.2.1=c.2.2.1) && decide (b.2.2.2.1=c.2.2.2.1)))) && Xl b.2.2.2.2 c.2.2.2.2
theorem Ku(b c:Zl):Nr b c=true↔b=c:=by
 obtain⟨p,h,k,n,T⟩:=b;obtain⟨p2,h2,z,Q,U⟩:=c;simp only[Nr,Bool.and_eq_true,decide_eq_true_eq,Us,Prod.mk.injEq];constructor
 ·rintro ⟨⟨h1,h2,h3,h4⟩,h5⟩;exact⟨h1,h2,h3,h4,h5⟩
 ·rintro ⟨h1,h2,h3,h4,h5⟩;exact⟨⟨h1,h2,h3,h4⟩,h5⟩
theorem Xk{P:Program}{z:Array Oper}{o:Oper}{a:Act}{w:World}{K:Act->World->Prop}{ah:Exit->Act->World->Prop}{aa:Prop}
  (hw:Region.wanted o (yielded z a.tmps)=true) (f:FuncId) (Q:Array Value) (he:(execOp a.eval o).run P w = .ok (.enter f Q) w) {R:Ending->World->Prop} (hc:Calls P f Q w R) (h:∀ e w',R e w'->∃ v,e = cY v/\K (a.put o.dst v) w') :
  if Region.wanted o (yielded z a.tmps)=true then Oper.wp P o a w K ah else aa:=by
 rw[if_pos hw];unfold Oper.wp;rw[he,Oper.upon_enter];refine hc.mono ?_;intro e w' hr;obtain⟨v,rfl,hk⟩:=h e w' hr;exact hk
theorem Cf(p h k n p2 h2 k2 n2:Int)(a a2:Option Addr)(m c m2 c2:Nat)(T U:List TxD)(o:Bool)(w:World)(hm:m<=bP)(hT:TxsAt w a m T)(hU:TxsAt w a2 m2 U)(ho:Nr (p,h,k,n,T) (p2,h2,k2,n2,U)=o) :
  ZH 37 #[.agg #[E J p,E J h,E J k,E J n,F a m c],.agg #[E J p2,E J h2,E J k2,E J n2,F a2 m2 c2]] w (dB o):=by
 obtain⟨X,hX⟩:=ZG ((w.alloc (cW #[E J p,E J h,E J k,E J n,F a m c] 39)).alloc (cW #[E J p2,E J h2,E J k2,E J n2,F a2 m2 c2] 39));have ax:aD w.heap.size w X:=by rw[hX];exact Zf (Zh _ _) (Zh _ _)
 have av:X.heap[w.heap.size]? = some (cW [E J p,E J h,E J k,E J n,F a m c].toArray 39 (0,0)):=by
  rw[hX,Below.heap_alloc _ _ _ (by simp)];exact Zu _ _ _ _ _ _ _
 have aw:X.heap[w.heap.size+1]? = some (cW [E J p2,E J h2,E J k2,E J n2,F a2 m2 c2].toArray 39 (0,0)):=by
  rw[hX];have:=Zu (w.alloc (cW #[E J p,E J h,E J k,E J n,F a m c] 39)) (E J p2) (E J h2) (E J k2) (E J n2) (F a2 m2 c2) 39;rw[show (w.alloc (cW #[E J p,E J h,E J k,E J n,F a m c] 39)).heap.size=w.heap.size+1 by simp] at this;exact this
 have HB:=Zd ax
 have KS:Hid (∀ W,aD X.heap.size X W->(λW=>aD X.heap.size X W/\W.cell? ⟨w.heap.size,0,none⟩=some (E J p)/\W.cell? ⟨w.heap.size,1,none⟩=some (E J h)/\W.cell? ⟨w.heap.size,2,none⟩=some (E J k)/\W.cell? ⟨w.heap.size,3,none⟩=some (E J n)/\W.cell? ⟨w.heap.size,4,none⟩=some (F a m c)/\W.cell? ⟨w.heap.size+1,0,none⟩=some (E J p2)/\W.cell? ⟨w.heap.size+1,1,none⟩=some (E J h2)/\W.cell? ⟨w.heap.size+1,2,none⟩=some (E J k2)/\W.cell? ⟨w.heap.size+1,3,none⟩=some (E J n2)/\W.cell? ⟨w.heap.size+1,4,none⟩=some (F a2 m2 c2)) W):=λW hb=>by
  have h0:=ZE hb av;have h1:=ZE hb aw;exact⟨hb,Zb h0 0 _ rfl,Zb h0 1 _ rfl,Zb h0 2 _ rfl,Zb h0 3 _ rfl,Zb h0 4 _ rfl,Zb h1 0 _ rfl,Zb h1 1 _ rfl,Zb h1 2 _ rfl,Zb h1 3 _ rfl,Zb h1 4 _ rfl⟩
 have C1:=Zd (λW=>Jd p h k n a m c W);have C2:=Zd (λW=>Jd p2 h2 k2 n2 a2 m2 c2 W);obtain⟨q,hq⟩:=ZF (Xl T U);have C3:=Zd (λW (hb:aD X.heap.size X W)=>Dx a a2 m m2 c c2 T U q W hm (hT.later (Zf ax hb)) (hU.later (Zf ax hb)) hq);obtain⟨e1,ap⟩:=ZF ((decide (p=p2) && (decide (h=h2) && (decide (k=k2) && decide (n=n2)))));have bg:(e1 && q)=o:=by rw[<-ho,<-ap,<-hq];rfl
 have x0:=aA av;have x1:=aA aw;clear hT hU ho av aw hq;have EQ:∀ W,(binOp .eql 187 (.agg #[E J p,E J h,E J k,E J n]) (.agg #[E J p2,E J h2,E J k2,E J n2])).run aB W = .ok (dB e1) W:=λW=>by rw[Zav,<-ap];rfl
 cases e1 with
 | true=>
  clear ap;go_enter func37,ntmps37;go_wp2_with fail;rw[<-hX];clear hX;refine wp_region_held_drew (S:=(λW=>aD X.heap.size X W/\W.cell? ⟨w.heap.size,0,none⟩=some (E J p)/\W.cell? ⟨w.heap.size,1,none⟩=some (E J h)/\W.cell? ⟨w.heap.size,2,none⟩=some (E J k)/\W.cell? ⟨w.heap.size,3,none⟩=some (E J n)/\W.cell? ⟨w.heap.size,4,none⟩=some (F a m c)/\W.cell? ⟨w.heap.size+1,0,none⟩=some (E J p2)/\W.cell? ⟨w.heap.size+1,1,none⟩=some (E J h2)/\W.cell? ⟨w.heap.size+1,2,none⟩=some (E J k2)/\W.cell? ⟨w.heap.size+1,3,none⟩=some (E J n2)/\W.cell? ⟨w.heap.size+1,4,none⟩=some (F a2 m2 c2))) (by kernel_rfl) (KS _ (Zi _)) (λz=>?_);have aq:Hid (aD X.heap.size X X.drew):=Zi _;refine Zt 0 ⟨some 5,.load 39 (.tmp 2),39, "block.go:65",#[],none⟩ ?_ rfl ?_ z ?_;rotate_left
  ·(intro W Q;go_simp;first|done|with_reducible rfl)
  (try simp only[aC,ZA,ZB,ZC]);refine Zt 2 ⟨some 7,.load 39 (.tmp 3),39, "block.go:65",#[],none⟩ ?_ rfl ?_ z ?_;rotate_left
  ·(intro W Q;go_simp;first|done|with_reducible rfl)
  (try simp only[aC,ZA,ZB,ZC]);refine aG (rs:=[1]) (by kernel_rfl) (by simp) ?_;refine AllReadyH.cons (o:=⟨some 6,.call { callee:=aP (.func 104),args:=#[.tmp 5],argTypes:=#[39] },187, "block.go:65",#[⟨0,.data⟩],none⟩) rfl (λK hK=>?_) AllReadyH.nil;refine Xk (by kernel_rfl) 104 #[.agg #[E J p,E J h,E J k,E J n,F a m c]] (by kernel_rfl) (C1 _) ?_;rintro e w2 ⟨rfl,am⟩;refine⟨_,rfl,?_⟩;have al:=Zd (Zf aq am);clear am;refine hK.out _ _ (KS _ al) (λaa=>?_);clear hK K z;have z:=aa;clear aa;(try simp only[aC,ZA,ZB,ZC]);refine aG (rs:=[3]) (by kernel_rfl) (by simp) ?_;refine AllReadyH.cons (o:=⟨some 8,.call { callee:=aP (.func 104),args:=#[.tmp 7],argTypes:=#[39] },187, "block.go:65",#[⟨2,.data⟩,⟨1,.chain⟩],none⟩) rfl (λK hK=>?_) AllReadyH.nil;refine Xk (by kernel_rfl) 104 #[.agg #[E J p2,E J h2,E J k2,E J n2,F a2 m2 c2]] (by kernel_rfl) (C2 _) ?_;rintro e w3 ⟨rfl,an⟩;refine⟨_,rfl,?_⟩;have aj:=Zd (Zf al an);clear an;refine hK.out _ _ (KS _ aj) (λaa=>?_);clear hK K z;have z:=aa;clear aa;(try simp only[aC,ZA,ZB,ZC]);refine Zt 4 ⟨some 9,.binOp BinOp.eql 187 (.tmp 6) (.tmp 8) 187,4, "block.go:65",#[⟨1,.data⟩,⟨3,.data⟩],none⟩ ?_ rfl ?_ z ?_;rotate_left
  ·(intro W Q;go_simp;first|done|with_reducible rfl)
  (try simp only[aC,ZA,ZB,ZC]);refine Zt 5 ⟨some 10,.move (.tmp 9),4, "block.go:65",#[⟨4,.data⟩,⟨3,.chain⟩],none⟩ ?_ rfl ?_ z ?_;rotate_left
  ·(intro W Q;go_simp;first|done|with_reducible rfl)
  (try simp only[aC,ZA,ZB,ZC]);refine Zt 6 ⟨some 11,.fieldAddr 39 (.tmp 2) 4,0, "block.go:65",#[⟨5,.guard⟩],some (5,true)⟩ ?_ rfl ?_ z ?_;rotate_left
  ·(intro W Q;go_simp;first|done|with_reducible rfl)
  (try simp only[aC,ZA,ZB,ZC]);refine Zt 7 ⟨some 12,.load 37 (.tmp 11),37, "block.go:65",#[⟨6,.data⟩,⟨5,.guard⟩],some (5,true)⟩ ?_ rfl ?_ z ?_;rotate_left
  ·(intro W Q;go_simp;first|done|with_reducible rfl)
  (try simp only[aC,ZA,ZB,ZC]);refine Zt 8 ⟨some 13,.fieldAddr 39 (.tmp 3) 4,0, "block.go:65",#[⟨5,.guard⟩],some (5,true)⟩ ?_ rfl ?_ z ?_;rotate_left
  ·(intro W Q;go_simp;first|done|with_reducible rfl)
  (try simp only[aC,ZA,ZB,ZC]);refine Zt 9 ⟨some 14,.load 37 (.tmp 13),37, "block.go:65",#[⟨8,.data⟩,⟨5,.guard⟩],some (5,true)⟩ ?_ rfl ?_ z ?_;rotate_left
  ·(intro W Q;go_simp;first|done|with_reducible rfl)
  (try simp only[aC,ZA,ZB,ZC]);refine aG (rs:=[10]) (by kernel_rfl) (by simp) ?_;refine AllReadyH.cons (o:=⟨some 15,.call { callee:=aP (.func 29),args:=#[.tmp 12,.tmp 14,.func 30],argTypes:=#[37,37,63] },4, "block.go:65",#[⟨7,.data⟩,⟨9,.data⟩,⟨5,.chain⟩,⟨5,.guard⟩],some (5,true)⟩) rfl (λK hK=>?_) AllReadyH.nil;refine Xk (by kernel_rfl) 29 #[F a m c,F a2 m2 c2,.func (.func 30) #[] #[]] (by kernel_rfl) (C3 _ aj) ?_;rintro e w4 ⟨rfl,be⟩;refine⟨_,rfl,?_⟩;have bb:=Zd (Zf aj be);clear be;refine hK.out _ _ (KS _ bb) (λaa=>?_);clear hK K z;have z:=aa;clear aa;(try simp only[aC,ZA,ZB,ZC]);refine Zt 11 ⟨some 16,.pick (.tmp 10) (.tmp 15) (.const (Value.bool false)),4, "block.go:65",#[⟨5,.data⟩,⟨10,.data⟩],none⟩ ?_ rfl ?_ z ?_;rotate_left
  ·(intro W Q;go_simp;first|done|with_reducible rfl)
  (try simp only[aC,ZA,ZB,ZC]);refine Zt 12 ⟨some 4,.assign (.tmp 16),4, "block.go:65",#[⟨11,.data⟩,⟨10,.chain⟩,⟨0,.phase⟩,⟨1,.phase⟩,⟨2,.phase⟩,⟨3,.phase⟩,⟨4,.phase⟩,⟨5,.phase⟩,⟨6,.phase⟩,⟨7,.phase⟩,⟨8,.phase⟩,⟨9,.phase⟩,⟨10,.phase⟩,⟨11,.phase⟩],none⟩ ?_ rfl ?_ z ?_;rotate_left
  ·(intro W Q;go_simp;first|done|with_reducible rfl)
  (try simp only[aC,ZA,ZB,ZC]);refine wpAnyH_done (by kernel_rfl) ?_ _;have ar:=Zd (Zf HB bb);go_wp2;go_ret;exact⟨by rw[<-bg];rfl,Za ar⟩
 | false=>
  clear ap;go_enter func37,ntmps37;go_wp2_with fail;rw[<-hX];clear hX;refine wp_region_held_drew (S:=(λW=>aD X.heap.size X W/\W.cell? ⟨w.heap.size,0,none⟩=some (E J p)/\W.cell? ⟨w.heap.size,1,none⟩=some (E J h)/\W.cell? ⟨w.heap.size,2,none⟩=some (E J k)/\W.cell? ⟨w.heap.size,3,none⟩=some (E J n)/\W.cell? ⟨w.heap.size,4,none⟩=some (F a m c)/\W.cell? ⟨w.heap.size+1,0,none⟩=some (E J p2)/\W.cell? ⟨w.heap.size+1,1,none⟩=some (E J h2)/\W.cell? ⟨w.heap.size+1,2,none⟩=some (E J k2)/\W.cell? ⟨w.heap.size+1,3,none⟩=some (E J n2)/\W.cell? ⟨w.heap.size+1,4,none⟩=some (F a2 m2 c2))) (by kernel_rfl) (KS _ (Zi _)) (λz=>?_);have aq:Hid (aD X.heap.size X X.drew):=Zi _;refine Zt 0 ⟨some 5,.load 39 (.tmp 2),39, "block.go:65",#[],none⟩ ?_ rfl ?_ z ?_;rotate_left
  ·(intro W Q;go_simp;first|done|with_reducible rfl)
  (try simp only[aC,ZA,ZB,ZC]);refine Zt 2 ⟨some 7,.load 39 (.tmp 3),39, "block.go:65",#[],none⟩ ?_ rfl ?_ z ?_;rotate_left
  ·(intro W Q;go_simp;first|done|with_reducible rfl)
  (try simp only[aC,ZA,ZB,ZC]);refine aG (rs:=[1]) (by kernel_rfl) (by simp) ?_;refine AllReadyH.cons (o:=⟨some 6,.call { callee:=aP (.func 104),args:=#[.tmp 5],argTypes:=#[39] },187, "block.go:65",#[⟨0,.data⟩],none⟩) rfl (λK hK=>?_) AllReadyH.nil;refine Xk (by kernel_rfl) 104 #[.agg #[E J p,E J h,E J k,E J n,F a m c]] (by kernel_rfl) (C1 _) ?_;rintro e w2 ⟨rfl,am⟩;refine⟨_,rfl,?_⟩;have al:=Zd (Zf aq am);clear am;refine hK.out _ _ (KS _ al) (λaa=>?_);clear hK K z;have z:=aa;clear aa;(try simp only[aC,ZA,ZB,ZC]);refine aG (rs:=[3]) (by kernel_rfl) (by simp) ?_;refine AllReadyH.cons (o:=⟨some 8,.call { callee:=aP (.func 104),args:=#[.tmp 7],argTypes:=#[39] },187, "block.go:65",#[⟨2,.data⟩,⟨1,.chain⟩],none⟩) rfl (λK hK=>?_) AllReadyH.nil;refine Xk (by kernel_rfl) 104 #[.agg #[E J p2,E J h2,E J k2,E J n2,F a2 m2 c2]] (by kernel_rfl) (C2 _) ?_;rintro e w3 ⟨rfl,an⟩;refine⟨_,rfl,?_⟩;have aj:=Zd (Zf al an);clear an;refine hK.out _ _ (KS _ aj) (λaa=>?_);clear hK K z;have z:=aa;clear aa;(try simp only[aC,ZA,ZB,ZC]);refine Zt 4 ⟨some 9,.binOp BinOp.eql 187 (.tmp 6) (.tmp 8) 187,4, "block.go:65",#[⟨1,.data⟩,⟨3,.data⟩],none⟩ ?_ rfl ?_ z ?_;rotate_left
  ·(intro W Q;go_simp;first|done|with_reducible rfl)
  (try simp only[aC,ZA,ZB,ZC]);refine Zt 5 ⟨some 10,.move (.tmp 9),4, "block.go:65",#[⟨4,.data⟩,⟨3,.chain⟩],none⟩ ?_ rfl ?_ z ?_;rotate_left
  ·(intro W Q;go_simp;first|done|with_reducible rfl)
  (try simp only[aC,ZA,ZB,ZC]);refine wpAnyH_take (i:=6) (oi:=⟨some 11,.fieldAddr 39 (.tmp 2) 4,0, "block.go:65",#[⟨5,.guard⟩],some (5,true)⟩) (v:=undef) rfl (by kernel_rfl) (by kernel_rfl) (by kernel_rfl) (λ_ _ _ h=>h) (Or.inr ⟨by rfl,rfl⟩) z ?_;(try simp only[aC,ZA,ZB,ZC]);refine wpAnyH_take (i:=7) (oi:=⟨some 12,.load 37 (.tmp 11),37, "block.go:65",#[⟨6,.data⟩,⟨5,.guard⟩],some (5,true)⟩) (v:=undef) rfl (by kernel_rfl) (by kernel_rfl) (by kernel_rfl) (λ_ _ _ h=>h) (Or.inr ⟨by rfl,rfl⟩) z ?_;(try simp only[aC,ZA,ZB,ZC]);refine wpAnyH_take (i:=8) (oi:=⟨some 13,.fieldAddr 39 (.tmp 3) 4,0, "block.go:65",#[⟨5,.guard⟩],some (5,true)⟩) (v:=undef) rfl (by kernel_rfl) (by kernel_rfl) (by kernel_rfl) (λ_ _ _ h=>h) (Or.inr ⟨by rfl,rfl⟩) z ?_;(try simp only[aC,ZA,ZB,ZC]);refine wpAnyH_take (i:=9) (oi:=⟨some 14,.load 37 (.tmp 13),37, "block.go:65",#[⟨8,.data⟩,⟨5,.guard⟩],some (5,true)⟩) (v:=undef) rfl (by kernel_rfl) (by kernel_rfl) (by kernel_rfl) (λ_ _ _ h=>h) (Or.inr ⟨by rfl,rfl⟩) z ?_;(try simp only[aC,ZA,ZB,ZC]);refine wpAnyH_take (i:=10) (oi:=⟨some 15,.call { callee:=aP (.func 29),args:=#[.tmp 12,.tmp 14,.func 30],argTypes:=#[37,37,63] },4, "block.go:65",#[⟨7,.data⟩,⟨9,.data⟩,⟨5,.chain⟩,⟨5,.guard⟩],some (5,true)⟩) (v:=undef) rfl (by kernel_rfl) (by kernel_rfl) (by kernel_rfl) (λ_ _ _ h=>h) (Or.inr ⟨by rfl,rfl⟩) z ?_;(try simp only[aC,ZA,ZB,ZC])
  refine Zt 11 ⟨some 16,.pick (.tmp 10) (.tmp 15) (.const (Value.bool false)),4, "block.go:65",#[⟨5,.data⟩,⟨10,.data⟩],none⟩ ?_ rfl ?_ z ?_;rotate_left
  ·(intro W Q;go_simp;first|done|with_reducible rfl)
  (try simp only[aC,ZA,ZB,ZC]);refine Zt 12 ⟨some 4,.assign (.tmp 16),4, "block.go:65",#[⟨11,.data⟩,⟨10,.chain⟩,⟨0,.phase⟩,⟨1,.phase⟩,⟨2,.phase⟩,⟨3,.phase⟩,⟨4,.phase⟩,⟨5,.phase⟩,⟨6,.phase⟩,⟨7,.phase⟩,⟨8,.phase⟩,⟨9,.phase⟩,⟨10,.phase⟩,⟨11,.phase⟩],none⟩ ?_ rfl ?_ z ?_;rotate_left
  ·(intro W Q;go_simp;first|done|with_reducible rfl)
  (try simp only[aC,ZA,ZB,ZC]);refine wpAnyH_done (by kernel_rfl) ?_ _;have ar:=Zd (Zf HB aj);go_wp2;go_ret;exact⟨by rw[<-bg];rfl,Za ar⟩
