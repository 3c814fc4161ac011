import Derived.Test.YtmomfkikogbdeaaGreatDoorH
import Derived.Test.YtmomfkikogbdeaaGreatDoorG21
open Go.Proofs.Tryz
open Decidable renaming not_not->aQ
open Go.Addr renaming add_lit->bX
open Go.Ending renaming returned->cS
open Go.IntKind renaming i64->J
open Go.Lib renaming run_eql_slice_nil->aZ
open Go.Obj renaming cells->cR
open Go.Proofs.Tryz renaming prog->aA
open Go.Value renaming int->E,slice->F,tuple->cT,pointer->cU,bool->cV
open Go.World.ownsRow renaming cellAt->bA
open List renaming length_take->bJ,drop_eq_getElem_cons->aL,drop_of_length_le->cK,take_succ_eq_append_getElem->aV,length_eq_zero_iff->aG,getElem?_eq_some_iff->bZ
open Nat renaming lt_of_lt_of_le->aC,le_refl->aF,zero_le->aM
set_option maxHeartbeats 3200000
set_option maxRecDepth 10000
namespace Go.Proofs.YtmomfkikogbdeaaGreatDoor
open Go.RowKit Go.Shelf
def Jk(K:List ByteArray)(C:List Zj)(h:Int):Int:=
 if Bk.bkChk K≠0 then Bk.bkChk K else if Yi C≠0 then Yi C else if (decide (1<=h) && decide (h<=1000))=false then 3 else 0
def Zit(w:World)(p:Nat)(K:List ByteArray)(C:List Zj)(h:Int):Prop:=
 ∃ ka kn kc z ln Q,w.heap[p]? = some (cR #[F ka kn kc,F z ln Q,E J h] 162 (0,0))/\Bk.TextsAt w ka kn K/\SlOk ka kn kc/\CoinsAt w z ln C/\SlOk z ln Q
def DoT(w':World)(B p:Nat)(K:List ByteArray)(C:List Zj)(h:Int):Prop:=
 ∃ ka kn kc z ln Q,w'.heap[p]? = some (cR [F ka kn kc,F z ln Q,E J h].toArray 162 (0,0))/\Fresh B w' (λw2=>Bk.TextsAt w2 ka kn K/\CoinsAt w2 z ln C)/\SlOk ka kn kc/\SlOk z ln Q
theorem DoT.till{w}{B p:Nat}{K C}{h:Int}(d:DoT w B p K C h):Zit w p K C h:=by
 obtain⟨ka,kn,kc,z,ln,Q,h1,h2,h3,h4⟩:=d;have h5:=h2 w (Gr.refl _ _);exact⟨ka,kn,kc,z,ln,Q,h1,h5.1,h3,h5.2,h4⟩
theorem DoT.on{w w':World}{B p:Nat}{K C}{h:Int}(d:DoT w B p K C h)(g:Gr w w' (λq=>q<B))(hp:w'.heap[p]? = w.heap[p]?):DoT w' B p K C h:=by
 obtain⟨ka,kn,kc,z,ln,Q,h1,h2,h3,h4⟩:=d;exact⟨ka,kn,kc,z,ln,Q,hp.trans h1,λw2 g2=>h2 w2 (g.trans g2),h3,h4⟩
theorem DoT.later{w w':World}{B p:Nat}{K C}{h:Int}(d:DoT w B p K C h)(z:ZD w w'):DoT w' B p K C h:=by
 have hp:p<w.heap.size:=by obtain⟨ka,kn,kc,Q,ln,lc,h1,_⟩:=d;exact lt_of_block h1
 exact d.on (Gr.of z) (z.block p hp)
theorem DoT.less{w}{B z p:Nat}{K C}{h:Int}(d:DoT w B p K C h)(hB:z<=B):DoT w z p K C h:=by
 obtain⟨ka,kn,kc,Q,ln,lc,h1,h2,h3,h4⟩:=d;exact⟨ka,kn,kc,Q,ln,lc,h1,λw2 g2=>h2 w2 (g2.mono λ_ _ q=>aC q hB),h3,h4⟩
def OpR(w w':World)(x:Int)(K:List ByteArray)(C:List Zj)(h:Int)(e:Ending):Prop:=
 ((x≠0/\e = cS (cT #[cU none,E J x]))\/(x=0/\∃ p,e = cS (cT #[cU (some ⟨p,0,none⟩),E J 0])/\w.heap.size<=p/\p+1=w'.heap.size/\DoT w' w.heap.size p K C h))/\ZD w w'
theorem Zga(ka kn kc K la ln lc C)(h x:Int)(w)(hK:Bk.TextsAt w ka kn K)(hC:CoinsAt w la ln C)(sC:SlOk la ln lc)(hx:Jk K C h=x) :
  Calls aA 149 #[.agg #[F ka kn kc],F la ln lc,E J h] w λe w'=>OpR w w' x K C h e:=by
 obtain⟨X,hX⟩:=ZG (w.alloc (cR #[F ka kn kc] 24));have ay:ZD w X:=by rw[hX];exact Zh _ _
 have ax:X.heap[w.heap.size]? = some (cR [F ka kn kc].toArray 24 (0,0)):=by rw[hX];exact Yq _ _ _
 obtain⟨⟨M,Z,dr⟩,z⟩:=ZF (Bk.allR K []);have C1:=Zd (Bk.all_isF ka none kn kc 0 0 K [] M Z dr X (hK.later ay) ⟨rfl,λh=>absurd h (by omega)⟩ (by omega) z)
 have bv:dr=Bk.bkChk K/\(dr=0->M=K):=by
  unfold Bk.allR at z;split at z
  ·rename_i q;rw[Bk.nmGo] at z;simp only[Prod.mk.injEq] at z;exact⟨by rw[<-z.2.2,q],λ_=>z.1.symm⟩
  ·rename_i q;simp only[Prod.mk.injEq] at z;exact⟨z.2.2.symm,λe=>absurd (z.2.2.trans e) q⟩
 unfold Jk at hx;rw[<-bv.1] at hx;obtain⟨y,hy⟩:=ZF (Yi C);rw[hy] at hx;obtain⟨g,hg⟩:=ZF ((decide (1<=h) && decide (h<=1000)));rw[hg] at hx;have HZ:=Zd bv.2;have HX:=Zd hx;have HG:=Zd hg;have HY:=Zd hy;have HC:=Zd (hC.later ay);have cy:=Zd sC;have bj:=Zd ay;have ce:=Zd ax;have dg:=Zb ax 0 _ rfl;have xl:=lt_of_block ax;have cf:=Zd xl;clear hK hC sC hx ay ax z bv hy hg;go_enter func149,ntmps149;go_wp2_with fail;rw[<-hX];clear hX;(try go_wp2_with fail);refine C1.mono ?_;rintro e w1 ⟨⟨a',n',c',a2,n2,c2,rfl,hT,sT,_,_,_⟩,Q⟩;have h10:=ZE Q ce;have y0:=Zb h10 0 _ rfl;have yf:=Zg h10 0;have yl:=lt_of_block h10;obtain⟨W1,ak⟩:=ZG (w1.setCell ⟨w.heap.size,0,none⟩ (F a' n' c'));have g1:Gr w1 W1 (λq=>q=w.heap.size):=by rw[ak];exact (Gr.refl w1 (λq=>q=w.heap.size)).set (p:=⟨w.heap.size,0,none⟩) (.inl rfl) _
 have bo:W1.heap[w.heap.size]? = some (cR #[F a' n' c'] 24 (0,0)):=by rw[ak];exact Va h10
 have cm:ZD w W1:=g1.below (Zf bj Q) (Zf bj Q).size (λq e=>by omega);have cd:Hid (CoinsAt W1 la ln C):=Zef (S:=λq=>q=w.heap.size) g1.size g1.block (λk e=>by subst e;exact⟨_,_,_,h10⟩) (HC.later Q);have da:Hid (Fresh w.heap.size W1 (λw2=>Bk.TextsAt w2 a' n' M)):=λw2 g2=>hT w2 ((g1.mono (λk _ e=>by rw[e];exact cf)).trans (g2.mono (λk _ e=>Nat.lt_trans e cf)));have cb:=Zd cm;have cu:=Zd bo;have cz:=Zd sT;have dk:=Zd (show w.heap.size<W1.heap.size from lt_of_block bo);have C2:=Zd (V9 la ln lc C y W1 cd HY);clear Q h10 hT sT g1 bo cm C1 dg xl HC ce bj;by_cases bd:dr=0
 ·subst bd;obtain rfl:=HZ rfl;go_wp2_with fail;rw[<-ak];clear ak y0 yf yl;(try go_wp2_with fail);refine C2.mono ?_;rintro e w2 ⟨rfl,br⟩;have bi:=Zd (Zf cb br);have ca:=Zd br;have C3:=Zd (Z9 h 1 1000 g w2 HG);clear br C2;by_cases bb:y=0
  ·subst bb;go_wp2_with fail;refine C3.mono ?_;rintro e w3 ⟨rfl,bs⟩;have aq:=Zd (Zf bi bs);have bh:=Zd (Zf ca bs);clear bs C3 ca bi;cases g
   ·have aj:Hid (x=3):=(by have:=Za HX;rw[if_neg (λq=>q rfl),if_neg (λq=>q rfl),if_pos rfl] at this;exact this.symm);clear HX;go_wp2;go_ret2;rw[Za aj];exact⟨.inl ⟨by decide,rfl⟩,Za aq⟩
   ·have aj:Hid (x=0):=(by have:=Za HX;rw[if_neg (λq=>q rfl),if_neg (λq=>q rfl),if_neg (by decide)] at this;exact this.symm);have bq:=(Yv C).1 HY;have ap:=Za cd;have de:=ap.1;have df:=bq.len;have CP:=Zd (λV (hv:ZD W1 V)=>Qv la ln lc C V (by omega) (ap.later hv) cy (λdr z=>by have:=Sb (Y7 (bq.one dr z)).2.2.2.2.2.2.2.2;omega));have h3:=ZE bh cu;have KS:Hid (∀ V:World,ZD w3 V->V.cell? ⟨w.heap.size,0,none⟩=some (F a' n' c')/\w.heap.size<V.heap.size):=λV hv=>⟨Ze hv (Zb (X:=[F a' n' c']) h3 0 _ rfl),aC (lt_of_block h3) hv.size⟩;clear HX bq ap de df h3;go_wp2_with fail;refine wp_region_held_drew (S:=λV=>V.cell? ⟨w.heap.size,0,none⟩=some (F a' n' c')/\w.heap.size<V.heap.size) (by kernel_rfl) (KS _ (Zi _)) (λaa=>?_);refine tkL 0 rfl aa ?_;refine tkL 1 rfl aa ?_;refine tkL 3 rfl aa ?_;refine rdS 2 rfl (CP _ (Zf bh (Zi _))) ?_;rintro e V1 ⟨ds,cc,rfl,hF,cq,cl⟩;have Q:ZD w3 V1:=Zf (Zi w3) cl;have ap:CoinsAt V1 ds ln C:=hF _ (Gr.refl _ _);clear aa;refine⟨_,rfl,(KS _ Q),λaa=>?_⟩;refine tkL 4 rfl aa ?_;refine rdY 5 rfl (λKQ hK=>?_);go_simp;obtain⟨V2,am⟩:=ZG (V1.alloc (cR #[F a' n' c',F ds ln cc,E J h] 162));have an:ZD V1 V2:=(by rw[am];exact Zh _ _);have h2:V2.heap[V1.heap.size]? = some (cR #[F a' n' c',F ds ln cc,E J h] 162 (0,0)):=(by rw[am];exact heap_alloc_new _ _);have cn:V2.heap.size=V1.heap.size+1:=(by rw[am];simp);rw[<-am];clear aa;refine hK.out _ _ (KS _ (Zf Q an)) (λaa=>?_)
    clear hK KQ;refine tkL 6 rfl aa ?_;refine tkL 7 rfl aa ?_;refine wpAnyH_done (by kernel_rfl) ?_ _;clear aa;have HF:Hid (OpR w V2 0 M C h (cS (cT #[cU (some ⟨V1.heap.size,0,none⟩),E J 0]))):=⟨.inr ⟨rfl,V1.heap.size,rfl,Nat.le_trans aq.size Q.size,cn.symm,a',n',c',ds,ln,cc,h2,λw2 g2=>⟨da w2 ((Gr.of (Zf bh (Zf Q an))).trans g2),hF w2 ((Gr.of an).trans (g2.mono (λk _ e=>aC e aq.size)))⟩,Za cz,cq⟩,Zf aq (Zf Q an)⟩;clear an h2 cn am Q ap hF cq cl KS CP;go_wp2;go_ret2;rw[Za aj];exact Za HF
  ·have aj:Hid (x=y):=(by have:=Za HX;rw[if_neg (λq=>q rfl),if_pos bb] at this;exact this.symm);have gy:(y != 0)=true:=(by simp[bb]);clear HX C3;go_wp2;go_ret2;rw[Za aj];exact⟨.inl ⟨bb,rfl⟩,Za bi⟩
 ·have aj:Hid (x=dr):=by have:=Za HX;rw[if_pos bd] at this;exact this.symm
  have gz:(dr != 0)=true:=by simp[bd]
  clear HX C2;have db:=Zd ak;clear ak;go_wp2;rw[<-Za db];go_ret2;rw[Za aj];exact⟨.inl ⟨bd,rfl⟩,Za cb⟩
open Bk (Right nm nameR)
theorem T6{h:Int}{K K' C C'}{t:TxD}(e:doD h (K,C) t=(0,K',C')) :
  Zw t=0/\t.2.1.length≠0/\∃ n S,nameR K (txT t)=(K',n,0)/\apD C t n h=(0,C',S):=by
 unfold doD at e;split at e
 ·rename_i q;injection e with e _;exact absurd e q
 rename_i q1;split at e
 ·injection e with e _;exact absurd (show (4:Int)=0 from e) (by decide)
 rename_i q2;split at e
 ·rename_i q;injection e with e _;exact absurd e q
 rename_i q3;split at e
 ·rename_i q;injection e with e _;exact absurd e q
 rename_i q4;injection e with _ e;injection e with z Q;exact⟨aQ.1 q1,q2,_,_,Prod.ext z (Prod.ext rfl (aQ.1 q3)),Prod.ext (aQ.1 q4) (Prod.ext Q rfl)⟩
theorem T7{h:Int}{K K' C C' t}(hK:Right K)(e:doD h (K,C) t=(0,K',C')) :
  Right K'/\(∃ M,K'=K++M)/\Y8 C'/\Zr C'<=Zr C/\Zw t=0:=by
 obtain⟨h1,h2,n,S,h3,h4⟩:=T6 e;obtain⟨z,Q,_⟩:=T8 hK (show (doD h (K,C) t).1=0 by rw[e]);rw[e] at z Q;exact⟨z,Q,(Bi h4).2.1,(Zio h4).2 h2,h1⟩
def swT(h:Int):List TxD->List ByteArray×List Zj->List (TxD×List Zj)
 | [],_=>[]
 | t :: l,s=>if (doD h s t).1=0 then (t,(doD h s t).2.2) :: swT h l (doD h s t).2 else swT h l s
def Y4(C:List Zj)(X:List (TxD×List Zj)):List Zj:=(X.getLast?.map (·.2)).getD C
theorem W8(C):Y4 C []=C:=rfl
theorem Wh(C X t C'):Y4 C (X++[(t,C')])=C':=by simp[Y4]
theorem Ea(C X t C'):Y4 C ((t,C') :: X)=Y4 C' X:=by
 cases X with
 | nil=>rfl
 | cons y X=>
  obtain⟨z,Q⟩:∃ z,(y :: X).getLast? = some z:=⟨_,List.getLast?_eq_some_getLast (by simp)⟩;unfold Y4;rw[List.getLast?_cons_cons,Q];rfl
theorem Un(h:Int):∀ (l:List TxD) (s:List ByteArray×List Zj),(swT h l s).map (·.1)=(Zu h l s).1
 | [],_=>rfl
 | t :: l,s=>by
  rw[swT,Zu];split
  ·rw[List.map_cons,Un h l]
  ·exact Un h l s
theorem Gy(h:Int):∀ (l:List TxD) (s:List ByteArray×List Zj),Y4 s.2 (swT h l s)=(Zu h l s).2.2
 | [],_=>rfl
 | t :: l,s=>by
  rw[swT,Zu];split
  ·rw[Ea,Gy h l]
  ·exact Gy h l s
theorem J1(h:Int):∀ (l:List TxD) (s:List ByteArray×List Zj),(swT h l s).length<=l.length
 | [],_=>aF _
 | t :: l,s=>by
  rw[swT];split
  ·rw[List.length_cons,List.length_cons];exact Nat.succ_le_succ (J1 h l _)
  ·exact Nat.le_succ_of_le (J1 h l s)
theorem Jd{h:Int}:∀ (l:List TxD) (K:List ByteArray) (C:List Zj),Right K->Y8 C->Y8 (Zu h l (K,C)).2.2/\Zr (Zu h l (K,C)).2.2<=Zr C/\∀ t∈(Zu h l (K,C)).1,Zw t=0/\t.2.1.length≠0
 | [],K,C,_,hC=>⟨hC,Int.le_refl _,λ_ q=>by cases q⟩
 | t :: l,K,C,hK,hC=>by
  rw[Zu];by_cases q:(doD h (K,C) t).1=0
  ·rw[if_pos q];have e:doD h (K,C) t=(0,(doD h (K,C) t).2.1,(doD h (K,C) t).2.2):=Prod.ext q rfl;obtain⟨z,_,Q,d4,d5⟩:=T7 hK e;obtain⟨s1,s2,s3⟩:=Jd (h:=h) l _ _ z Q;refine⟨s1,Int.le_trans s2 d4,λx hx=>?_⟩
   rcases List.mem_cons.1 hx with rfl|hx
   ·exact⟨d5,(T6 e).2.1⟩
   ·exact s3 x hx
  ·rw[if_neg q];exact Jd l K C hK hC
def swE(K:List ByteArray)(C:List Zj)(l:List TxD)(h:Int):Int:=
 if Jk K C h≠0 then Jk K C h else if 8<l.length then 2 else 0
theorem W7{K C}{h:Int}(e:Jk K C h=0):Right K/\Y8 C/\1<=h/\h<=1000:=by
 unfold Jk at e;split at e
 ·rename_i q;exact absurd e q
 rename_i Q;split at e
 ·rename_i q;exact absurd e q
 rename_i q2;split at e
 ·exact absurd e (by decide)
 rename_i z;simp at z;exact⟨(Bk.right_iff K).1 (aQ.1 Q),(Yv C).1 (aQ.1 q2),z.1,z.2⟩
theorem Tq{K C}{h:Int}(hK:Right K)(z:Y8 C)(h1:1<=h)(h2:h<=1000):Jk K C h=0:=by
 unfold Jk;rw[if_neg (λq=>q ((Bk.right_iff K).2 hK)),if_neg (λq=>q ((Yv C).2 z)),if_neg (by simp[h1,h2])]
theorem Ua{K C}{l:List TxD}{h:Int}(e:swE K C l h=0):Jk K C h=0/\l.length<=8:=by
 unfold swE at e;split at e
 ·rename_i q;exact absurd e q
 rename_i z;split at e
 ·exact absurd e (by decide)
 exact⟨aQ.1 z,by omega⟩
def acE(K:List ByteArray)(C:List Zj)(l:List TxD)(t:TxD)(h:Int):Int×List ByteArray×List TxD:=
 if swE K C l h≠0 then (swE K C l h,[],[]) else if ((Zu h l (K,C)).1.any λx=>Vq x t)=true then (6,[],[]) else
 if (doD h (Zu h l (K,C)).2 t).1≠0 then ((doD h (Zu h l (K,C)).2 t).1,[],[]) else if (Zu h l (K,C)).1.length=8 then (12,[],[]) else
 (0,(doD h (Zu h l (K,C)).2 t).2.1,(Zu h l (K,C)).1++[t])
def Hk(h n:Int)(lk:List (Int×Int)):TxD:=(h,[],[(n,lk)])
def Yf:Zl:=(0,0,0,0,[])
def Zhr(h:Int)(l:List TxD)(K:List ByteArray)(C:List Zj):Int:=Zr C - Zr (Y4 C ((swT h l (K,C)).take 3))
def mkE(K:List ByteArray)(C:List Zj)(l:List TxD)(p h wk n:Int)(lk:List (Int×Int)):Int×Zl:=
 if swE K C l h≠0 then (swE K C l h,Yf) else if (rwD h).1+Zhr h l K C=0 then (9,Yf) else
 if Ym (p,h,wk,n,Hk h ((rwD h).1+Zhr h l K C) lk :: (Zu h l (K,C)).1.take 3)≠0 then (Ym (p,h,wk,n,Hk h ((rwD h).1+Zhr h l K C) lk :: (Zu h l (K,C)).1.take 3),Yf) else
 (0,(p,h,wk,n,Hk h ((rwD h).1+Zhr h l K C) lk :: (Zu h l (K,C)).1.take 3))
theorem Zbh(x:Zj)(a)(n c:Nat)(w:World):ZH 81 #[cnV x a n c] w (cV true):=by
 unfold cnV;have z:=Zd (Zh w (cR #[E J x.1,E J x.2.1,E J (cv x),F a n c,E J (ch x),cV (cr x)] 124));go_enter func81,ntmps81;go_wp2;go_ret;exact⟨rfl,Za z⟩
theorem Dt(a n c L)(x s:Int)(w:World)(h:CoinsAt w a n L)(hx:Yi L=x)(hs:(if x=0 then Zr L else 0)=s) :
  ZH 80 #[F a n c,.func (.func 81) #[] #[]] w (cT #[E J s,E J x]):=by
 have C1:=Zd (V9 a n c L x w h hx);by_cases e1:x=0
 ·subst e1;rw[if_pos rfl] at hs;have hR:=(Yv L).1 hx;have hn:n<=720:=by rw[<-h.1];exact hR.len
  have am:=Zd (λk=>Gf L k (λca hz=>by have:=Y7 (hR.one ca hz);omega));have HL:=Zd h;have HZ:=Zd h.1;have HS:=Zd hs;clear hR h hx hs;go_enter func80,ntmps80;go_wp2_with fail;refine C1.mono ?_;rintro e w2 ⟨rfl,Q⟩;have af:=Zd Q;clear Q C1;go_wp2
  go_loopw [7,17] (λsv i wr=>∃ (k:Nat) (d:Int),k<=n/\sv = E J d/\i = E J k/\Hid (d=Zr (L.take k))/\Hid (ZD w wr)) (λ_ i _=>n - (intOf i).toNat)
  case atStart=>exact⟨0,0,aM _,rfl,rfl,rfl,af⟩
  case round=>
   obtain⟨k,d,hk,rfl,rfl,A,HB⟩:=hrel;by_cases bg:k<n
   ·have ar:k<L.length:=(by rw[Za HZ];exact bg);obtain⟨b,off,rfl,bt,bf⟩:=HL.2 (by omega);have aj:=CoinAt.kept _ _ _ _ _ HB (bf k ar);have b1:=am k;have b2:=am (k+1);have z:=Si L k ar;obtain⟨y,hy⟩:=ZF (L[k]);rw[hy] at aj z;obtain⟨la,ln,lc,g0,g1,g2,g3,g4,g5,_,_⟩:=aj.val;obtain⟨v,hv⟩:=ZF (cv y);have T1:=λw=>Zbh y la ln lc w;unfold cnV at T1;rw[hv] at g2 z T1;have bd:=Zd T1;rw[<-Za A] at b1 z;rw[z] at b2;have A2:Hid (d+v=Zr (L.take (k+1))):=z.symm;obtain⟨X,hX⟩:=ZG (wr.alloc (cR #[E J y.1,E J y.2.1,E J v,F la ln lc,E J (ch y),cV (cr y)] 124));have aq:ZD wr X:=(by rw[hX];exact Zh _ _);have ap:X.heap[wr.heap.size]? = some (cR [E J y.1,E J y.2.1,E J v,F la ln lc,E J (ch y),cV (cr y)].toArray 124 (0,0)):=(by rw[hX];exact Uc _ _ _ _ _ _ _ _);have m2:=Zb ap 2 _ rfl;have ay:=Zd (Zf HB aq);have bz:IntKind.i64.wrap (d+v)=d+v:=(by rw[IntKind.wrap_i64];omega);clear aj hy z A HB T1 hv ap aq;go_wp2_with fail;rw[<-hX];clear hX;refine (bd _).mono ?_;rintro e w3 ⟨rfl,ah⟩;have n2:=Ze ah m2;have bv:=World.block_lt_of_cell? _ _ n2;have ax:=Zd (Zf ay ah);clear ah m2;go_wp2;go_roundw
    case rel=>exact⟨k+1,d+v,by omega,rfl,by go_num,A2,ax⟩
    case measure=>simp[intOf];omega
   ·have e:k=n:=(by omega);subst e
    have R:Hid (d=s):=by
     show _=_;rw[Za A,List.take_of_length_le (by rw[Za HZ];exact aF _)];exact Za HS
    clear A;go_wp2;go_ret2;exact⟨by rw[<-Za R];rfl,Za HB⟩
 ·rw[if_neg e1] at hs;subst hs;have g:(x != 0)=true:=by simp[e1]
  clear h hx e1;go_enter func80,ntmps80;go_wp2_with fail;refine C1.mono ?_;rintro e w2 ⟨rfl,Q⟩;have af:=Zd Q;clear Q C1;go_wp2;go_ret2;exact⟨rfl,Za af⟩
theorem Zfc(a n c L)(x s:Int)(w:World)(h:CoinsAt w a n L)(hx:Yi L=x)(Q:(if x=0 then Zr L else 0)=s) :
  ZH 25 #[F a n c] w (cT #[E J s,E J x]):=by
 have C:=Zd (Dt a n c L x s w h hx Q);clear h hx Q;go_enter func25,ntmps25;go_wp2_with fail;refine C.mono ?_;rintro e w2 ⟨rfl,z⟩;have aa:=Zd z;clear z;go_wp2;go_ret2;exact⟨rfl,Za aa⟩
theorem Mh(a n c L)(s:Int)(w:World)(h:CoinsAt w a n L)(z:Y8 L)(hs:Zr L=s) :
  ZH 158 #[F a n c] w (E J s):=by
 have C1:=Zd (Zfc a n c L 0 s w h ((Yv L).2 z) (by rw[if_pos rfl];exact hs));clear h z hs;go_enter func158,ntmps158;go_wp2_with fail;refine C1.mono ?_;rintro e w1 ⟨rfl,Q⟩;have HB:=Zd Q;clear Q C1;go_wp2;go_ret;exact⟨rfl,Za HB⟩
namespace Tr
open Go.RowKit
def IntsAt(w:World)(a:Option Addr)(len:Nat)(Z:List Int):Prop:=
 Z.length=len/\(0<len->∃ b off,a=some ⟨b,off,none⟩/\b<w.heap.size/\∀ i (h:i<Z.length),w.cell? ⟨b,off+i,none⟩=some (E J Z[i]))
theorem IntsAt.later{w w':World}{a len Z}(h:IntsAt w a len Z)(z:ZD w w'):IntsAt w' a len Z:=by
 refine⟨h.1,λh0=>?_⟩;obtain⟨b,off,e,hl,Q⟩:=h.2 h0;exact⟨b,off,e,aC hl z.size,λi hi=>Ze z (Q i hi)⟩
theorem IntsAt.nil(w a):IntsAt w a 0 []:=⟨rfl,λh=>absurd h (by omega)⟩
theorem IntsAt.take{w a len}{l:List Int}(h:IntsAt w a len l)(k:Nat)(hk:k<=len):IntsAt w a k (l.take k):=by
 have hl:=h.1;refine⟨by rw[bJ];omega,λh0=>?_⟩;obtain⟨b,off,e,z,Q⟩:=h.2 (by omega);refine⟨b,off,e,z,λi hi=>?_⟩;rw[bJ] at hi;rw[List.getElem_take];exact Q i (by omega)
theorem Ur{w:World}{base:Nat}{v}{n:Nat}{N:List Int}(h:w.ownsRow base 3 1 v n (N.map (Value.int .i64))):∃ a cap,v = F a n cap/\SlOk a n cap/\IntsAt w a n N:=by
 have z:N.length=n:=by simpa using h.1
 rcases h.2 with ⟨rfl,rfl⟩|⟨g,cap,aa,rfl,hg,Q,h1,h2,h3,h4⟩
 ·exact⟨none,0,rfl,⟨aF _,aM _,λ_=>⟨rfl,rfl⟩⟩,z,λh=>absurd h (by omega)⟩
 ·refine⟨_,cap,rfl,⟨h1,h2,λe=>by cases e⟩,z,λ_=>⟨g,0,rfl,lt_of_block Q,λi hi=>?_⟩⟩;rw[Nat.zero_add,bA h _ (by omega)];simp[hi]
def BlkAt(w:World)(b o:Nat)(x:Zl):Prop:=
 w.cell? ⟨b,o,none⟩=some (E J x.1)/\w.cell? ⟨b,o+1,none⟩=some (E J x.2.1)/\w.cell? ⟨b,o+2,none⟩=some (E J x.2.2.1)/\w.cell? ⟨b,o+3,none⟩=some (E J x.2.2.2.1) /\
 ∃ a n c,w.cell? ⟨b,o+4,none⟩=some (F a n c)/\TxsAt w a n x.2.2.2.2/\SlOk a n c
theorem BlkAt.kept:Px BlkAt:=λ_ _ _ _ _ z h=>by
 obtain⟨h1,h2,h3,h4,a,n,c,h5,h6,h7⟩:=h;exact⟨Ze z h1,Ze z h2,Ze z h3,Ze z h4,a,n,c,Ze z h5,h6.later z,h7⟩
def BlksAt(w:World)(a:Option Addr)(len:Nat)(l:List Zl):Prop:=RowsAt BlkAt 5 w a len l
theorem BlksAt.later{w w':World}{a len l}(h:BlksAt w a len l)(z:ZD w w'):BlksAt w' a len l:=RowsAt.later BlkAt.kept h z
theorem cells3{w:World}{b o:Nat}{x y aa}(h0:w.cell? ⟨b,o,none⟩=some x)(h1:w.cell? ⟨b,o+1,none⟩=some y)(h2:w.cell? ⟨b,o+2,none⟩=some aa):Qy w b o [x,y,aa]:=by
 intro j u z
 match j,z with
 | 0,z=>cases z;exact h0
 | 1,z=>cases z;exact h1
 | 2,z=>cases z;exact h2
 | j+3,z=>simp at z
theorem Znh{w:World}{b o:Nat}{x y}(h0:w.cell? ⟨b,o,none⟩=some x)(h1:w.cell? ⟨b,o+1,none⟩=some y):Qy w b o [x,y]:=by
 intro j u z
 match j,z with
 | 0,z=>cases z;exact h0
 | 1,z=>cases z;exact h1
 | j+2,z=>simp at z
theorem Zng{w:World}{b o:Nat}{x y aa r s}(h0:w.cell? ⟨b,o,none⟩=some x)(h1:w.cell? ⟨b,o+1,none⟩=some y)(h2:w.cell? ⟨b,o+2,none⟩=some aa)(h3:w.cell? ⟨b,o+3,none⟩=some r)(h4:w.cell? ⟨b,o+4,none⟩=some s):Qy w b o [x,y,aa,r,s]:=by
 intro j u z
 match j,z with
 | 0,z=>cases z;exact h0
 | 1,z=>cases z;exact h1
 | 2,z=>cases z;exact h2
 | 3,z=>cases z;exact h3
 | 4,z=>cases z;exact h4
 | j+5,z=>simp at z
def inR:Rec InD where
 sz:=3
 C w cs x:=∃ a n c,cs=[E J x.1,E J x.2.1,F a n c]/\OpsAt w a n x.2.2/\SlOk a n c
 R:=InAt
 wide _ _ _:=by rintro ⟨a,n,c,rfl,_⟩;rfl
 one _ _ _:=by rintro ⟨a,n,c,rfl,_⟩ v z;simp at z;rcases z with rfl|rfl|rfl <;> rfl
 kept _ _ _ _ hb:=by rintro ⟨a,n,c,rfl,h1,h2⟩;exact⟨a,n,c,rfl,h1.later hb,h2⟩
 rc _ _ _ _:=by rintro ⟨h1,h2,a,n,c,h3,h4,h5⟩;exact⟨_,cells3 h1 h2 h3,a,n,c,rfl,h4,h5⟩
 cr _ _ _ _ _ h:=by rintro ⟨a,n,c,rfl,h1,h2⟩;exact⟨h 0 _ rfl,h 1 _ rfl,a,n,c,h 2 _ rfl,h1,h2⟩
def outR:Rec Zz where
 sz:=2
 C w cs x:=∃ a n c,cs=[E J x.1,F a n c]/\OpsAt w a n x.2/\SlOk a n c
 R:=OutAt
 wide _ _ _:=by rintro ⟨a,n,c,rfl,_⟩;rfl
 one _ _ _:=by rintro ⟨a,n,c,rfl,_⟩ v z;simp at z;rcases z with rfl|rfl <;> rfl
 kept _ _ _ _ hb:=by rintro ⟨a,n,c,rfl,h1,h2⟩;exact⟨a,n,c,rfl,h1.later hb,h2⟩
 rc _ _ _ _:=by rintro ⟨h1,a,n,c,h3,h4,h5⟩;exact⟨_,Znh h1 h3,a,n,c,rfl,h4,h5⟩
 cr _ _ _ _ _ h:=by rintro ⟨a,n,c,rfl,h1,h2⟩;exact⟨h 0 _ rfl,a,n,c,h 1 _ rfl,h1,h2⟩
def txR:Rec TxD where
 sz:=3
 C w cs x:=∃ a n c z Q c',cs=[E J x.1,F a n c,F z Q c']/\InsAt w a n x.2.1/\SlOk a n c/\OutsAt w z Q x.2.2/\SlOk z Q c'
 R:=TxAt
 wide _ _ _:=by rintro ⟨a,n,c,z,Q,c',rfl,_⟩;rfl
 one _ _ _:=by rintro ⟨a,n,c,z,Q,c',rfl,_⟩ v hv;simp at hv;rcases hv with rfl|rfl|rfl <;> rfl
 kept _ _ _ _ hb:=by rintro ⟨a,n,c,z,Q,c',rfl,h1,h2,h3,h4⟩;exact⟨a,n,c,z,Q,c',rfl,h1.later hb,h2,h3.later hb,h4⟩
 rc _ _ _ _:=by rintro ⟨h1,⟨a,n,c,h2,h3,h4⟩,z,Q,c',h5,h6,h7⟩;exact⟨_,cells3 h1 h2 h5,a,n,c,z,Q,c',rfl,h3,h4,h6,h7⟩
 cr _ _ _ _ _ h:=by rintro ⟨a,n,c,z,Q,c',rfl,h1,h2,h3,h4⟩;exact⟨h 0 _ rfl,⟨a,n,c,h 1 _ rfl,h1,h2⟩,z,Q,c',h 2 _ rfl,h3,h4⟩
def blkR:Rec Zl where
 sz:=5
 C w cs x:=∃ a n c,cs=[E J x.1,E J x.2.1,E J x.2.2.1,E J x.2.2.2.1,F a n c]/\TxsAt w a n x.2.2.2.2/\SlOk a n c
 R:=BlkAt
 wide _ _ _:=by rintro ⟨a,n,c,rfl,_⟩;rfl
 one _ _ _:=by rintro ⟨a,n,c,rfl,_⟩ v z;simp at z;rcases z with rfl|rfl|rfl|rfl|rfl <;> rfl
 kept _ _ _ _ hb:=by rintro ⟨a,n,c,rfl,h1,h2⟩;exact⟨a,n,c,rfl,h1.later hb,h2⟩
 rc _ _ _ _:=by rintro ⟨h1,h2,h3,h4,a,n,c,h5,h6,h7⟩;exact⟨_,Zng h1 h2 h3 h4 h5,a,n,c,rfl,h6,h7⟩
 cr _ _ _ _ _ h:=by rintro ⟨a,n,c,rfl,h1,h2⟩;exact⟨h 0 _ rfl,h 1 _ rfl,h 2 _ rfl,h 3 _ rfl,a,n,c,h 4 _ rfl,h1,h2⟩
def Qr(x:Int):List Int->Nat->Int
 | [],_=>-1
 | a :: r,k=>if x=a then k else Qr x r (k+1)
theorem Zkr(x:Int)(L:List Int)(k:Nat)(h:k<L.length):Qr x (L.drop k) k=if x=L[k] then (k:Int) else Qr x (L.drop (k+1)) (k+1):=by
 rw[aL h];rfl
theorem Zhh(x:Int)(L:List Int)(k:Nat)(h:L.length<=k):Qr x (L.drop k) k = -1:=by
 rw[cK h];rfl
def Yf:Zl:=(0,0,0,0,[])
def fnd(x:Int):List Int->List Zl->Zl
 | a :: N,b :: T=>if x=a then b else fnd x N T
 | _,_=>Yf
theorem Tw(x:Int):∀ (N:List Int) (T:List Zl) (k:Nat),N.length=T.length->(Qr x N k = -1/\x∉N/\fnd x N T=Yf)\/∃ i,∃ h:i<T.length,Qr x N k=(k+i:Nat)/\x∈N/\fnd x N T=T[i]
 | [],_,_,_=>.inl ⟨rfl,by simp,by simp[fnd]⟩
 | a :: N,[],_,h=>by cases h
 | a :: N,b :: T,k,h=>by
  by_cases e:x=a
  ·exact .inr ⟨0,by simp,by simp[Qr,e],by simp[e],by simp[fnd,e]⟩
  ·rcases Tw x N T (k+1) (by simpa using h) with ⟨h1,h2,h3⟩|⟨i,hi,h1,h2,h3⟩
   ·exact .inl ⟨by simp[Qr,e,h1],by simp[e,h2],by simp[fnd,e,h3]⟩
   ·exact .inr ⟨i+1,by simpa using hi,by simp[Qr,e,h1];omega,by simp[h2],by simp[fnd,e,h3]⟩
theorem Ac(x:Int):∀ (N:List Int) (k:Nat),decide (0<=Qr x N k)=decide (x∈N)
 | [],_=>by simp[Qr]
 | a :: N,k=>by
  by_cases e:x=a
  ·simp[Qr,e]
  ·simp[Qr,e,Ac x N (k+1)]
def nextD(N:List Int)(T:List Zl)(x:Int)(b:Zl):Int:=
 if (decide (1<=x) && decide (x<=120))=false then 3 else if Ym b≠0 then Ym b else if decide (x∈N)=true then 6
 else if b.1≠0/\decide (b.1∈N)=false then 5 else if b.2.1≠(fnd b.1 N T).2.1+1 then 4 else 0
def Xc(N:List Int)(T:List Zl):List Int->List Zl->Int
 | x :: M,b :: U=>if nextD N T x b≠0 then nextD N T x b else Xc (N++[x]) (T++[b]) M U
 | _,_=>0
def chkTr(N:List Int)(T:List Zl):Int:=if N.length≠T.length then 4 else if 24<N.length then 2 else Xc [] [] N T
theorem Zig(N:List Int)(T:List Zl)(k:Nat)(h:k<N.length)(h':k<T.length):Xc (N.take k) (T.take k) (N.drop k) (T.drop k) =
  if nextD (N.take k) (T.take k) N[k] T[k]≠0 then nextD (N.take k) (T.take k) N[k] T[k] else Xc (N.take (k+1)) (T.take (k+1)) (N.drop (k+1)) (T.drop (k+1)):=by
 rw[aL h,aL h',Xc,aV h,aV h']
theorem Zem(N:List Int)(T:List Zl)(k:Nat)(h:N.length<=k):Xc (N.take k) (T.take k) (N.drop k) (T.drop k)=0:=by
 rw[cK h];unfold Xc;rfl
def Y9(T:List Zl):Prop:=∀ b∈T,1<=b.2.1/\b.2.1<=1000/\1<=b.2.2.1/\b.2.2.1<=1000
theorem chkB_head{b:Zl}(h:Ym b=0):1<=b.2.1/\b.2.1<=1000/\1<=b.2.2.1/\b.2.2.1<=1000:=by
 unfold Ym at h;split at h
 ·cases h
 ·next q=>simp[Wp] at q;omega
theorem Zax(x:Int):∀ (N:List Int) (T:List Zl),fnd x N T=Yf\/fnd x N T∈T
 | [],_=>.inl (by simp[fnd])
 | _ :: _,[]=>.inl (by simp[fnd])
 | a :: N,b :: T=>by
  by_cases e:x=a
  ·exact .inr (by simp[fnd,e])
  ·rcases Zax x N T with h|h
   ·exact .inl (by simp[fnd,e,h])
   ·exact .inr (by simp[fnd,e,h])
theorem Jo{T}(h:Y9 T)(x:Int)(N):0<=(fnd x N T).2.1/\(fnd x N T).2.1<=1000/\0<=(fnd x N T).2.2.1/\(fnd x N T).2.2.1<=1000:=by
 rcases Zax x N T with e|e
 ·rw[e];simp[Yf]
 ·have:=h _ e;omega
def upD(N:List Int)(T:List Zl):Nat->Int->List Int
 | 0,_=>[]
 | d+1,x=>upD N T d (fnd x N T).1++[x]
theorem M5(N T):∀ (d:Nat) (x:Int),(upD N T d x).length=d
 | 0,_=>rfl
 | d+1,x=>by simp[upD,M5 N T d]
def Wv(N:List Int)(T:List Zl)(x:Int):List Int:=upD N T (fnd x N T).2.1.toNat x
def Xw(N:List Int)(T:List Zl)(s:Int):List Int->Int
 | []=>s
 | x :: P=>Xw N T (s+(fnd x N T).2.2.1) P
theorem Zjb(N T)(s:Int)(P:List Int)(k:Nat)(h:k<P.length):Xw N T s (P.drop k)=Xw N T (s+(fnd P[k] N T).2.2.1) (P.drop (k+1)):=by
 rw[aL h];rfl
theorem Zex(N T)(s:Int)(P:List Int)(k:Nat)(h:P.length<=k):Xw N T s (P.drop k)=s:=by
 rw[cK h];rfl
def Y1(N:List Int)(T:List Zl)(x:Int):Int:=Xw N T 0 (Wv N T x)
def bstGo(N:List Int)(T:List Zl)(b m:Int):List Int->Int
 | []=>b
 | x :: P=>if m<Y1 N T x\/Y1 N T x=m/\x<b then bstGo N T x (Y1 N T x) P else bstGo N T b m P
theorem Zii(N T)(b m:Int)(P:List Int)(k:Nat)(h:k<P.length):bstGo N T b m (P.drop k)=if m<Y1 N T P[k]\/Y1 N T P[k]=m/\P[k]<b then bstGo N T P[k] (Y1 N T P[k]) (P.drop (k+1)) else bstGo N T b m (P.drop (k+1)):=by
 rw[aL h];rfl
theorem Zep(N T)(b m:Int)(P:List Int)(k:Nat)(h:P.length<=k):bstGo N T b m (P.drop k)=b:=by
 rw[cK h];rfl
def bstD(N:List Int)(T:List Zl):Int×Int:=if chkTr N T≠0 then (0,chkTr N T) else (bstGo N T 0 0 N,0)
def Qb(N:List Int)(T:List Zl)(x:Int):List Int×Int:=if chkTr N T≠0 then ([],chkTr N T) else if x≠0/\decide (x∈N)=false then ([],5) else (Wv N T x,0)
def workE(N:List Int)(T:List Zl)(x:Int):Int×Int:=if (Qb N T x).2≠0 then (0,(Qb N T x).2) else (Xw N T 0 (Qb N T x).1,0)
theorem Tryz.infoIntC:(Tryz.prog.info? 3).map (λi=>(i.zero,i.size,i.bytes))=some (some (E J 0),1,8):=by kernel_rfl
theorem Nz(w):Calls aA 47 #[F none 0 0] w λe w'=>e = cS (F none 0 0)/\w=w':=by
 have z:=λw=>aZ (P:=aA) w 25 3 none 0 0 0 0 underlying25;go_enter func47,ntmps47;go_wp2;go_ret;exact⟨rfl,rfl⟩
theorem Lt(Q:Addr)(n c:Nat)(z:List Value)(w:World)(hn:n<=4096)(hz:z.length=n*1)(h1:∀ u∈z,u.oneCell'=true)(hc:∀ j u,z[j]? = some u->w.cell? (Q.add j)=some u) :
  Calls aA 47 #[F (some Q) n c] w λe w'=>∃ v,e = cS v/\w'.ownsRow w.heap.size 3 1 v n z/\ZD w w':=by
 obtain⟨i0,hi,ap,aq,ar⟩:=info_parts Tryz.infoIntC;have hb:=Zh w (cR #[] 3);have HC:Hid (∀ j u,z[j]? = some u->(w.alloc (cR #[] 3)).cell? (Q.add j)=some u):=λj u hj=>Ze hb (hc j u hj);have HB:=Zd hb;have HZ:=Zd hz;have H1:=Zd h1;have HO:=Zd (Wa w 3 1);have he:=λw=>aZ (P:=aA) w 25 3 (some Q) n c 0 0 underlying25;clear hc hb hz h1;go_enter func47,ntmps47
 go_wp2_with (at_builtin;refine wpList_append_own _ rfl _ _ 25 rfl w.heap.size 3 i0 (E J 0) 1 8 underlying25 hi ap aq ar rfl (by decide) _ _ _ rfl HO Q n c z rfl HZ HC H1 (by unfold maxLen;omega) (by omega) HB.size ?_;intro v2 w3 af ae _)
 have HW:Hid (w3.ownsRow w.heap.size 3 1 v2 n z):=by show World.ownsRow _ _ _ _ _ _ _;simpa using af
 have aj:=Zd (HB.grown ae HB.size (Xj HO));clear af ae;go_wp2;go_ret;exact⟨v2,rfl,Za HW,Za aj⟩
theorem N5(a)(n c:Nat)(L:List Int)(w:World)(hn:n<=4096)(h:IntsAt w a n L)(hs:SlOk a n c) :
  Calls aA 47 #[F a n c] w λe w'=>∃ v,e = cS v/\w'.ownsRow w.heap.size 3 1 v n (L.map (Value.int .i64))/\ZD w w':=by
 obtain⟨hl,hc⟩:=h;cases a with
 | none=>
  obtain⟨rfl,rfl⟩:=hs.2.2 rfl;have e:L=[]:=aG.1 hl;subst e;exact (Nz w).mono λe w' ⟨x,y⟩=>⟨_,x,y ▸ World.ownsRow_nil _ _ _ _,y ▸ Below.refl _ _⟩
 | some ad=>
  refine (Lt ad n c (L.map (Value.int .i64)) w hn (by simp[hl]) (ints_oneCell _ _) (λj u z=>?_));have Q:j<L.length:=by have:=(bZ.1 z).1;simpa using this
  obtain⟨b,off,e,_,ac⟩:=hc (by omega);cases e;rw[bX,ac j Q];simpa[Q] using z
theorem Qw(Q:Addr)(n c:Nat)(z:List Value)(w:World)(hn:n<=8796093022208)(hz:z.length=n*2)(h1:∀ u∈z,u.oneCell'=true)(hc:∀ j u,z[j]? = some u->w.cell? (Q.add j)=some u) :
  Calls aA 150 #[F (some Q) n c] w λe w'=>∃ v,e = cS v/\w'.ownsRow w.heap.size 164 2 v n z/\ZD w w':=by
 obtain⟨i0,hi,ap,aq,ar⟩:=info_parts Tryz.infoOpC;have hb:=Zh w (cR #[] 164);have HC:Hid (∀ j u,z[j]? = some u->(w.alloc (cR #[] 164)).cell? (Q.add j)=some u):=λj u hj=>Ze hb (hc j u hj);have HB:=Zd hb;have HZ:=Zd hz;have H1:=Zd h1;have HO:=Zd (Wa w 164 2);have he:=λw=>aZ (P:=aA) w 48 164 (some Q) n c 0 0 underlying48;clear hc hb hz h1;go_enter func150,ntmps150
 go_wp2_with (at_builtin;refine wpList_append_own _ rfl _ _ 48 rfl w.heap.size 164 i0 (.agg #[E J 0,E J 0]) 2 16 underlying48 hi ap aq ar rfl (by decide) _ _ _ rfl HO Q n c z rfl HZ HC H1 (by unfold maxLen;omega) (by omega) HB.size ?_;intro v2 w3 af ae _)
 have HW:Hid (w3.ownsRow w.heap.size 164 2 v2 n z):=by show World.ownsRow _ _ _ _ _ _ _;simpa using af
 have aj:=Zd (HB.grown ae HB.size (Xj HO));clear af ae;go_wp2;go_ret;exact⟨v2,rfl,Za HW,Za aj⟩
theorem J6{w:World}{base:Nat}{v}{n:Nat}{l}(h:w.ownsRow base 164 2 v n (Xa l)):∃ a c,v = F a n c/\OpsAt w a n l/\SlOk a n c:=by
 have z:l.length=n:=by have:=h.1;rw[Xd] at this;omega
 rcases h.2 with ⟨rfl,rfl⟩|⟨g,cap,ab,rfl,hg,hh,h1,h2,h3,h4⟩
 ·exact⟨none,0,rfl,⟨z,λh=>absurd h (by omega)⟩,⟨aF _,aM _,λ_=>⟨rfl,rfl⟩⟩⟩
 ·refine⟨_,cap,rfl,⟨z,λ_=>⟨g,0,rfl,λi hi=>?_⟩⟩,⟨h1,h2,λe=>by cases e⟩⟩;obtain⟨Q,f1⟩:=Ty l i (by omega);rw[Nat.zero_add,bA h _ (by omega),bA h _ (by omega)];exact⟨Q,f1⟩
theorem Uu(a)(n c:Nat)(l)(w:World)(hn:n<=8796093022208)(h:OpsAt w a n l)(hs:SlOk a n c) :
  Calls aA 150 #[F a n c] w λe w'=>∃ z Q,e = cS (F z n Q)/\Fresh w.heap.size w' (λw2=>OpsAt w2 z n l/\SlOk z n Q)/\ZD w w':=by
 obtain⟨hl,hc⟩:=h;cases a with
 | none=>
  obtain⟨rfl,rfl⟩:=hs.2.2 rfl;exact (Jr w).mono λe w' ⟨x,y⟩=>⟨none,0,x,λ_ _=>⟨⟨hl,λh=>absurd h (by omega)⟩,hs⟩,y ▸ Below.refl _ _⟩
 | some ad=>
  have af:∀ j u,(Xa l)[j]? = some u->w.cell? (ad.add j)=some u:=λj u hj=>by
   have an:j<l.length*2:=(by rw[<-Xd];exact (bZ.1 hj).1);obtain⟨b,off,e,ag⟩:=hc (by omega);cases e;rw[bX];exact Jp hl ag j u hj
  refine (Qw ad n c (Xa l) w hn (by rw[Xd,hl]) (Ra l) af).mono ?_;rintro e w' ⟨v,rfl,x,y⟩;obtain⟨z,Q,rfl,h1,h2⟩:=J6 x;refine⟨z,Q,rfl,λw2 g2=>?_,y⟩;have x2:=g2.own x (λk hk=>by have:=(x.lt k hk).1;omega);obtain⟨a2,c2,e,h3,h4⟩:=J6 x2;cases e;exact⟨h3,h4⟩
theorem Tryz.infoInC:(Tryz.prog.info? 119).map (λi=>(i.zero,i.size,i.bytes))=some (some (.agg #[E J 0,E J 0,F none 0 0]),3,40):=by kernel_rfl
theorem A1(w):Calls aA 159 #[F none 0 0] w λe w'=>e = cS (F none 0 0)/\w=w':=by
 have z:=λw=>aZ (P:=aA) w 56 119 none 0 0 0 0 underlying56;go_enter func159,ntmps159;go_wp2;go_ret;exact⟨rfl,rfl⟩
theorem Sa(Q:Addr)(n c:Nat)(z:List Value)(w:World)(hn:n<=3518437208883)(hz:z.length=n*3)(h1:∀ u∈z,u.oneCell'=true)(hc:∀ j u,z[j]? = some u->w.cell? (Q.add j)=some u) :
  Calls aA 159 #[F (some Q) n c] w λe w'=>∃ v,e = cS v/\w'.ownsRow w.heap.size 119 3 v n z/\ZD w w':=by
 obtain⟨i0,hi,ap,aq,ar⟩:=info_parts Tryz.infoInC;have hb:=Zh w (cR #[] 119);have HC:Hid (∀ j u,z[j]? = some u->(w.alloc (cR #[] 119)).cell? (Q.add j)=some u):=λj u hj=>Ze hb (hc j u hj);have HB:=Zd hb;have HZ:=Zd hz;have H1:=Zd h1;have HO:=Zd (Wa w 119 3);have he:=λw=>aZ (P:=aA) w 56 119 (some Q) n c 0 0 underlying56;clear hc hb hz h1;go_enter func159,ntmps159
 go_wp2_with (at_builtin;refine wpList_append_own _ rfl _ _ 56 rfl w.heap.size 119 i0 (.agg #[E J 0,E J 0,F none 0 0]) 3 40 underlying56 hi ap aq ar rfl (by decide) _ _ _ rfl HO Q n c z rfl HZ HC H1 (by unfold maxLen;omega) (by omega) HB.size ?_;intro v2 w3 af ae _)
 have HW:Hid (w3.ownsRow w.heap.size 119 3 v2 n z):=by show World.ownsRow _ _ _ _ _ _ _;simpa using af
 have aj:=Zd (HB.grown ae HB.size (Xj HO));clear af ae;go_wp2;go_ret;exact⟨v2,rfl,Za HW,Za aj⟩
theorem A6(a)(n c:Nat)(L)(w0 w:World)(hn:n<=3518437208883)(h:RowsAt inR.R 3 w0 a n L)(hb:ZD w0 w)(hs:SlOk a n c) :
  Calls aA 159 #[F a n c] w λe w'=>∃ v,∃ K:List (List Value),e = cS v/\AllC inR w0 K L/\w'.ownsRow w.heap.size 119 3 v n K.flatten/\ZD w w':=by
 obtain⟨Q,hc⟩:=h;cases a with
 | none=>
  obtain⟨rfl,rfl⟩:=hs.2.2 rfl;have e:L=[]:=aG.1 Q;subst e;exact (A1 w).mono λe w' ⟨x,y⟩=>⟨_,[],x,⟨rfl,λi h=>absurd h (by simp)⟩,y ▸ World.ownsRow_nil _ _ _ _,y ▸ Below.refl _ _⟩
 | some ad=>
  by_cases h0:n=0
  ·subst h0;have e:L=[]:=aG.1 Q;subst e;exact (Sa ad 0 c [] w hn rfl (λu hu=>by cases hu) (λj u z=>by simp at z)).mono λe w' ⟨v,x,y,ak⟩=>⟨v,[],x,⟨rfl,λi h=>absurd h (by simp)⟩,y,ak⟩
  ·obtain⟨b,off,e,_,af⟩:=hc (by omega);obtain⟨rfl⟩:=e;obtain⟨K,h1,h3⟩:=Vj inR af;have hk:K.flatten.length=n*3:=(by rw[Xk h1,Q];rfl);exact (Sa ⟨b,off,none⟩ n c K.flatten w hn hk (flat_one h1) (λj u z=>by rw[bX];exact Ze hb (h3 j u z))).mono λe w' ⟨v,x,y,ak⟩=>⟨v,K,x,h1,y,ak⟩
theorem Tryz.infoOutC:(Tryz.prog.info? 122).map (λi=>(i.zero,i.size,i.bytes))=some (some (.agg #[E J 0,F none 0 0]),2,32):=by kernel_rfl
theorem Nv(w):Calls aA 160 #[F none 0 0] w λe w'=>e = cS (F none 0 0)/\w=w':=by
 have z:=λw=>aZ (P:=aA) w 57 122 none 0 0 0 0 underlying57;go_enter func160,ntmps160;go_wp2;go_ret;exact⟨rfl,rfl⟩
theorem Rq(Q:Addr)(n c:Nat)(z:List Value)(w:World)(hn:n<=4398046511104)(hz:z.length=n*2)(h1:∀ u∈z,u.oneCell'=true)(hc:∀ j u,z[j]? = some u->w.cell? (Q.add j)=some u) :
  Calls aA 160 #[F (some Q) n c] w λe w'=>∃ v,e = cS v/\w'.ownsRow w.heap.size 122 2 v n z/\ZD w w':=by
 obtain⟨i0,hi,ap,aq,ar⟩:=info_parts Tryz.infoOutC;have hb:=Zh w (cR #[] 122);have HC:Hid (∀ j u,z[j]? = some u->(w.alloc (cR #[] 122)).cell? (Q.add j)=some u):=λj u hj=>Ze hb (hc j u hj);have HB:=Zd hb;have HZ:=Zd hz;have H1:=Zd h1;have HO:=Zd (Wa w 122 2);have he:=λw=>aZ (P:=aA) w 57 122 (some Q) n c 0 0 underlying57;clear hc hb hz h1;go_enter func160,ntmps160
 go_wp2_with (at_builtin;refine wpList_append_own _ rfl _ _ 57 rfl w.heap.size 122 i0 (.agg #[E J 0,F none 0 0]) 2 32 underlying57 hi ap aq ar rfl (by decide) _ _ _ rfl HO Q n c z rfl HZ HC H1 (by unfold maxLen;omega) (by omega) HB.size ?_;intro v2 w3 af ae _)
 have HW:Hid (w3.ownsRow w.heap.size 122 2 v2 n z):=by show World.ownsRow _ _ _ _ _ _ _;simpa using af
 have aj:=Zd (HB.grown ae HB.size (Xj HO));clear af ae;go_wp2;go_ret;exact⟨v2,rfl,Za HW,Za aj⟩
theorem Nw(a)(n c:Nat)(L)(w0 w:World)(hn:n<=4398046511104)(h:RowsAt outR.R 2 w0 a n L)(hb:ZD w0 w)(hs:SlOk a n c) :
  Calls aA 160 #[F a n c] w λe w'=>∃ v,∃ K:List (List Value),e = cS v/\AllC outR w0 K L/\w'.ownsRow w.heap.size 122 2 v n K.flatten/\ZD w w':=by
 obtain⟨Q,hc⟩:=h;cases a with
 | none=>
  obtain⟨rfl,rfl⟩:=hs.2.2 rfl;have e:L=[]:=aG.1 Q;subst e;exact (Nv w).mono λe w' ⟨x,y⟩=>⟨_,[],x,⟨rfl,λi h=>absurd h (by simp)⟩,y ▸ World.ownsRow_nil _ _ _ _,y ▸ Below.refl _ _⟩
 | some ad=>
  by_cases h0:n=0
  ·subst h0;have e:L=[]:=aG.1 Q;subst e;exact (Rq ad 0 c [] w hn rfl (λu hu=>by cases hu) (λj u z=>by simp at z)).mono λe w' ⟨v,x,y,ak⟩=>⟨v,[],x,⟨rfl,λi h=>absurd h (by simp)⟩,y,ak⟩
  ·obtain⟨b,off,e,_,af⟩:=hc (by omega);obtain⟨rfl⟩:=e;obtain⟨K,h1,h3⟩:=Vj outR af;have hk:K.flatten.length=n*2:=(by rw[Xk h1,Q];rfl);exact (Rq ⟨b,off,none⟩ n c K.flatten w hn hk (flat_one h1) (λj u z=>by rw[bX];exact Ze hb (h3 j u z))).mono λe w' ⟨v,x,y,ak⟩=>⟨v,K,x,h1,y,ak⟩
theorem Tryz.infoTxC:(Tryz.prog.info? 59).map (λi=>(i.zero,i.size,i.bytes))=some (some (.agg #[E J 0,F none 0 0,F none 0 0]),3,56):=by kernel_rfl
theorem Az(w):Calls aA 199 #[F none 0 0] w λe w'=>e = cS (F none 0 0)/\w=w':=by
 have z:=λw=>aZ (P:=aA) w 37 59 none 0 0 0 0 underlying37;go_enter func199,ntmps199;go_wp2;go_ret;exact⟨rfl,rfl⟩
theorem T9(Q:Addr)(n c:Nat)(z:List Value)(w:World)(hn:n<=2513169434916)(hz:z.length=n*3)(h1:∀ u∈z,u.oneCell'=true)(hc:∀ j u,z[j]? = some u->w.cell? (Q.add j)=some u) :
  Calls aA 199 #[F (some Q) n c] w λe w'=>∃ v,e = cS v/\w'.ownsRow w.heap.size 59 3 v n z/\ZD w w':=by
 obtain⟨i0,hi,ap,aq,ar⟩:=info_parts Tryz.infoTxC;have hb:=Zh w (cR #[] 59);have HC:Hid (∀ j u,z[j]? = some u->(w.alloc (cR #[] 59)).cell? (Q.add j)=some u):=λj u hj=>Ze hb (hc j u hj);have HB:=Zd hb;have HZ:=Zd hz;have H1:=Zd h1;have HO:=Zd (Wa w 59 3);have he:=λw=>aZ (P:=aA) w 37 59 (some Q) n c 0 0 underlying37;clear hc hb hz h1;go_enter func199,ntmps199
 go_wp2_with (at_builtin;refine wpList_append_own _ rfl _ _ 37 rfl w.heap.size 59 i0 (.agg #[E J 0,F none 0 0,F none 0 0]) 3 56 underlying37 hi ap aq ar rfl (by decide) _ _ _ rfl HO Q n c z rfl HZ HC H1 (by unfold maxLen;omega) (by omega) HB.size ?_;intro v2 w3 af ae _)
 have HW:Hid (w3.ownsRow w.heap.size 59 3 v2 n z):=by show World.ownsRow _ _ _ _ _ _ _;simpa using af
 have aj:=Zd (HB.grown ae HB.size (Xj HO));clear af ae;go_wp2;go_ret;exact⟨v2,rfl,Za HW,Za aj⟩
theorem A0(a)(n c:Nat)(L)(w0 w:World)(hn:n<=2513169434916)(h:RowsAt txR.R 3 w0 a n L)(hb:ZD w0 w)(hs:SlOk a n c) :
  Calls aA 199 #[F a n c] w λe w'=>∃ v,∃ K:List (List Value),e = cS v/\AllC txR w0 K L/\w'.ownsRow w.heap.size 59 3 v n K.flatten/\ZD w w':=by
 obtain⟨Q,hc⟩:=h;cases a with
 | none=>
  obtain⟨rfl,rfl⟩:=hs.2.2 rfl;have e:L=[]:=aG.1 Q;subst e;exact (Az w).mono λe w' ⟨x,y⟩=>⟨_,[],x,⟨rfl,λi h=>absurd h (by simp)⟩,y ▸ World.ownsRow_nil _ _ _ _,y ▸ Below.refl _ _⟩
 | some ad=>
  by_cases h0:n=0
  ·subst h0;have e:L=[]:=aG.1 Q;subst e;exact (T9 ad 0 c [] w hn rfl (λu hu=>by cases hu) (λj u z=>by simp at z)).mono λe w' ⟨v,x,y,ak⟩=>⟨v,[],x,⟨rfl,λi h=>absurd h (by simp)⟩,y,ak⟩
  ·obtain⟨b,off,e,_,af⟩:=hc (by omega);obtain⟨rfl⟩:=e;obtain⟨K,h1,h3⟩:=Vj txR af;have hk:K.flatten.length=n*3:=(by rw[Xk h1,Q];rfl);exact (T9 ⟨b,off,none⟩ n c K.flatten w hn hk (flat_one h1) (λj u z=>by rw[bX];exact Ze hb (h3 j u z))).mono λe w' ⟨v,x,y,ak⟩=>⟨v,K,x,h1,y,ak⟩
theorem Tryz.infoBlkC:(Tryz.prog.info? 39).map (λi=>(i.zero,i.size,i.bytes))=some (some (.agg #[E J 0,E J 0,E J 0,E J 0,F none 0 0]),5,56):=by kernel_rfl
theorem N6(w):Calls aA 196 #[F none 0 0] w λe w'=>e = cS (F none 0 0)/\w=w':=by
 have z:=λw=>aZ (P:=aA) w 26 39 none 0 0 0 0 underlying26;go_enter func196,ntmps196;go_wp2;go_ret;exact⟨rfl,rfl⟩
theorem Rt(Q:Addr)(n c:Nat)(z:List Value)(w:World)(hn:n<=2513169434916)(hz:z.length=n*5)(h1:∀ u∈z,u.oneCell'=true)(hc:∀ j u,z[j]? = some u->w.cell? (Q.add j)=some u) :
  Calls aA 196 #[F (some Q) n c] w λe w'=>∃ v,e = cS v/\w'.ownsRow w.heap.size 39 5 v n z/\ZD w w':=by
 obtain⟨i0,hi,ap,aq,ar⟩:=info_parts Tryz.infoBlkC;have hb:=Zh w (cR #[] 39);have HC:Hid (∀ j u,z[j]? = some u->(w.alloc (cR #[] 39)).cell? (Q.add j)=some u):=λj u hj=>Ze hb (hc j u hj);have HB:=Zd hb;have HZ:=Zd hz;have H1:=Zd h1;have HO:=Zd (Wa w 39 5);have he:=λw=>aZ (P:=aA) w 26 39 (some Q) n c 0 0 underlying26;clear hc hb hz h1;go_enter func196,ntmps196
 go_wp2_with (at_builtin;refine wpList_append_own _ rfl _ _ 26 rfl w.heap.size 39 i0 (.agg #[E J 0,E J 0,E J 0,E J 0,F none 0 0]) 5 56 underlying26 hi ap aq ar rfl (by decide) _ _ _ rfl HO Q n c z rfl HZ HC H1 (by unfold maxLen;omega) (by omega) HB.size ?_;intro v2 w3 af ae _)
 have HW:Hid (w3.ownsRow w.heap.size 39 5 v2 n z):=by show World.ownsRow _ _ _ _ _ _ _;simpa using af
 have aj:=Zd (HB.grown ae HB.size (Xj HO));clear af ae;go_wp2;go_ret;exact⟨v2,rfl,Za HW,Za aj⟩
theorem N7(a)(n c:Nat)(L)(w0 w:World)(hn:n<=2513169434916)(h:RowsAt blkR.R 5 w0 a n L)(hb:ZD w0 w)(hs:SlOk a n c) :
  Calls aA 196 #[F a n c] w λe w'=>∃ v,∃ K:List (List Value),e = cS v/\AllC blkR w0 K L/\w'.ownsRow w.heap.size 39 5 v n K.flatten/\ZD w w':=by
 obtain⟨Q,hc⟩:=h;cases a with
 | none=>
  obtain⟨rfl,rfl⟩:=hs.2.2 rfl;have e:L=[]:=aG.1 Q;subst e;exact (N6 w).mono λe w' ⟨x,y⟩=>⟨_,[],x,⟨rfl,λi h=>absurd h (by simp)⟩,y ▸ World.ownsRow_nil _ _ _ _,y ▸ Below.refl _ _⟩
 | some ad=>
  by_cases h0:n=0
  ·subst h0;have e:L=[]:=aG.1 Q;subst e;exact (Rt ad 0 c [] w hn rfl (λu hu=>by cases hu) (λj u z=>by simp at z)).mono λe w' ⟨v,x,y,ak⟩=>⟨v,[],x,⟨rfl,λi h=>absurd h (by simp)⟩,y,ak⟩
  ·obtain⟨b,off,e,_,af⟩:=hc (by omega);obtain⟨rfl⟩:=e;obtain⟨K,h1,h3⟩:=Vj blkR af;have hk:K.flatten.length=n*5:=(by rw[Xk h1,Q];rfl);exact (Rt ⟨b,off,none⟩ n c K.flatten w hn hk (flat_one h1) (λj u z=>by rw[bX];exact Ze hb (h3 j u z))).mono λe w' ⟨v,x,y,ak⟩=>⟨v,K,x,h1,y,ak⟩
