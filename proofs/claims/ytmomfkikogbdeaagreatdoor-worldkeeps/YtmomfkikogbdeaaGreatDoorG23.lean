import Derived.Test.YtmomfkikogbdeaaGreatDoorH
import Derived.Test.YtmomfkikogbdeaaGreatDoorG22
open Go.Proofs.Tryz
open Go renaming maxLen->cH,bodyPost_ret->aW
open Go.Ending renaming returned->cS
open Go.Exit renaming inBlock->aR
open Go.IntKind renaming i64->J
open Go.Obj renaming cells->cR
open Go.Proofs.Tryz renaming prog->aA
open Go.Value renaming int->E,slice->F,tuple->cT,pointer->cU,bool->cV
open Go.World renaming frozen?_of_block->aO
open List renaming length_set->bY,getElem_set_self->cJ,getElem_mem->aX
open Nat renaming zero_le->aM,le_refl->aF,lt_of_lt_of_le->aC,le_of_eq->cG,le_trans->aT
set_option maxHeartbeats 12800000
set_option maxRecDepth 10000
namespace Go.Proofs.YtmomfkikogbdeaaGreatDoor.Tr
open Go.RowKit
theorem Pg(a)(n c:Nat)(L)(s x:Int)(w)(hn:n<=cH)(h:IntsAt w a n L)(hx:Qr s L 0=x) :
  Calls aA 77 #[F a n c,E J s] w λe w'=>e = cS (E J x)/\w=w':=by
 have HL:=Zd h;have HZ:=Zd h.1;have Q:Hid (Qr s (L.drop 0) 0=x):=hx;unfold cH at hn;clear h hx;go_enter func77,ntmps77;go_wp2
 go_loopw [8] (λi wr=>∃ j:Nat,j<=n/\i = E J j/\w=wr/\Hid (Qr s (L.drop j) j=x)) (λi _=>n - (intOf i).toNat)
 case atStart=>exact⟨0,aM _,rfl,rfl,Q⟩
 case round=>
  obtain⟨j,hk,rfl,rfl,A⟩:=hrel;clear Q;by_cases af:j<n
  ·have h1:j<L.length:=(by rw[Za HZ];exact af);obtain⟨b,off,rfl,ah,hc⟩:=HL.2 (by omega);have f1:=hc j h1;have z:=Zd (Zkr s L j h1);obtain⟨t,ht⟩:=ZF (L[j]);rw[ht] at f1 z;clear ht hc;by_cases e:s=t
   ·subst e;have R:Hid ((j:Int)=x):=(by show _=_;rw[<-Za A,Za z,if_pos rfl]);clear A z;go_wp2;go_ret;exact⟨by rw[Za R];rfl,rfl⟩
   ·have R:Hid (Qr s (L.drop (j+1)) (j+1)=x):=(by show _=_;rw[<-Za A,Za z,if_neg e]);have g:(s == t)=false:=(by simp[e]);clear A z e;go_wp2;go_roundw
    case rel=>exact⟨j+1,by omega,by go_num,(by trivial),R⟩
    case measure=>simp[intOf];omega
  ·have R:Hid (x = -1):=(by show _=_;rw[<-Za A,Zhh s L j (by rw[Za HZ];omega)]);clear A;go_wp2;go_ret;exact⟨by rw[Za R];rfl,rfl⟩
theorem Kt(a)(n c:Nat)(L)(s:Int)(o:Bool)(w)(z:n<=cH)(h:IntsAt w a n L)(Q:decide (s∈L)=o) :
  Calls aA 141 #[F a n c,E J s] w λe w'=>e = cS (cV o)/\w=w':=by
 obtain⟨x,hx⟩:=ZF (Qr s L 0);have C:=Zd (Pg a n c L s x w z h hx);have HO:Hid (decide (0<=x)=o):=by show _=_;rw[<-hx,Ac,Q]
 clear z h Q hx;go_enter func141,ntmps141;go_wp2_with fail;refine C.mono ?_;rintro e w1 ⟨rfl,rfl⟩;go_wp2;go_ret;exact⟨by rw[<-Za HO];rfl,rfl⟩
theorem Kc(a b)(n c m d:Nat)(L)(s:Int)(o:Bool)(w:World)(hn:n<=cH)(h:IntsAt w a n L)(Q:decide (s∈L)=o) :
  ZH 70 #[.agg #[F a n c,F b m d],E J s] w (cV o):=by
 have z:=Zh w (cR #[F a n c,F b m d] 28);have C:=Zd (Kt a n c L s o _ hn (h.later z) Q);have HB:=Zd z;clear h Q z;go_enter func70,ntmps70;go_wp2_with fail;refine C.mono ?_;rintro e w1 ⟨rfl,rfl⟩;go_wp2;go_ret;exact⟨rfl,Za HB⟩
def Jw(x:Zl)(a:Option Addr)(n c:Nat):Value:=.agg #[E J x.1,E J x.2.1,E J x.2.2.1,E J x.2.2.2.1,F a n c]
theorem T3(a b)(n c d:Nat)(N T)(s:Int)(x:Zl)(w:World)(hn:n<=cH)(h:IntsAt w a n N)(hT:BlksAt w b n T)(hx:fnd s N T=x) :
  Calls aA 72 #[.agg #[F a n c,F b n d],E J s] w λe w'=>∃ ta tn tc,e = cS (Jw x ta tn tc)/\TxsAt w ta tn x.2.2.2.2/\SlOk ta tn tc/\ZD w w':=by
 unfold Jw;obtain⟨X,hX⟩:=ZG ((w.alloc (cR #[F a n c,F b n d] 28)).alloc (cR #[E J 0,E J 0,E J 0,E J 0,F none 0 0] 39));have Q:ZD w X:=by rw[hX];exact Zf (Zh _ _) (Zh _ _)
 have x0:X.cell? ⟨w.heap.size,0,none⟩=some (F a n c):=by rw[hX];exact Ze (Zh _ _) (Z5 w _ _ _).1
 have x1:X.cell? ⟨w.heap.size,1,none⟩=some (F b n d):=by rw[hX];exact Ze (Zh _ _) (Z5 w _ _ _).2
 have z:X.heap[w.heap.size+1]? = some (cR [E J 0,E J 0,E J 0,E J 0,F none 0 0].toArray 39 (0,0)):=by
  rw[hX];have:=Zx (w.alloc (cR #[F a n c,F b n d] 28)) (E J 0) (E J 0) (E J 0) (E J 0) (F none 0 0) 39;rw[show (w.alloc (cR #[F a n c,F b n d] 28)).heap.size=w.heap.size+1 by simp] at this;exact this
 have z0:=Zb z 0 _ rfl;have z1:=Zb z 1 _ rfl;have z2:=Zb z 2 _ rfl;have z3:=Zb z 3 _ rfl;have z4:=Zb z 4 _ rfl;have y0:=Zg z 0;have y1:=Zg z 1;have y2:=Zg z 2;have y3:=Zg z 3;have y4:=Zg z 4;have xl:=lt_of_block z;obtain⟨k,hk⟩:=ZF (Qr s N 0);have C:=Zd (Pg a n c N s k X hn (h.later Q) hk);have af:=Zd Q;have HT:=Zd hT
 rcases Tw s N T 0 (by rw[h.1,hT.1]) with ⟨h1,_,h3⟩|⟨i,hi,h1,_,h3⟩
 ·rw[hx] at h3;obtain rfl:k = -1:=by rw[<-hk,h1]
  subst h3;clear h hT hx z Q hk h1;unfold Yf;simp only;go_enter func72,ntmps72;go_wp2_with fail;rw[<-hX];clear hX;refine C.mono ?_;rintro e w1 ⟨rfl,rfl⟩;go_wp2;(try simp only[aR,Exit.then]);refine aW (v:=.agg #[E J 0,E J 0,E J 0,E J 0,F none 0 0]) ?_ rfl ⟨none,0,0,rfl,RowsAt.nil _ _,⟨aF _,aM _,λ_=>⟨rfl,rfl⟩⟩,?_⟩
  ·rw[Ye rfl];go_simp
  ·exact (((((Gr.refl X (λq=>q=w.heap.size+1)).one (w.heap.size+1) 0 (.inl rfl) _).one (w.heap.size+1) 1 (.inl rfl) _).one (w.heap.size+1) 2 (.inl rfl) _).one (w.heap.size+1) 3 (.inl rfl) _).one (w.heap.size+1) 4 (.inl rfl) _ |>.below af (by omega) (λk hk=>by omega)
 ·rw[hx] at h3;obtain rfl:k=(i:Int):=by rw[<-hk,h1];simp
  have ay:i<n:=by rw[<-hT.1];exact hi
  obtain⟨bb,off,rfl,ar,al⟩:=hT.2 (by omega);have ak:=al i hi;rw[<-h3] at ak;obtain⟨g0,g1,g2,g3,ta,tn,tc,g4,ht,hs⟩:=ak;have aq:=Zd ht;have ap:=Zd hs;have k0:=Ze Q g0;have k1:=Ze Q g1;have k2:=Ze Q g2;have k3:=Ze Q g3;have k4:=Ze Q g4;have bl:=aC ar Q.size;clear h hT hx z Q hk h1 al ht hs g0 g1 g2 g3 g4 h3;go_enter func72,ntmps72;go_wp2_with fail;rw[<-hX];clear hX;refine C.mono ?_;rintro e w1 ⟨rfl,rfl⟩;go_wp2;(try simp only[aR,Exit.then]);refine aW (v:=.agg #[E J x.1,E J x.2.1,E J x.2.2.1,E J x.2.2.2.1,F ta tn tc]) ?_ rfl ⟨ta,tn,tc,rfl,Za aq,Za ap,?_⟩
  ·rw[Ye rfl];go_simp
  ·exact (((((Gr.refl X (λq=>q=w.heap.size+1)).one (w.heap.size+1) 0 (.inl rfl) _).one (w.heap.size+1) 1 (.inl rfl) _).one (w.heap.size+1) 2 (.inl rfl) _).one (w.heap.size+1) 3 (.inl rfl) _).one (w.heap.size+1) 4 (.inl rfl) _ |>.below af (by omega) (λk hk=>by omega)
theorem Sy(p h k n v w) :
  (Instr.field 39 (.agg #[p,h,k,n,v]) 0).run aA w = .ok p w/\(Instr.field 39 (.agg #[p,h,k,n,v]) 1).run aA w = .ok h w/\(Instr.field 39 (.agg #[p,h,k,n,v]) 2).run aA w = .ok k w:=by
 refine⟨?_,?_,?_⟩ <;> kernel_rfl
theorem Pi(a b)(n c d:Nat)(N T)(s al:Int)(w:World)(hn:n<=cH)(h:IntsAt w a n N)(hT:BlksAt w b n T)(hz:(fnd s N T).2.1=al) :
  ZH 194 #[.agg #[F a n c,F b n d],E J s] w (E J al):=by
 have z:=Zh w (cR #[F a n c,F b n d] 28);have C:=T3 a b n c d N T s _ _ hn (h.later z) (hT.later z) rfl;unfold Jw at C;rw[hz] at C;have C:=Zd C;have HB:=Zd z;clear h hT hz z;go_enter func194,ntmps194;go_wp2_with fail;refine C.mono ?_;rintro e w1 ⟨ta,tn,tc,rfl,_,_,aa⟩;have ad:=Zd (Zf HB aa);have hf:=(Sy (E J (fnd s N T).1) (E J al) (E J (fnd s N T).2.2.1) (E J (fnd s N T).2.2.2.1) (F ta tn tc) w1).2.1;clear aa;go_wp2;go_ret;exact⟨rfl,Za ad⟩
def Wid(sz:Nat)(K:List (List Value)):Prop:=∀ c∈K,c.length=sz
theorem AllC.wid{α : Type}{Z:Rec α}{w K}{L:List α}(h:AllC Z w K L):Wid Z.sz K:=by
 intro c z;obtain⟨i,hi,rfl⟩:=List.getElem_of_mem z;exact Z.wide _ _ _ (h.2 i (by rw[<-h.1];exact hi) hi)
theorem wid_at{sz:Nat}:∀ {K:List (List Value)} (_:Wid sz K) (k:Nat) (h:k<K.length) (j:Nat) (_:j<sz),K.flatten[k*sz+j]? = (K[k])[j]?
 | [],_,_,h,_,_=>absurd h (by simp)
 | c :: K,hw,0,_,j,hj=>by
  have h2:=hw c (by simp);rw[List.flatten_cons,List.getElem?_append_left (by omega)];simp
 | c :: K,hw,k+1,h,j,hj=>by
  have h2:=hw c (by simp);rw[List.flatten_cons,List.getElem?_append_right (by rw[h2,Nat.succ_mul];omega),h2];rw[show (k+1)*sz+j - sz=k*sz+j by rw[Nat.succ_mul];omega];rw[wid_at (λc z=>hw c (by simp[z])) k (by simpa using h) j hj];simp
theorem Y6{sz:Nat}:∀ {K:List (List Value)} (_:Wid sz K) (k:Nat) (h:k<K.length) (j:Nat) (_:j<sz) (u:Value),K.flatten.set (k*sz+j) u=(K.set k ((K[k]).set j u)).flatten
 | [],_,_,h,_,_,_=>absurd h (by simp)
 | c :: K,hw,0,_,j,hj,u=>by
  have h2:=hw c (by simp);rw[List.flatten_cons,Nat.zero_mul,Nat.zero_add,List.set_append_left _ _ (by omega)];simp
 | c :: K,hw,k+1,h,j,hj,u=>by
  have h2:=hw c (by simp);rw[List.flatten_cons,List.set_append_right _ _ (by rw[h2,Nat.succ_mul];omega),h2];rw[show (k+1)*sz+j - sz=k*sz+j by rw[Nat.succ_mul];omega];rw[Y6 (λc z=>hw c (by simp[z])) k (by simpa using h) j hj u];simp
theorem Vs{sz:Nat}{K:List (List Value)}(Q:Wid sz K)(k:Nat){c:List Value}(z:c.length=sz):Wid sz (K.set k c):=by
 intro x hx
 rcases List.mem_or_eq_of_mem_set hx with q|rfl
 ·exact Q x q
 ·exact z
structure Cl{α : Type}(Z:Rec α)(e:TypeId)(B G:Nat)(w0 wr:World)(v:Value)(n:Nat)(K:List (List Value))(L:List α)(k:Nat):Prop where
 own:wr.ownsRow B e Z.sz v n K.flatten
 wid:Wid Z.sz K
 len:K.length=L.length
 ln:L.length=n
 gt:∀ q,v.ownBlock=some q->q<G
 new:∀ i (h:i<L.length) (h':i<K.length),i<k->Fresh G wr (λw2=>Z.C w2 K[i] L[i])
 old:∀ i (h:i<L.length) (h':i<K.length),k<=i->Z.C w0 K[i] L[i]
section
variable {α : Type} {Z : Rec α} {e : TypeId} {B G : Nat} {w0 wr w' : World} {v : Value} {n : Nat} {K : List (List Value)} {L : List α} {k : Nat}
theorem Cl.start(h:wr.ownsRow B e Z.sz v n K.flatten)(z:AllC Z w0 K L)(hn:L.length=n)(Q:wr.heap.size<=G):Cl Z e B G w0 wr v n K L 0:=
 ⟨h,z.wid,z.1,hn,λq hq=>aC (h.lt q hq).2 Q,λ_ _ _ h=>absurd h (by omega),λi h h' _=>z.2 i h h'⟩
theorem Cl.gr{S:Nat->Prop}(h:Cl Z e B G w0 wr v n K L k)(g:Gr wr w' S)(z:∀ q,S q->q<G)(Q:∀ q,v.ownBlock=some q->¬S q):Cl Z e B G w0 w' v n K L k:=
 ⟨g.own h.own Q,h.wid,h.len,h.ln,h.gt,λi a b c=>(h.new i a b c).on (g.mono λq _ hq=>z q hq),h.old⟩
theorem Cl.keep(h:Cl Z e B G w0 wr v n K L k)(z:ZD wr w'):Cl Z e B G w0 w' v n K L k:=
 h.gr (S:=λ_=>False) (Gr.of z) (λ_ q=>q.elim) (λ_ _ q=>q)
theorem Cl.form(h:Cl Z e B G w0 wr v n K L k)(hn:0<n):∃ g cap,v = F (some ⟨g,0,none⟩) n cap/\B<=g/\g<G/\g<wr.heap.size:=by
 rcases h.own.2 with ⟨_,h0⟩|⟨g,cap,aa,rfl,z,Q,_⟩
 ·omega
 ·exact⟨g,cap,rfl,z,h.gt g rfl,lt_of_block Q⟩
theorem Cl.cell{g cap:Nat}(h:Cl Z e B G w0 wr (F (some ⟨g,0,none⟩) n cap) n K L k)(i:Nat)(hi:i<K.length)(j:Nat)(z:j<Z.sz):wr.cell? ⟨g,i*Z.sz+j,none⟩=(K[i])[j]?:=by
 have Q:i<n:=by rw[<-h.ln,<-h.len];exact hi
 have:(i+1)*Z.sz<=n*Z.sz:=Nat.mul_le_mul_right _ (by omega);rw[Nat.succ_mul] at this;rw[World.ownsRow.cellAt h.own _ (by omega),wid_at h.wid i hi j z]
theorem Cl.free{g cap:Nat}(h:Cl Z e B G w0 wr (F (some ⟨g,0,none⟩) n cap) n K L k)(j:Nat):wr.frozen? ⟨g,j,none⟩=false:=h.own.frozenAt j
theorem Cl.step{g cap:Nat}(h:Cl Z e B G w0 wr (F (some ⟨g,0,none⟩) n cap) n K L k)(hk:k<L.length){cs}(z:Fresh G wr (λw2=>Z.C w2 cs L[k]))(hg:Gr wr w' (λq=>q=g))(ho:w'.ownsRow B e Z.sz (F (some ⟨g,0,none⟩) n cap) n (K.set k cs).flatten):Cl Z e B G w0 w' (F (some ⟨g,0,none⟩) n cap) n (K.set k cs) L (k+1):=by
 have ad:=h.gt g rfl;have hw:=Z.wide _ _ _ z.now;have Q:Gr wr w' (λq=>q<G):=hg.mono λq _ e=>by omega
 refine⟨ho,Vs h.wid k hw,by rw[bY];exact h.len,h.ln,h.gt,λi a b c=>?_,λi a b c=>?_⟩
 ·by_cases e:i=k
  ·subst e;rw[cJ];exact z.on Q
  ·rw[List.getElem_set_ne (by omega)];exact (h.new i a (by simpa using b) (by omega)).on Q
 ·rw[List.getElem_set_ne (by omega)];exact h.old i a (by simpa using b) (by omega)
theorem Cl.done(h:Cl Z e B G w0 wr v n K L n):Fresh G wr (λw2=>AllC Z w2 K L):=λw2 g2=>
 ⟨h.len,λi a b=>h.new i a b (by rw[<-h.ln];exact a) w2 g2⟩
theorem Cl.rows(h:Cl Z e B G w0 wr v n K L n)(hB:B<=G):∃ a c,v = F a n c/\Fresh B wr (λw2=>RowsAt Z.R Z.sz w2 a n L/\SlOk a n c):=by
 obtain⟨a,c,rfl,_,_⟩:=rows_of_own Z h.own h.done.now h.ln;refine⟨a,c,rfl,λw2 g2=>?_⟩;have z:=g2.own h.own (λq hq=>by have:=(h.own.lt q hq).1;omega);obtain⟨Q,c',e,h1,h2⟩:=rows_of_own Z z (h.done w2 (g2.mono λq _ hq=>by omega)) h.ln;cases e;exact⟨h1,h2⟩
end
theorem set_cells{w:World}{b:Nat}{X:List Value}{t:TypeId}(h:w.heap[b]? = some (cR X.toArray t (0,0)))(j:Nat)(u):(w.setCell ⟨b,j,none⟩ u).heap[b]? = some (cR (X.set j u).toArray t (0,0)):=by
 rw[setCell_eq_setRow w b j X.toArray t (0,0) u h];have:=setRow_heap w b _ (X.toArray.setIfInBounds j u) t _ h;simpa using this
theorem len1{c:List Value}(h:c.length=2):∃ x y,c=[x,y]:=by
 match c,h with
 | [x,y],_=>exact⟨x,y,rfl⟩
theorem len3{c:List Value}(h:c.length=3):∃ x y z,c=[x,y,z]:=by
 match c,h with
 | [x,y,z],_=>exact⟨x,y,z,rfl⟩
theorem len5{c:List Value}(h:c.length=5):∃ x y z r s,c=[x,y,z,r,s]:=by
 match c,h with
 | [x,y,z,r,s],_=>exact⟨x,y,z,r,s,rfl⟩
theorem put2{K:List (List Value)}(z:Wid 2 K)(k:Nat)(h:k<K.length)(a b):((K.flatten.set (k*2) a).set (k*2+1) b)=(K.set k [a,b]).flatten:=by
 obtain⟨x,y,e⟩:=len1 (z _ (aX h));have h1:=Y6 z k h 0 (by decide) a;rw[Nat.add_zero] at h1;rw[h1,Y6 (Vs z k (by rw[bY,e];rfl)) k (by rw[bY];exact h) 1 (by decide) b,cJ,List.set_set,e];rfl
theorem put3{K:List (List Value)}(z:Wid 3 K)(k:Nat)(h:k<K.length)(a b c):(((K.flatten.set (k*3) a).set (k*3+1) b).set (k*3+2) c)=(K.set k [a,b,c]).flatten:=by
 obtain⟨x,y,aa,e⟩:=len3 (z _ (aX h));have h1:=Y6 z k h 0 (by decide) a;rw[Nat.add_zero] at h1;rw[h1,Y6 (Vs z k (by rw[bY,e];rfl)) k (by rw[bY];exact h) 1 (by decide) b,cJ,List.set_set,e];rw[Y6 (Vs z k rfl) k (by rw[bY];exact h) 2 (by decide) c,cJ,List.set_set];rfl
theorem put5{K:List (List Value)}(z:Wid 5 K)(k:Nat)(h:k<K.length)(a b c d f):(((((K.flatten.set (k*5) a).set (k*5+1) b).set (k*5+2) c).set (k*5+3) d).set (k*5+4) f)=(K.set k [a,b,c,d,f]).flatten:=by
 obtain⟨x,y,aa,r,s,e⟩:=len5 (z _ (aX h));have h1:=Y6 z k h 0 (by decide) a;rw[Nat.add_zero] at h1;rw[h1,Y6 (Vs z k (by rw[bY,e];rfl)) k (by rw[bY];exact h) 1 (by decide) b,cJ,List.set_set,e];rw[Y6 (Vs z k rfl) k (by rw[bY];exact h) 2 (by decide) c,cJ,List.set_set];rw[Y6 (Vs z k rfl) k (by rw[bY];exact h) 3 (by decide) d,cJ,List.set_set];rw[Y6 (Vs z k rfl) k (by rw[bY];exact h) 4 (by decide) f,cJ,List.set_set];rfl
theorem R4(x:Int)(a)(n c:Nat)(l)(w:World)(hn:n<=8796093022208)(h:OpsAt w a n l)(hs:SlOk a n c) :
  Calls aA 161 #[.agg #[E J x,F a n c]] w λe w'=>∃ z Q,e = cS (.agg #[E J x,F z n Q])/\Fresh w.heap.size w' (λw2=>OpsAt w2 z n l/\SlOk z n Q)/\ZD w w':=by
 obtain⟨X,hX⟩:=ZG ((w.alloc (cR #[E J x,F a n c] 122)).alloc (cR #[E J 0,F none 0 0] 122));have ae:ZD w X:=by rw[hX];exact Zf (Zh _ _) (Zh _ _)
 have x0:X.cell? ⟨w.heap.size,0,none⟩=some (E J x):=by rw[hX];exact Ze (Zh _ _) (Z5 w _ _ _).1
 have x1:X.cell? ⟨w.heap.size,1,none⟩=some (F a n c):=by rw[hX];exact Ze (Zh _ _) (Z5 w _ _ _).2
 have ah:X.heap[w.heap.size+1]? = some (cR [E J 0,F none 0 0].toArray 122 (0,0)):=by
  rw[hX];have:=Yu (w.alloc (cR #[E J x,F a n c] 122)) (E J 0) (F none 0 0) 122;rw[show (w.alloc (cR #[E J x,F a n c] 122)).heap.size=w.heap.size+1 by simp] at this;exact this
 have C:=Zd (Uu a n c l X.drew hn (h.later (Zf ae (Zi X))) hs);have af:=Zd ah;have al:=Zd ae;clear h hs ae ah;go_enter func161,ntmps161;go_wp2_with fail;rw[<-hX];clear hX
 go_region_with (go_at_call 150;refine C.mono ?_;rintro e w3 ⟨z,Q,rfl,ad,aa⟩;have o2:w3.cell? ⟨w.heap.size,0,none⟩=some (E J x):=Ze aa (Ze (Zi _) x0);have ac:=ZE aa af;have c0:=Zb ac 0 _ rfl;have c1:=Zb ac 1 _ rfl;have f0:=Zg ac 0;have f1:=Zg ac 1;have H3:Hid (Fresh X.drew.heap.size w3 (λw2=>OpsAt w2 z n l/\SlOk z n Q)/\Below X.drew.heap.size X.drew w3):=⟨ad,aa⟩;clear ad aa ac)
 all_goals
  go_wp2;(try simp only[aR,Exit.then]);obtain⟨ad,aa⟩:=Za H3;have hG:=((Gr.refl w3 (λq=>q=w.heap.size+1)).one (w.heap.size+1) 0 (.inl rfl) (E J x)).one (w.heap.size+1) 1 (.inl rfl) (F z n Q);have au:w.heap.size+1<X.drew.heap.size:=lt_of_block af;refine aW (v:=.agg #[E J x,F z n Q]) ?_ rfl ⟨z,Q,rfl,(ad.on (hG.mono λq _ e=>by omega)).less (by omega),?_⟩
  ·rw[Ye rfl];go_simp
  ·have av:=aa.size;exact hG.below (Zf (Zf al (Zi _)) aa) (by omega) (λk hk=>by omega)
end Tr
open Go.RowKit
def DoR(w w':World)(p:Nat)(x:Int)(K:List ByteArray)(C:List Zj)(h f:Int)(e:Ending):Prop:=
 (x≠0/\e = cS (cT #[E J 0,E J x])/\ZD w w') \/
 (x=0/\e = cS (cT #[E J f,E J 0])/\Gr w w' (λq=>q=p)/\DoT w' w.heap.size p K C h)
theorem DoR.err{w w':World}{p:Nat}{x y:Int}{K C}{h f:Int}(h0:y≠0)(hx:x=y)(z:ZD w w'):DoR w w' p x K C h f (cS (cT #[E J 0,E J y])):=by
 subst hx;exact .inl ⟨h0,rfl,z⟩
def Zlv(V wx:World)(M:List Zj)(s9:Value):Prop:=
 ∃ z nm Q,s9 = F z nm Q/\Fresh V.heap.size wx (λw2=>CoinsAt w2 z nm M)/\SlOk z nm Q/\ZD V wx
theorem Ax{V W wx:World}{M}{Z:Nat}{z nm Q}(hF:Fresh Z W (λw2=>CoinsAt w2 z nm M))(hZ:V.heap.size<=Z)(hs:SlOk z nm Q)(hb:ZD V W)(hg:Gr W wx (λq=>q<Z/\V.heap.size<=q)):Zlv V wx M (F z nm Q):=
 ⟨z,nm,Q,rfl,λw2 g2=>hF w2 ((hg.mono (λ_ _ q=>q.1)).trans (g2.mono (λ_ _ q=>aC q hZ))),hs,hg.below hb hb.size (λ_ q=>q.2)⟩
theorem Zgc(p:Nat)(K C)(h th:Int)(ai ao ni ci no co I O)(x:Int)(K' C' w)(hE:Env w)(hT:Zit w p K C h)(bv:Y8 C)(hI:InsAt w ai ni I)(hO:OutsAt w ao no O)(sI:SlOk ai ni ci)(hx:doD h (K,C) (th,I,O)=(x,K',C')) :
  Calls aA 91 #[cU (some ⟨p,0,none⟩),.agg #[E J th,F ai ni ci,F ao no co]] w λe w'=>DoR w w' p x K' C' h (Zr C - Zr C') e:=by
 obtain⟨ka,kn,kc,la,ln,lc,hp,hK,sK,hC,sC⟩:=hT;obtain⟨X,hX⟩:=ZG (w.alloc (cR #[E J th,F ai ni ci,F ao no co] 59));have bg:ZD w X:=by rw[hX];exact Zh _ _
 have au:X.heap[w.heap.size]? = some (cR [E J th,F ai ni ci,F ao no co].toArray 59 (0,0)):=by rw[hX];exact Zv _ _ _ _ _
 have dt:I.length=ni:=hI.1;obtain⟨x1,cz⟩:=ZF (Zw (th,I,O));obtain⟨T,cw⟩:=ZF (txT (th,I,O));obtain⟨⟨K1,nm,x2⟩,da⟩:=ZF (Bk.nameR K T);obtain⟨⟨x3,M,S⟩,ce⟩:=ZF (apD C (th,I,O) nm h);unfold doD at hx;simp only[cz,cw,da,ce,dt] at hx;have bd:=Zd (λV (hv:ZD X V)=>(show V.heap[w.heap.size]? = some (cR [E J th,F ai ni ci,F ao no co].toArray 59 (0,0)) from ZE hv au));have ak:=Zd (λV (hv:ZD w V)=>(show V.heap[p]? = some (cR [F ka kn kc,F la ln lc,E J h].toArray 162 (0,0)) from ZE hv hp));have du:p<w.heap.size:=lt_of_block hp;have C1:=Zd (Gs th ai ao ni ci no co I O T x1 X (hE.later bg) (hI.later bg) (hO.later bg) sI cz cw);have C2:=Zd (λV (hv:ZD w V)=>Bk.name_fresh ka kn kc K K1 T nm x2 V (hK.later hv) da);have C3:=Zd (λV (hv:ZD w V)=>Pv la ln lc C th ai ao ni ci no co I O nm h x3 M S V (hC.later hv) sC (hI.later hv) (hO.later hv) sI ce)
 have cu:Hid (x3=0->Y8 M/\Zr M<=1000000000/\0<=Zr M):=λq=>by
  subst q;have r:=(Bi ce).2.1;exact⟨r,r.sum,Vg M (λc hc=>by have:=Y7 (r.one c hc);omega)⟩
 obtain⟨s1,bh⟩:∃ s,Zr C=s:=⟨_,rfl⟩;have b1:s1<=1000000000:=by rw[<-bh];exact bv.sum
 have b2:0<=s1:=by rw[<-bh];exact Vg C (λc hc=>by have:=Y7 (bv.one c hc);omega)
 have C4:=Zd (λV (hv:ZD w V)=>Mh la ln lc C s1 V (hC.later hv) bv bh);have HX:=Zd hx;have en:=Zd bg;have er:=Zd bh;have t0:=Zb au 0 _ rfl;have t1:=Zb au 1 _ rfl;have t2:=Zb au 2 _ rfl;have tl:=lt_of_block au;clear hE hK sK hC sC hI hO sI hx cz cw da ce bg au hp bv bh dt;go_enter func91,ntmps91;go_wp2_with fail;rw[<-hX];clear hX;(try go_wp2_with fail);refine C1.mono ?_;rintro e w1 ⟨rfl,bz⟩;have h10:=bd _ bz;have t0:=Zb h10 0 _ rfl;have t1:=Zb h10 1 _ rfl;have t2:=Zb h10 2 _ rfl;have tl:=lt_of_block h10;have aj:=Zd (Zf en bz);have ej:=Zd bz;clear bz h10 C1;by_cases e1:x1=0
 ·subst e1;by_cases e2:ni=0
  ·subst e2;have ad:Hid (x=4):=(by have:=Za HX;rw[if_neg (λq=>q rfl),if_pos rfl] at this;injection this with this _;exact this.symm);clear HX;go_wp2;go_ret2;exact DoR.err (by decide) ad aj
  have gq:((ni:Int) == 0)=false:=by simp;omega
  have fq:¬((ni:Int)=0):=by omega
  have p1:=ak _ aj;have q0:=Zb p1 0 _ rfl;have q1:=Zb p1 1 _ rfl;have q2:=Zb p1 2 _ rfl;have ql:=lt_of_block p1;clear p1;go_wp2_with fail;refine (C2 _ aj).mono ?_;rintro e w2 ⟨⟨ka',kn',kc',rfl,dp,dz⟩,ca⟩;have di:=Zd (Zf aj ca);have eo:=Zd dp;have et:=Zd dz;have fw:w1.heap.size<=w2.heap.size:=ca.size;obtain⟨V,hV⟩:=ZG (w2.alloc (cR #[F ka' kn' kc'] 24));have cb:ZD w2 V:=by rw[hV];exact Zh _ _
  have dq:V.heap[w2.heap.size]? = some (cR [F ka' kn' kc'].toArray 24 (0,0)):=by rw[hV];exact Yq _ _ _
  have ab:=Zd (Zf di cb);have ek:=Zd cb;have ev:=Zd dq;have bq:=Zd (Zf ej (Zf ca cb));clear ca dp dz cb dq q0 q1 q2 ql t0 t1 t2 tl;have ed:=Zb (bd _ bq) 0 _ rfl;have ee:=Zb (bd _ bq) 1 _ rfl;have ef:=Zb (bd _ bq) 2 _ rfl;have eg:=lt_of_block (bd _ bq);have fg:=Zb (ak _ ab) 0 _ rfl;have dv:=Zb (ak _ ab) 1 _ rfl;have dw:=Zb (ak _ ab) 2 _ rfl;have dx:=lt_of_block (ak _ ab);by_cases e3:x2=0
  ·subst e3
   go_upto_region 9 with fail
   rw[<-hV];clear hV;have dm:=Zd (Zf ab (Zi V));have dl:=Zd (Zf (Zf ab (Zh V (cR #[F none 0 0] 153))) (Zi _));have v0:(V.alloc (cR #[F none 0 0] 153)).drew.heap[V.heap.size]? = some (cR #[F none 0 0] 153 (0,0)):=Yq V (F none 0 0) 153;have dk:=Zd v0;clear v0;have KS:Hid (∀ U:World,ZD V U->((U.cell? ⟨p,1,none⟩=some (F la ln lc)/\U.cell? ⟨p,2,none⟩=some (E J h)/\p<U.heap.size)/\U.cell? ⟨w.heap.size,0,none⟩=some (E J th)/\U.cell? ⟨w.heap.size,1,none⟩=some (F ai ni ci)/\U.cell? ⟨w.heap.size,2,none⟩=some (F ao no co)/\w.heap.size<U.heap.size)):=λU Q=>⟨⟨Ze Q dv,Ze Q dw,aC dx Q.size⟩,Ze Q ed,Ze Q ee,Ze Q ef,aC eg Q.size⟩
   go_cut [5,9,10] from 36 to 50 (λs5 s9 gl wx=>s5 = E J x3/\Hid (Zlv V wx M s9))
   case first=>
    refine wp_region_held_drew (S:=λU=>(U.cell? ⟨p,1,none⟩=some (F la ln lc)/\U.cell? ⟨p,2,none⟩=some (E J h)/\p<U.heap.size)/\U.cell? ⟨w.heap.size,0,none⟩=some (E J th)/\U.cell? ⟨w.heap.size,1,none⟩=some (F ai ni ci)/\U.cell? ⟨w.heap.size,2,none⟩=some (F ao no co)/\w.heap.size<U.heap.size) (by kernel_rfl) (KS _ (Zi _)) (λz=>?_);refine tkL 0 rfl z ?_;refine tkL 1 rfl z ?_;refine tkL 2 rfl z ?_;refine tkL 3 rfl z ?_;refine tkL 4 rfl z ?_;refine tkL 5 rfl z ?_;refine tkL 6 rfl z ?_;refine tkL 7 rfl z ?_;refine tkL 8 rfl z ?_;refine tkL 9 rfl z ?_;refine wpAnyH_ready (rs:=[10,15]) (by kernel_rfl) (by simp) ?_;refine rdC rfl (λKQ hK=>?_) (rdC rfl (λKQ hK=>?_) AllReadyH.nil)
    ·refine Zn (by kernel_rfl) 76 #[F la ln lc,.agg #[E J th,F ai ni ci,F ao no co],E J nm,E J h] (by kernel_rfl) (C3 V.drew dm) ?_;rintro e w5 ⟨gp,az,cm,sa,ns,cs,rfl,am,bb,-,-,ah⟩;refine⟨_,rfl,?_⟩;have hb:ZD V w5:=Zf (Zi V) ah;clear z;refine hK.out _ _ (KS _ hb) (λz=>?_);clear hK KQ;refine tkL 11 rfl z ?_;refine tkL 12 rfl z ?_;refine tkL 13 rfl z ?_;refine tkL 14 rfl z ?_;refine rdY 15 rfl (λKQ hK=>?_);go_simp;clear z;refine hK.out _ _ (KS _ (Zf hb (Zh _ _))) (λz=>?_);clear hK KQ;refine tkL 16 rfl z ?_;refine rdY 17 rfl (λKQ hK=>?_);go_simp;clear z;refine hK.out _ _ (KS _ (Zf hb (Zh _ _))) (λz=>?_);clear hK KQ;(try simp only[Act.put]);refine tkL 18 rfl z ?_;refine wpAnyH_done (by kernel_rfl) ?_ _;clear z;go_wp2_with fail;go_meet
     case rel=>exact⟨rfl,Ax am (aF _) bb hb (Gr.of (Zh _ _))⟩
    ·go_simp;obtain⟨v6,cd⟩:=ZG ((V.alloc (cR #[F none 0 0] 153)).drew);have h6:=Za dk;have ds:=Za dl;rw[<-cd] at h6 ds;rw[<-cd];have av:ZD V v6:=(by rw[cd];exact Zf (Zh _ _) (Zi _));have fx:v6.heap.size=V.heap.size+1:=(by rw[cd];simp);clear z;refine hK.out _ _ (KS _ av) (λz=>?_);clear hK KQ;(try simp only[Act.put,ZA,ZB,ZC]);refine rdS 10 rfl (C3 v6 ds) ?_;rintro e w5 ⟨gp,az,cm,sa,ns,cs,rfl,am,bb,-,-,ah⟩;have hb:ZD V w5:=Zf av ah;have h5:=ZE ah h6;have u50:=Zb (X:=[F none 0 0]) h5 0 _ rfl;have gm:=Zg h5 0;have gn:=lt_of_block h5;clear z;refine⟨_,rfl,(KS _ hb),λz=>?_⟩;refine tkL 11 rfl z ?_;refine tkL 12 rfl z ?_;refine tkL 13 rfl z ?_;refine tkL 14 rfl z ?_;refine tkL 16 rfl z ?_;refine rdY 17 rfl (λKQ hK=>?_);go_simp;clear z;refine hK.out _ _ (KS _ (hb.setCell (p:=⟨V.heap.size,0,none⟩) (aF _) _)) (λz=>?_);clear hK KQ;(try simp only[Act.put]);refine tkL 18 rfl z ?_;refine wpAnyH_done (by kernel_rfl) ?_ _;clear z;go_wp2_with fail;go_meet
     case rel=>exact⟨rfl,Ax am (by omega) bb hb ((Gr.refl w5 _).one V.heap.size 0 (.inl ⟨by omega,aF _⟩) _)⟩
   case rest=>
    obtain⟨rfl,hc⟩:=hcut;obtain⟨gp,az,cm,rfl,am,bb,ah⟩:=Za hc;have cx:=Zf ab ah;have cp:=Zd cx;have dj:=Zd ah;have ep:=Zd am;have eu:=Zd bb;have p5:=ak _ cx;have ga:=Zb p5 0 _ rfl;have gb:=Zb p5 1 _ rfl;have gc:=Zb p5 2 _ rfl;have gd:=lt_of_block p5;have CM:=Zd (λU (Q:ZD wc U) (h0:x3=0) s2 (hs:Zr M=s2)=>Mh gp az cm M s2 U ((am wc (Gr.refl _ _)).later Q) (cu h0).1 hs);clear hc am bb ah cx p5 ed ee ef eg fg dv dw dx KS dm dl dk C3;by_cases e4:x3=0
    ·obtain⟨ew,ey,ez⟩:=cu e4;obtain⟨s2,cc⟩:=ZF (Zr M);rw[cc] at ey ez;have dh:=Zd (λU Q=>CM U Q e4 s2 cc);have es:=Zd cc;have ad:Hid (x=0/\K'=K1/\C'=M):=(by have:=Za HX;rw[if_neg (λq=>q rfl),if_neg e2,if_neg (λq=>q rfl),if_neg (λq=>q e4)] at this;injection this with h1 h2;injection h2 with h2 h3;exact⟨h1.symm,h2.symm,h3.symm⟩);subst e4;clear cc CM HX cu ew;have C5:=Zd (C4 wc cp);go_wp2_with fail;refine C5.mono ?_;rintro e w6 ⟨rfl,av⟩;have C6:=Zd (dh w6 av);have el:=Zd av;clear av C5 C4;go_wp2_with fail;refine C6.mono ?_;rintro e w7 ⟨rfl,dr⟩;have bf:=Zf el dr;have cy:=Zf cp bf;have p7:=ak _ cy;have gf:=Zb p7 0 _ rfl;have gg:=Zb p7 1 _ rfl;have gh:=Zg p7 0;have gi:=Zg p7 1;have gj:=lt_of_block p7;have k7:=ZE (Zf dj bf) ev;have fy:=Zb k7 0 _ rfl;have fz:=lt_of_block k7;have fa:p≠w2.heap.size:=(by have:=di.size;omega);have fv:w2.heap.size≠p:=λq=>fa q.symm;have G7:Gr w7 ((w7.setCell ⟨p,0,none⟩ (F ka' kn' kc')).setCell ⟨p,1,none⟩ (F gp az cm)) (λq=>q=p):=((Gr.refl w7 (λq=>q=p)).one p 0 (.inl rfl) _).one p 1 (.inl rfl) _
     have eq:Hid (DoR w ((w7.setCell ⟨p,0,none⟩ (F ka' kn' kc')).setCell ⟨p,1,none⟩ (F gp az cm)) p x K' C' h (Zr C - Zr C') (cS (cT #[E J (s1 - s2),E J 0]))):=by
      obtain⟨rfl,rfl,rfl⟩:=Za ad;rw[Za er,Za es];refine .inr ⟨rfl,rfl,(Gr.of cy).trans G7,ka',kn',kc',gp,az,cm,Tr.set_cells (Tr.set_cells p7 0 _) 1 _,λW g2=>⟨eo W ?_,ep W ?_⟩,Za et,Za eu⟩
      ·exact ((Gr.of (Zf ek (Zf dj bf))).trans (G7.mono (λq _ e=>by rw[e];exact aC du aj.size))).trans (g2.mono (λq _ e=>aC e aj.size))
      ·exact ((Gr.of bf).trans (G7.mono (λq _ e=>by rw[e];exact aC du ab.size))).trans (g2.mono (λq _ e=>aC e ab.size))
     clear G7 bf cy p7 k7 dr C6 dh;go_wp2;go_ret2;exact Za eq
    ·have fu:(x3 != 0)=true:=(by simp[e4]);have ad:Hid (x=x3):=(by have:=Za HX;rw[if_neg (λq=>q rfl),if_neg e2,if_neg (λq=>q rfl),if_pos e4] at this;injection this with this _;exact this.symm);clear HX CM;go_wp2;go_ret2;exact DoR.err e4 ad cp
  ·have ft:(x2 != 0)=true:=(by simp[e3]);have ad:Hid (x=x2):=(by have:=Za HX;rw[if_neg (λq=>q rfl),if_neg e2,if_pos e3] at this;injection this with this _;exact this.symm);clear HX;go_wp2;rw[<-hV];go_ret2;exact DoR.err e3 ad ab
 ·have fs:(x1 != 0)=true:=by simp[e1]
  have ad:Hid (x=x1):=by have:=Za HX;rw[if_pos e1] at this;injection this with this _;exact this.symm
  clear HX;go_wp2;go_ret2;exact DoR.err e1 ad aj
namespace Tr
open Go.RowKit
theorem own_apart{w:World}{B Q:Nat}{e z:TypeId}{sz ad n n':Nat}{v v':Value}{xs ae}(h:w.ownsRow B e sz v n xs)(h':w.ownsRow Q z ad v' n' ae)(hn:e≠z)(q:Nat)(hq:v.ownBlock=some q):v'.ownBlock≠some q:=by
 intro ab;obtain⟨c,f,h1⟩:=Lib.ownsRow_kind h q hq;obtain⟨c',f',h2⟩:=Lib.ownsRow_kind h' q ab;rw[h1] at h2;injection h2 with h2;injection h2 with _ h2;exact hn h2
theorem Zkp{G B w0s:Nat}{w0 wr w5:World}{g cap n k:Nat}{K:List (List Value)}{I:List InD}{x:InD}{a z m c Q}(h:Cl inR 119 B G w0 wr (F (some ⟨g,0,none⟩) n cap) n K I k)(hk:k<I.length)(ae:k<K.length)(hx:I[k]=x)(e:K[k]=[E J x.1,E J x.2.1,F a m c])(hb:ZD wr w5)(hf:Fresh w0s w5 (λw2=>OpsAt w2 z m x.2.2/\SlOk z m Q))(hG:G<=w0s) :
  Cl inR 119 B G w0 (w5.setCell ⟨g,k*3+2,none⟩ (F z m Q)) (F (some ⟨g,0,none⟩) n cap) n (K.set k [E J x.1,E J x.2.1,F z m Q]) I (k+1):=by
 have h5:=h.keep hb;refine h5.step hk ?_ ((Gr.refl w5 (λq=>q=g)).one g (k*3+2) (.inl rfl) _) ?_
 ·rw[hx];exact (hf.less hG).imp λw2 q=>⟨z,m,Q,rfl,q.1,q.2⟩
 ·have h1:=(h5.own.stored (k*3+2) (F z m Q)).1;have h2:=Y6 (sz:=3) h5.wid k ae 2 (by decide) (F z m Q);rw[e] at h2;rw[h2] at h1;exact h1
theorem Zgf{G B w0s:Nat}{w0 wr w5:World}{g cap n k:Nat}{K:List (List Value)}{O:List Zz}{x:Zz}{z m Q}(h:Cl outR 122 B G w0 wr (F (some ⟨g,0,none⟩) n cap) n K O k)(hk:k<O.length)(ae:k<K.length)(hx:O[k]=x)(hb:ZD wr w5)(hf:Fresh w0s w5 (λw2=>OpsAt w2 z m x.2/\SlOk z m Q))(hG:G<=w0s) :
  Cl outR 122 B G w0 ((w5.setCell ⟨g,k*2,none⟩ (E J x.1)).setCell ⟨g,k*2+1,none⟩ (F z m Q)) (F (some ⟨g,0,none⟩) n cap) n (K.set k [E J x.1,F z m Q]) O (k+1):=by
 have h5:=h.keep hb;refine h5.step hk ?_ (((Gr.refl w5 (λq=>q=g)).one g (k*2) (.inl rfl) _).one g (k*2+1) (.inl rfl) _) ?_
 ·rw[hx];exact (hf.less hG).imp λw2 q=>⟨z,m,Q,rfl,q.1,q.2⟩
 ·have h1:=((h5.own.stored (k*2) (E J x.1)).1.stored (k*2+1) (F z m Q)).1;rw[put2 h5.wid k ae] at h1;exact h1
def Zlt(w:World)(h:Int)(I:List InD)(O:List Zz)(ni no:Nat)(v1 v2:Value)(wx:World):Prop:=
 ∃ z Q,AllC inR w z I/\AllC outR w Q O/\wx.ownsRow (w.heap.size+2) 119 3 v1 ni z.flatten/\wx.ownsRow (w.heap.size+2) 122 2 v2 no Q.flatten /\
  wx.heap[w.heap.size]? = some (cR [E J h,v1,v2].toArray 59 (0,0))/\wx.heap[w.heap.size+1]? = some (cR [E J 0,F none 0 0,F none 0 0].toArray 59 (0,0))/\ZD w wx
theorem Av{w W wx:World}{h:Int}{I O}{ni no:Nat}{v1 v2}{K1 K2:List (List Value)}(h1:AllC inR w K1 I)(h2:AllC outR w K2 O)(o1:W.ownsRow (w.heap.size+2) 119 3 v1 ni K1.flatten)(o2:W.ownsRow (w.heap.size+2) 122 2 v2 no K2.flatten)(hb:ZD w W)
  (hz:W.heap[w.heap.size+1]? = some (cR [E J 0,F none 0 0,F none 0 0].toArray 59 (0,0))) (z:Gr W wx (λq=>q=w.heap.size)) (hx:wx.heap[w.heap.size]? = some (cR [E J h,v1,v2].toArray 59 (0,0))):Zlt w h I O ni no v1 v2 wx:=
 ⟨K1,K2,h1,h2,z.own o1 (λk Q=>by have:=(o1.lt k Q).1;omega),z.own o2 (λk Q=>by have:=(o2.lt k Q).1;omega),hx,z.heap hz (by omega),z.below hb (by have:=lt_of_block hz;omega) (λk Q=>by omega)⟩
theorem clTx_is(h:Int)(ai ao ni ci no co I O)(w:World)(hI:InsAt w ai ni I)(hO:OutsAt w ao no O)(sI:SlOk ai ni ci)(sO:SlOk ao no co)(ev:ni<=3518437208883)(ew:no<=4398046511104)(hk:∀ x∈I,x.2.2.length<=8796093022208)(hl:∀ x∈O,x.2.length<=8796093022208) :
  Calls aA 92 #[.agg #[E J h,F ai ni ci,F ao no co]] w λe w'=>∃ a1 c1 a2 c2,e = cS (.agg #[E J h,F a1 ni c1,F a2 no c2])/\Fresh w.heap.size w' (λw2=>txR.C w2 [E J h,F a1 ni c1,F a2 no c2] (h,I,O))/\ZD w w':=by
 obtain⟨X,hX⟩:=ZG ((w.alloc (cR #[E J h,F ai ni ci,F ao no co] 59)).alloc (cR #[E J 0,F none 0 0,F none 0 0] 59));have dc:ZD w X:=by rw[hX];exact Zf (Zh _ _) (Zh _ _)
 have bk:X.heap[w.heap.size]? = some (cR [E J h,F ai ni ci,F ao no co].toArray 59 (0,0)):=by
  rw[hX,Below.heap_alloc _ _ _ (by simp)];exact Zv _ _ _ _ _
 have eg:X.heap.size=w.heap.size+2:=by rw[hX];simp
 have ag:X.heap[w.heap.size+1]? = some (cR [E J 0,F none 0 0,F none 0 0].toArray 59 (0,0)):=by
  rw[hX];have:=Zv (w.alloc (cR #[E J h,F ai ni ci,F ao no co] 59)) (E J 0) (F none 0 0) (F none 0 0) 59;rw[show (w.alloc (cR #[E J h,F ai ni ci,F ao no co] 59)).heap.size=w.heap.size+1 by simp] at this;exact this
 have dt:=Zd dc;have cm:=Zd bk;have dx:=Zd ag;have dy:=Zd eg;have el:=Zd hk;have en:=Zd hl;have dz:=Zd hI.1;have ea:=Zd hO.1;have C1:=Zd (A6 ai ni ci I w X.drew ev hI (Zf dc (Zi X)) sI);have C2:=Zd (λW (hb:ZD w W)=>Nw ao no co O w W ew hO hb sO);have x1:=Zb bk 1 _ rfl;have x2:=Zb bk 2 _ rfl;have xl:=lt_of_block bk;clear dc bk ag hI hO sI sO hk hl eg;go_enter func92,ntmps92
 go_upto_region 1 with fail
 rw[<-hX];clear hX
 go_cut [9,12] from 7 to 14 (λs9 fd wx=>Hid (Zlt w h I O ni no s9 fd wx))
 case first=>
  go_region_with (first
   | (go_at_call 159;refine C1.mono ?_;rintro e w3 ⟨v1,K1,rfl,hA1,bh,bz⟩;have h30:=ZE bz cm;have d1:=Zb h30 1 _ rfl;have d2:=Zb h30 2 _ rfl;have gn:=lt_of_block h30;have dm:=Zd hA1;have dv:Hid (w3.ownsRow (w.heap.size+2) 119 3 v1 ni K1.flatten):=Yo bh (cG dy.symm);have dq:=Zd (Zf (Zf dt (Zi _)) bz);have dr:=Zd (Zf (Zi X) bz);clear hA1 bh bz h30)
   | (go_at_call 160;refine (C2 _ dq).mono ?_;rintro e w4 ⟨v2,K2,rfl,hA2,bi,ca⟩;have dd:=Zf dr ca;have h40:=ZE dd cm;have h41:=ZE dd dx;have e0:=Zb h40 0 _ rfl;have e1:=Zb h40 1 _ rfl;have e2:=Zb h40 2 _ rfl;have z1:=Zg h40 1;have z2:=Zg h40 2;have gp:=lt_of_block h40;have dn:=Zd hA2;have cl:Hid (w4.ownsRow (w.heap.size+2) 122 2 v2 no K2.flatten):=Yo bi (by have:=dr.size;have:=Za dy;omega);have dw:=Zd ((Gr.of (S:=λ_=>False) ca).own dv (λ_ _ q=>q));have ds:=Zd (Zf dq ca);have dk:=Zd h40;have dl:=Zd h41;obtain⟨a2,c2,rfl,_,_⟩:=Z0 cl;obtain⟨a1,c1,rfl,_,_⟩:=Z0 dv;clear hA2 bi ca dd h40 h41))
  all_goals
   go_wp2_with fail;go_meet
   case rel=>
    first
    | exact Av (W:=w4) dm dn dw cl ds dl (((Gr.refl w4 (λq=>q=w.heap.size)).one w.heap.size 1 (.inl rfl) _).one w.heap.size 2 (.inl rfl) _) (set_cells (set_cells dk 1 _) 2 _)
    | exact Av (W:=w4) dm dn dw cl ds dl (((Gr.refl w4 (λq=>q=w.heap.size)).one w.heap.size 2 (.inl rfl) _).one w.heap.size 1 (.inl rfl) _) (set_cells (set_cells dk 2 _) 1 _)
 case rest=>
  obtain⟨K1,K2,hA1,hA2,bh,bi,h0,h1,hb⟩:=Za hcut;obtain⟨a1,c1,rfl,_,_⟩:=Z0 bh;obtain⟨a2,c2,rfl,_,_⟩:=Z0 bi;obtain⟨G,hG⟩:=ZF (wc.heap.size);have ef:w.heap.size+2<=G:=by rw[<-hG];exact lt_of_block h1
  have eb:Hid (Cl inR 119 (w.heap.size+2) G w wc (F a1 ni c1) ni K1 I 0):=Cl.start bh hA1 dz (cG hG);have ec:Hid (Cl outR 122 (w.heap.size+2) G w wc (F a2 no c2) no K2 O 0):=Cl.start bi hA2 ea (cG hG);have H0:=Zd h0;have H1:=Zd h1;have HB:=Zd hb;have du:Hid (G<=wc.heap.size):=cG hG.symm;have eo:=Zb h0 1 _ rfl;have cp:=lt_of_block h0;clear hcut hA1 hA2 bh bi h0 h1 hb C1 C2 cm dx dt x1 x2 xl hG;go_wp2
  go_loopw [18] (λi wr=>∃ (k:Nat) (K:List (List Value)),k<=ni/\i = E J k/\Hid (Cl inR 119 (w.heap.size+2) G w wr (F a1 ni c1) ni K I k)/\Hid (Cl outR 122 (w.heap.size+2) G w wr (F a2 no c2) no K2 O 0)/\Hid (wr.heap[w.heap.size]? = some (cR [E J h,F a1 ni c1,F a2 no c2].toArray 59 (0,0)))/\Hid (wr.heap[w.heap.size+1]? = some (cR [E J 0,F none 0 0,F none 0 0].toArray 59 (0,0)))/\Hid (ZD w wr)/\Hid (G<=wr.heap.size)) (λi _=>ni - (intOf i).toNat)
  case atStart=>exact⟨0,K1,aM _,rfl,eb,ec,H0,H1,HB,du⟩
  case round=>
   obtain⟨k,K,hk,rfl,ah,bs,am,cd,br,cg⟩:=hrel;clear eb ec H0 H1 HB du eo cp;by_cases et:k<ni
   ·have ar:k<I.length:=(by rw[Za dz];exact et);have al:k<K.length:=(by rw[(Za ah).len];exact ar);obtain⟨g,cap,gm,eq,er,bg⟩:=ah.form (by omega);cases gm;obtain⟨a,m,c,eK,au,bo⟩:=ah.old k ar al (aF _);have bd:=el _ (aX ar);obtain⟨x,hx⟩:=ZF (I[k]);rw[hx] at eK au bd;have r0:=ah.cell k al 0 (by decide);have r1:=ah.cell k al 1 (by decide);have r2:=ah.cell k al 2 (by decide);rw[eK] at r0 r1 r2;have r0:wr.cell? ⟨g,k*3,none⟩=some (E J x.1):=r0;have r1:wr.cell? ⟨g,k*3+1,none⟩=some (E J x.2.1):=r1;have r2:wr.cell? ⟨g,k*3+2,none⟩=some (F a m c):=r2;have hm:m<=8796093022208:=(by rw[<-au.1];exact bd);obtain⟨X1,ag⟩:=ZG (wr.alloc (cR #[E J x.1,E J x.2.1,F a m c] 119));have af:ZD wr X1:=(by rw[ag];exact Zh _ _);have ay:X1.heap[wr.heap.size]? = some (cR [E J x.1,E J x.2.1,F a m c].toArray 119 (0,0)):=(by rw[ag];exact Zv _ _ _ _ _);have b2:=Zb ay 2 _ rfl;have bl:=lt_of_block ay;have t1:=Ze af (Zb am 1 _ rfl);have tl:=aC (lt_of_block am) af.size;have ce:=Zd af;have CO:=Zd (Uu a m c x.2.2 X1.drew hm (au.later (Zf (Zf br af) (Zi _))) bo)
    have NX:Hid (∀ w5 z Q,ZD wr w5->Fresh X1.drew.heap.size w5 (λw2=>OpsAt w2 z m x.2.2/\SlOk z m Q) ->
      Hid (Cl inR 119 (w.heap.size+2) G w (w5.setCell ⟨g,k*3+2,none⟩ (F z m Q)) (F (some ⟨g,0,none⟩) ni c1) ni (K.set k [E J x.1,E J x.2.1,F z m Q]) I (k+1))/\Hid (Cl outR 122 (w.heap.size+2) G w (w5.setCell ⟨g,k*3+2,none⟩ (F z m Q)) (F a2 no c2) no K2 O 0)/\Hid ((w5.setCell ⟨g,k*3+2,none⟩ (F z m Q)).heap[w.heap.size]? = some (cR [E J h,F (some ⟨g,0,none⟩) ni c1,F a2 no c2].toArray 59 (0,0)))/\Hid ((w5.setCell ⟨g,k*3+2,none⟩ (F z m Q)).heap[w.heap.size+1]? = some (cR [E J 0,F none 0 0,F none 0 0].toArray 59 (0,0)))/\Hid (ZD w (w5.setCell ⟨g,k*3+2,none⟩ (F z m Q)))/\Hid (G<=(w5.setCell ⟨g,k*3+2,none⟩ (F z m Q)).heap.size)):=by
     intro w5 z Q aa aq;have bj:=Za cg;have aj:=(Gr.refl w5 (λq=>q=g)).one g (k*3+2) (.inl rfl) (F z m Q);have dg:=aa.size;refine⟨Zkp ah ar al hx eK aa aq (aT bj af.size),?_,?_,?_,?_,?_⟩
     ·exact (bs.keep aa).gr aj (λq e=>by omega) (λq hq e=>own_apart ah.own bs.own (by decide) q (by rw[e];rfl) hq)
     ·exact aj.heap (ZE aa am) (by omega)
     ·exact aj.heap (ZE aa cd) (by omega)
     ·exact aj.below (Zf br aa) (by have:=lt_of_block am;omega) (λq e=>by omega)
     ·exact aT bj (aT dg aj.size)
    have FR:=Zd (λj=>ah.free j);have es:(k:Int)<(ni:Int):=(by omega);clear au bo bd hx eK af ay;go_wp2_with fail;rw[<-ag];clear ag
    go_region_with (go_at_call 150;refine CO.mono ?_;rintro e w5 ⟨z,Q,rfl,aq,aa⟩;have ae:=Zf (Zf ce (Zi _)) aa;have HN:=Zd (NX w5 z Q ae aq);have q1:=Ze aa (Ze (Zi _) t1);have q2:=Ze ae r2;have q3:w5.frozen? ⟨g,k*3+2,none⟩=false:=(aO (a:=⟨g,k*3+2,none⟩) (ae.block g bg)).trans (FR _);have q4:=aC bg ae.size;have q5:=aC (lt_of_block am) ae.size;clear aq aa ae)
    all_goals
     go_wp2;go_roundw
     case rel=>
      obtain⟨f1,f2,f3,f4,f5,f6⟩:=Za HN;exact⟨k+1,_,by omega,by go_num,f1,f2,f3,f4,f5,f6⟩
     case measure=>simp[intOf];omega
   ·have e:k=ni:=(by omega);subst e;have ep:=Zb am 2 _ rfl;have cp:=lt_of_block am;have DN:=ah;clear ah;go_wp2
    go_loopw [35] (λi w2=>∃ (j:Nat) (Ko:List (List Value)),j<=no/\i = E J j/\Hid (Cl inR 119 (w.heap.size+2) G w w2 (F a1 k c1) k K I k)/\Hid (Cl outR 122 (w.heap.size+2) G w w2 (F a2 no c2) no Ko O j)/\Hid (w2.heap[w.heap.size]? = some (cR [E J h,F a1 k c1,F a2 no c2].toArray 59 (0,0)))/\Hid (w2.heap[w.heap.size+1]? = some (cR [E J 0,F none 0 0,F none 0 0].toArray 59 (0,0)))/\Hid (ZD w w2)/\Hid (G<=w2.heap.size)) (λi _=>no - (intOf i).toNat)
    case atStart=>exact⟨0,K2,aM _,rfl,DN,bs,am,cd,br,cg⟩
    case round=>
     obtain⟨j,Ko,hj,rfl,bt,ak,an,av,cf,ek⟩:=hrel;clear DN bs am cd br cg ep cp;by_cases eu:j<no
     ·have ar:j<O.length:=(by rw[Za ea];exact eu);have al:j<Ko.length:=(by rw[(Za ak).len];exact ar);obtain⟨g,cap,gm,eq,er,bg⟩:=ak.form (by omega);cases gm;obtain⟨a,m,c,eK,au,bo⟩:=ak.old j ar al (aF _);have bd:=en _ (aX ar);obtain⟨x,hx⟩:=ZF (O[j]);rw[hx] at eK au bd;have r0:=ak.cell j al 0 (by decide);have r1:=ak.cell j al 1 (by decide);rw[eK] at r0 r1;have r0:wr.cell? ⟨g,j*2,none⟩=some (E J x.1):=r0;have r1:wr.cell? ⟨g,j*2+1,none⟩=some (F a m c):=r1;have hm:m<=8796093022208:=(by rw[<-au.1];exact bd);obtain⟨X1,ag⟩:=ZG (wr.alloc (cR #[E J x.1,F a m c] 122));have af:ZD wr X1:=(by rw[ag];exact Zh _ _);have ay:X1.heap[wr.heap.size]? = some (cR [E J x.1,F a m c].toArray 122 (0,0)):=(by rw[ag];exact Yu _ _ _ _);have b0:=Zb ay 0 _ rfl;have b1:=Zb ay 1 _ rfl;have bl:=lt_of_block ay;have t2:=Ze af (Zb an 2 _ rfl);have tl:=aC (lt_of_block an) af.size;have ce:=Zd af;have CO:=Zd (R4 x.1 a m c x.2 X1.drew hm (au.later (Zf (Zf cf af) (Zi _))) bo)
      have NX:Hid (∀ w5 z Q,ZD wr w5->Fresh X1.drew.heap.size w5 (λw2=>OpsAt w2 z m x.2/\SlOk z m Q) ->
        Hid (Cl inR 119 (w.heap.size+2) G w ((w5.setCell ⟨g,j*2,none⟩ (E J x.1)).setCell ⟨g,j*2+1,none⟩ (F z m Q)) (F a1 k c1) k K I k)/\Hid (Cl outR 122 (w.heap.size+2) G w ((w5.setCell ⟨g,j*2,none⟩ (E J x.1)).setCell ⟨g,j*2+1,none⟩ (F z m Q)) (F (some ⟨g,0,none⟩) no c2) no (Ko.set j [E J x.1,F z m Q]) O (j+1))/\Hid (((w5.setCell ⟨g,j*2,none⟩ (E J x.1)).setCell ⟨g,j*2+1,none⟩ (F z m Q)).heap[w.heap.size]? = some (cR [E J h,F a1 k c1,F (some ⟨g,0,none⟩) no c2].toArray 59 (0,0)))/\Hid (((w5.setCell ⟨g,j*2,none⟩ (E J x.1)).setCell ⟨g,j*2+1,none⟩ (F z m Q)).heap[w.heap.size+1]? = some (cR [E J 0,F none 0 0,F none 0 0].toArray 59 (0,0)))/\Hid (ZD w ((w5.setCell ⟨g,j*2,none⟩ (E J x.1)).setCell ⟨g,j*2+1,none⟩ (F z m Q)))/\Hid (G<=((w5.setCell ⟨g,j*2,none⟩ (E J x.1)).setCell ⟨g,j*2+1,none⟩ (F z m Q)).heap.size)):=by
       intro w5 z Q aa aq;have bj:=Za ek;have aj:=((Gr.refl w5 (λq=>q=g)).one g (j*2) (.inl rfl) (E J x.1)).one g (j*2+1) (.inl rfl) (F z m Q);have dg:=aa.size;refine⟨?_,Zgf ak ar al hx aa aq (aT bj af.size),?_,?_,?_,?_⟩
       ·exact (bt.keep aa).gr aj (λq e=>by omega) (λq hq e=>own_apart ak.own bt.own (by decide) q (by rw[e];rfl) hq)
       ·exact aj.heap (ZE aa an) (by omega)
       ·exact aj.heap (ZE aa av) (by omega)
       ·exact aj.below (Zf cf aa) (by have:=lt_of_block an;omega) (λq e=>by omega)
       ·exact aT bj (aT dg aj.size)
      have FR:=Zd (λj=>ak.free j);have es:(j:Int)<(no:Int):=(by omega);clear au bo bd hx eK af ay;go_wp2_with fail;rw[<-ag];clear ag
      go_region_with (go_at_call 161;refine CO.mono ?_;rintro e w5 ⟨z,Q,rfl,aq,aa⟩;have ae:=Zf (Zf ce (Zi _)) aa;have HN:=Zd (NX w5 z Q ae aq);have q1:=Ze aa (Ze (Zi _) t2);have q2:=Ze ae r0;have ga:=Ze ae r1;have q3:w5.frozen? ⟨g,j*2,none⟩=false:=(aO (a:=⟨g,j*2,none⟩) (ae.block g bg)).trans (FR _);have gb:w5.frozen? ⟨g,j*2+1,none⟩=false:=(aO (a:=⟨g,j*2+1,none⟩) (ae.block g bg)).trans (FR _);have q4:=aC bg ae.size;have q5:=aC (lt_of_block an) ae.size;clear aq aa ae)
      all_goals
       go_wp2;go_roundw
       case rel=>
        obtain⟨f1,f2,f3,f4,f5,f6⟩:=Za HN;exact⟨j+1,_,by omega,by go_num,f1,f2,f3,f4,f5,f6⟩
       case measure=>simp[intOf];omega
     ·have e:j=no:=(by omega);subst e;have s0:=Zb an 0 _ rfl;have s1:=Zb an 1 _ rfl;have s2:=Zb an 2 _ rfl;have sl:=lt_of_block an;have y0:=Zb av 0 _ rfl;have y1:=Zb av 1 _ rfl;have y2:=Zb av 2 _ rfl;have z0:=Zg av 0;have z1:=Zg av 1;have z2:=Zg av 2;have yl:=lt_of_block av
      have R:Hid (Fresh (w.heap.size+2) wr (λw2=>txR.C w2 [E J h,F a1 k c1,F a2 j c2] (h,I,O))):=by
       obtain⟨a',c',e1,h1⟩:=bt.rows ef;obtain⟨fp,ft,e2,h2⟩:=ak.rows ef;cases e1;cases e2;exact λw2 g2=>⟨_,_,_,_,_,_,rfl,(h1 w2 g2).1,(h1 w2 g2).2,(h2 w2 g2).1,(h2 w2 g2).2⟩
      clear bt ak;go_wp2;(try simp only[aR,Exit.then]);have hG:=((Gr.refl wr (λq=>q=w.heap.size+1)).one (w.heap.size+1) 0 (.inl rfl) (E J h)).one (w.heap.size+1) 1 (.inl rfl) (F a1 k c1) |>.one (w.heap.size+1) 2 (.inl rfl) (F a2 j c2);refine aW (v:=.agg #[E J h,F a1 k c1,F a2 j c2]) ?_ rfl ⟨a1,c1,a2,c2,rfl,(R.on (hG.mono λq _ e=>by omega)).less (by omega),?_⟩
      ·rw[Ye rfl];go_simp
      ·exact hG.below cf (by omega) (λq e=>by omega)
