import Derived.Test.YtmomfkikogbdeaaGreatDoorH
import Derived.Test.YtmomfkikogbdeaaGreatDoorG22
open Go renaming lt_of_block->aA,bodyPost_ret->bA,wpAnyH_ready->aG
open Go.Act renaming put->aC
open Go.Ending renaming returned->cY
open Go.IntKind renaming i64->J
open Go.Obj renaming cells->cW
open Go.RowKit renaming Below->aD,intOf->cE
open Go.Value renaming int->E,slice->F,tuple->cZ,pointer->dA
open Go.World renaming frozen?_of_block->aM
open List renaming flatten_cons->cV,length_set->bZ,getElem_set_self->cJ,getElem_mem->bB
open Nat renaming lt_of_lt_of_le->aE,le_refl->aH,le_of_eq->cN,zero_le->aQ,le_trans->aS
set_option maxHeartbeats 12800000
set_option maxRecDepth 10000
namespace Go.Proofs.YtmomfkikogbdeaaGreatDoor.Tr
open Go.RowKit
def Wid(sz:Nat)(K:List (List Value)):Prop:=∀ c∈K,c.length=sz
theorem AllC.wid{α : Type}{Z:Rec α}{w:World}{K:List (List Value)}{L:List α}(h:AllC Z w K L):Wid Z.sz K:=by
 intro c z;obtain⟨i,hi,rfl⟩:=List.getElem_of_mem z;exact Z.wide _ _ _ (h.2 i (by rw[<-h.1];exact hi) hi)
theorem wid_at{sz:Nat}:∀ {K:List (List Value)} (_:Wid sz K) (k:Nat) (h:k<K.length) (j:Nat) (_:j<sz),K.flatten[k*sz+j]? = (K[k])[j]?
 | [],_,_,h,_,_=>absurd h (by simp)
 | c :: K,hw,0,_,j,hj=>by
  have h2:=hw c (by simp);rw[cV,List.getElem?_append_left (by omega)];simp
 | c :: K,hw,k+1,h,j,hj=>by
  have h2:=hw c (by simp);rw[cV,List.getElem?_append_right (by rw[h2,Nat.succ_mul];omega),h2];rw[show (k+1)*sz+j - sz=k*sz+j by rw[Nat.succ_mul];omega];rw[wid_at (λc z=>hw c (by simp[z])) k (by simpa using h) j hj];simp
theorem Yx{sz:Nat}:∀ {K:List (List Value)} (_:Wid sz K) (k:Nat) (h:k<K.length) (j:Nat) (_:j<sz) (u:Value),K.flatten.set (k*sz+j) u=(K.set k ((K[k]).set j u)).flatten
 | [],_,_,h,_,_,_=>absurd h (by simp)
 | c :: K,hw,0,_,j,hj,u=>by
  have h2:=hw c (by simp);rw[cV,Nat.zero_mul,Nat.zero_add,List.set_append_left _ _ (by omega)];simp
 | c :: K,hw,k+1,h,j,hj,u=>by
  have h2:=hw c (by simp);rw[cV,List.set_append_right _ _ (by rw[h2,Nat.succ_mul];omega),h2];rw[show (k+1)*sz+j - sz=k*sz+j by rw[Nat.succ_mul];omega];rw[Yx (λc z=>hw c (by simp[z])) k (by simpa using h) j hj u];simp
theorem W9{sz:Nat}{K:List (List Value)}(Q:Wid sz K)(k:Nat){c:List Value}(z:c.length=sz):Wid sz (K.set k c):=by
 intro x hx
 rcases List.mem_or_eq_of_mem_set hx with q|rfl
 ·exact Q x q
 ·exact z
structure Cl{α : Type}(Z:Rec α)(e:TypeId)(B G:Nat)(w0 wr:World)(v:Value)(n:Nat)(K:List (List Value))(L:List α)(k:Nat):Prop where
 own:wr.ownsRow B e Z.sz v n K.flatten
 wid:Wid Z.sz K
 len:K.length=L.length
 ln:L.length=n
 gt:∀ q,v.ownBlock=some q->q<G
 new:∀ i (h:i<L.length) (h':i<K.length),i<k->Fresh G wr (λw2=>Z.C w2 K[i] L[i])
 old:∀ i (h:i<L.length) (h':i<K.length),k<=i->Z.C w0 K[i] L[i]
section
variable {α : Type} {Z : Rec α} {e : TypeId} {B G : Nat} {w0 wr w' : World} {v : Value} {n : Nat} {K : List (List Value)} {L : List α} {k : Nat}
theorem Cl.start(h:wr.ownsRow B e Z.sz v n K.flatten)(z:AllC Z w0 K L)(hn:L.length=n)(Q:wr.heap.size<=G):Cl Z e B G w0 wr v n K L 0:=
 ⟨h,z.wid,z.1,hn,λq hq=>aE (h.lt q hq).2 Q,λ_ _ _ h=>absurd h (by omega),λi h h' _=>z.2 i h h'⟩
theorem Cl.gr{S:Nat->Prop}(h:Cl Z e B G w0 wr v n K L k)(g:Gr wr w' S)(z:∀ q,S q->q<G)(Q:∀ q,v.ownBlock=some q->¬S q):Cl Z e B G w0 w' v n K L k:=
 ⟨g.own h.own Q,h.wid,h.len,h.ln,h.gt,λi a b c=>(h.new i a b c).on (g.mono λq _ hq=>z q hq),h.old⟩
theorem Cl.keep(h:Cl Z e B G w0 wr v n K L k)(z:aD wr.heap.size wr w'):Cl Z e B G w0 w' v n K L k:=
 h.gr (S:=λ_=>False) (Gr.of z) (λ_ q=>q.elim) (λ_ _ q=>q)
theorem Cl.form(h:Cl Z e B G w0 wr v n K L k)(hn:0<n):∃ g cap,v = F (some ⟨g,0,none⟩) n cap/\B<=g/\g<G/\g<wr.heap.size:=by
 rcases h.own.2 with ⟨_,h0⟩|⟨g,cap,aa,rfl,z,Q,_⟩
 ·omega
 ·exact⟨g,cap,rfl,z,h.gt g rfl,aA Q⟩
theorem Cl.cell{g cap:Nat}(h:Cl Z e B G w0 wr (F (some ⟨g,0,none⟩) n cap) n K L k)(i:Nat)(hi:i<K.length)(j:Nat)(z:j<Z.sz):wr.cell? ⟨g,i*Z.sz+j,none⟩=(K[i])[j]?:=by
 have Q:i<n:=by rw[<-h.ln,<-h.len];exact hi
 have:(i+1)*Z.sz<=n*Z.sz:=Nat.mul_le_mul_right _ (by omega);rw[Nat.succ_mul] at this;rw[World.ownsRow.cellAt h.own _ (by omega),wid_at h.wid i hi j z]
theorem Cl.free{g cap:Nat}(h:Cl Z e B G w0 wr (F (some ⟨g,0,none⟩) n cap) n K L k)(j:Nat):wr.frozen? ⟨g,j,none⟩=false:=h.own.frozenAt j
theorem Cl.step{g cap:Nat}(h:Cl Z e B G w0 wr (F (some ⟨g,0,none⟩) n cap) n K L k)(hk:k<L.length){cs:List Value}(z:Fresh G wr (λw2=>Z.C w2 cs L[k]))(hg:Gr wr w' (λq=>q=g))(ho:w'.ownsRow B e Z.sz (F (some ⟨g,0,none⟩) n cap) n (K.set k cs).flatten):Cl Z e B G w0 w' (F (some ⟨g,0,none⟩) n cap) n (K.set k cs) L (k+1):=by
 have ad:=h.gt g rfl;have hw:=Z.wide _ _ _ z.now;have Q:Gr wr w' (λq=>q<G):=hg.mono λq _ e=>by omega
 refine⟨ho,W9 h.wid k hw,by rw[bZ];exact h.len,h.ln,h.gt,λi a b c=>?_,λi a b c=>?_⟩
 ·by_cases e:i=k
  ·subst e;rw[cJ];exact z.on Q
  ·rw[List.getElem_set_ne (by omega)];exact (h.new i a (by simpa using b) (by omega)).on Q
 ·rw[List.getElem_set_ne (by omega)];exact h.old i a (by simpa using b) (by omega)
theorem Cl.done(h:Cl Z e B G w0 wr v n K L n):Fresh G wr (λw2=>AllC Z w2 K L):=λw2 g2=>
 ⟨h.len,λi a b=>h.new i a b (by rw[<-h.ln];exact a) w2 g2⟩
theorem Cl.rows(h:Cl Z e B G w0 wr v n K L n)(hB:B<=G):∃ a c,v = F a n c/\Fresh B wr (λw2=>RowsAt Z.R Z.sz w2 a n L/\SlOk a n c):=by
 obtain⟨a,c,rfl,_,_⟩:=rows_of_own Z h.own h.done.now h.ln;refine⟨a,c,rfl,λw2 g2=>?_⟩;have z:=g2.own h.own (λq hq=>by have:=(h.own.lt q hq).1;omega);obtain⟨Q,c',e,h1,h2⟩:=rows_of_own Z z (h.done w2 (g2.mono λq _ hq=>by omega)) h.ln;cases e;exact⟨h1,h2⟩
end
theorem set_cells{w:World}{b:Nat}{X:List Value}{t:TypeId}(h:w.heap[b]? = some (cW X.toArray t (0,0)))(j:Nat)(u:Value):(w.setCell ⟨b,j,none⟩ u).heap[b]? = some (cW (X.set j u).toArray t (0,0)):=by
 rw[setCell_eq_setRow w b j X.toArray t (0,0) u h];have:=setRow_heap w b _ (X.toArray.setIfInBounds j u) t _ h;simpa using this
theorem len1{c:List Value}(h:c.length=2):∃ x y,c=[x,y]:=by
 match c,h with
 | [x,y],_=>exact⟨x,y,rfl⟩
theorem len3{c:List Value}(h:c.length=3):∃ x y z,c=[x,y,z]:=by
 match c,h with
 | [x,y,z],_=>exact⟨x,y,z,rfl⟩
theorem len5{c:List Value}(h:c.length=5):∃ x y z r s,c=[x,y,z,r,s]:=by
 match c,h with
 | [x,y,z,r,s],_=>exact⟨x,y,z,r,s,rfl⟩
theorem put2{K:List (List Value)}(z:Wid 2 K)(k:Nat)(h:k<K.length)(a b:Value):((K.flatten.set (k*2) a).set (k*2+1) b)=(K.set k [a,b]).flatten:=by
 obtain⟨x,y,e⟩:=len1 (z _ (bB h));have h1:=Yx z k h 0 (by decide) a;rw[Nat.add_zero] at h1;rw[h1,Yx (W9 z k (by rw[bZ,e];rfl)) k (by rw[bZ];exact h) 1 (by decide) b,cJ,List.set_set,e];rfl
theorem put3{K:List (List Value)}(z:Wid 3 K)(k:Nat)(h:k<K.length)(a b c:Value):(((K.flatten.set (k*3) a).set (k*3+1) b).set (k*3+2) c)=(K.set k [a,b,c]).flatten:=by
 obtain⟨x,y,aa,e⟩:=len3 (z _ (bB h));have h1:=Yx z k h 0 (by decide) a;rw[Nat.add_zero] at h1;rw[h1,Yx (W9 z k (by rw[bZ,e];rfl)) k (by rw[bZ];exact h) 1 (by decide) b,cJ,List.set_set,e];rw[Yx (W9 z k rfl) k (by rw[bZ];exact h) 2 (by decide) c,cJ,List.set_set];rfl
theorem put5{K:List (List Value)}(z:Wid 5 K)(k:Nat)(h:k<K.length)(a b c d f:Value):(((((K.flatten.set (k*5) a).set (k*5+1) b).set (k*5+2) c).set (k*5+3) d).set (k*5+4) f)=(K.set k [a,b,c,d,f]).flatten:=by
 obtain⟨x,y,aa,r,s,e⟩:=len5 (z _ (bB h));have h1:=Yx z k h 0 (by decide) a;rw[Nat.add_zero] at h1;rw[h1,Yx (W9 z k (by rw[bZ,e];rfl)) k (by rw[bZ];exact h) 1 (by decide) b,cJ,List.set_set,e];rw[Yx (W9 z k rfl) k (by rw[bZ];exact h) 2 (by decide) c,cJ,List.set_set];rw[Yx (W9 z k rfl) k (by rw[bZ];exact h) 3 (by decide) d,cJ,List.set_set];rw[Yx (W9 z k rfl) k (by rw[bZ];exact h) 4 (by decide) f,cJ,List.set_set];rfl
theorem J2(x:Int)(a:Option Addr)(n c:Nat)(l:List (Int×Int))(w:World)(hn:n<=8796093022208)(h:OpsAt w a n l)(hs:SlOk a n c) :
  Calls Tryz.prog 161 #[.agg #[E J x,F a n c]] w λe w'=>∃ z Q,e = cY (.agg #[E J x,F z n Q])/\Fresh w.heap.size w' (λw2=>OpsAt w2 z n l/\SlOk z n Q)/\aD w.heap.size w w':=by
 obtain⟨X,hX⟩:=ZG ((w.alloc (cW #[E J x,F a n c] 122)).alloc (cW #[E J 0,F none 0 0] 122));have ae:aD w.heap.size w X:=by rw[hX];exact Zf (Zh _ _) (Zh _ _)
 have x0:X.cell? ⟨w.heap.size,0,none⟩=some (E J x):=by rw[hX];exact Ze (Zh _ _) (Z6 w _ _ _).1
 have x1:X.cell? ⟨w.heap.size,1,none⟩=some (F a n c):=by rw[hX];exact Ze (Zh _ _) (Z6 w _ _ _).2
 have ah:X.heap[w.heap.size+1]? = some (cW [E J 0,F none 0 0].toArray 122 (0,0)):=by
  rw[hX];have:=Yt (w.alloc (cW #[E J x,F a n c] 122)) (E J 0) (F none 0 0) 122;rw[show (w.alloc (cW #[E J x,F a n c] 122)).heap.size=w.heap.size+1 by simp] at this;exact this
 have C:=Zd (V7 a n c l X.drew hn (h.later (Zf ae (Zi X))) hs);have af:=Zd ah;have al:=Zd ae;clear h hs ae ah;go_enter Tryz.func161,Tryz.ntmps161;go_wp2_with fail;rw[<-hX];clear hX
 go_region_with (go_at_call 150;refine C.mono ?_;rintro e w3 ⟨z,Q,rfl,ad,aa⟩;have o2:w3.cell? ⟨w.heap.size,0,none⟩=some (E J x):=Ze aa (Ze (Zi _) x0);have ac:=ZE aa af;have c0:=Zb ac 0 _ rfl;have c1:=Zb ac 1 _ rfl;have f0:=Zg ac 0;have f1:=Zg ac 1;have H3:Hid (Fresh X.drew.heap.size w3 (λw2=>OpsAt w2 z n l/\SlOk z n Q)/\aD X.drew.heap.size X.drew w3):=⟨ad,aa⟩;clear ad aa ac)
 all_goals
  go_wp2;(try simp only[Exit.inBlock,Exit.then]);obtain⟨ad,aa⟩:=Za H3;have hG:=((Gr.refl w3 (λq=>q=w.heap.size+1)).one (w.heap.size+1) 0 (.inl rfl) (E J x)).one (w.heap.size+1) 1 (.inl rfl) (F z n Q);have au:w.heap.size+1<X.drew.heap.size:=aA af;refine bA (v:=.agg #[E J x,F z n Q]) ?_ rfl ⟨z,Q,rfl,(ad.on (hG.mono λq _ e=>by omega)).less (by omega),?_⟩
  ·rw[Ya rfl];go_simp
  ·have av:=aa.size;exact hG.below (Zf (Zf al (Zi _)) aa) (by omega) (λk hk=>by omega)
end Tr
open Go.RowKit
def DoR(w w':World)(p:Nat)(x:Int)(K:List ByteArray)(C:List Zj)(h f:Int)(e:Ending):Prop:=
 (x≠0/\e = cY (cZ #[E J 0,E J x])/\aD w.heap.size w w') \/
 (x=0/\e = cY (cZ #[E J f,E J 0])/\Gr w w' (λq=>q=p)/\DoT w' w.heap.size p K C h)
theorem DoR.err{w w':World}{p:Nat}{x y:Int}{K:List ByteArray}{C:List Zj}{h f:Int}(h0:y≠0)(hx:x=y)(z:aD w.heap.size w w'):DoR w w' p x K C h f (cY (cZ #[E J 0,E J y])):=by
 subst hx;exact .inl ⟨h0,rfl,z⟩
def Zim(V wx:World)(M:List Zj)(s9:Value):Prop:=
 ∃ z nm Q,s9 = F z nm Q/\Fresh V.heap.size wx (λw2=>CoinsAt w2 z nm M)/\SlOk z nm Q/\aD V.heap.size V wx
theorem Fj{V W wx:World}{M:List Zj}{Z:Nat}{z:Option Addr}{nm Q:Nat}(hF:Fresh Z W (λw2=>CoinsAt w2 z nm M))(hZ:V.heap.size<=Z)(hs:SlOk z nm Q)(hb:aD V.heap.size V W)(hg:Gr W wx (λq=>q<Z/\V.heap.size<=q)):Zim V wx M (F z nm Q):=
 ⟨z,nm,Q,rfl,λw2 g2=>hF w2 ((hg.mono (λ_ _ q=>q.1)).trans (g2.mono (λ_ _ q=>aE q hZ))),hs,hg.below hb hb.size (λ_ q=>q.2)⟩
theorem Ziy(p:Nat)(K:List ByteArray)(C:List Zj)(h th:Int)(ai ao:Option Addr)(ni ci no co:Nat)(I:List InD)(O:List Z5)(x:Int)(K':List ByteArray)(C':List Zj)(w:World)(hE:Env w)(hT:Zfo w p K C h)(cf:Y2 C)(hI:InsAt w ai ni I)(hO:OutsAt w ao no O)(sI:SlOk ai ni ci)(hx:doD h (K,C) (th,I,O)=(x,K',C')) :
  Calls Tryz.prog 91 #[dA (some ⟨p,0,none⟩),.agg #[E J th,F ai ni ci,F ao no co]] w λe w'=>DoR w w' p x K' C' h (Zp C - Zp C') e:=by
 obtain⟨ka,kn,kc,la,ln,lc,hp,hK,sK,hC,sC⟩:=hT;obtain⟨X,hX⟩:=ZG (w.alloc (cW #[E J th,F ai ni ci,F ao no co] 59));have bt:aD w.heap.size w X:=by rw[hX];exact Zh _ _
 have bh:X.heap[w.heap.size]? = some (cW [E J th,F ai ni ci,F ao no co].toArray 59 (0,0)):=by rw[hX];exact Zw _ _ _ _ _
 have ea:I.length=ni:=hI.1;obtain⟨x1,dg⟩:=ZF (Zv (th,I,O));obtain⟨T,dd⟩:=ZF (txT (th,I,O));obtain⟨⟨K1,nm,x2⟩,dh⟩:=ZF (Bk.nameR K T);obtain⟨⟨x3,M,S⟩,cq⟩:=ZF (apD C (th,I,O) nm h);unfold doD at hx;simp only[dg,dd,dh,cq,ea] at hx;have bq:=Zd (λV (hv:aD X.heap.size X V)=>(show V.heap[w.heap.size]? = some (cW [E J th,F ai ni ci,F ao no co].toArray 59 (0,0)) from ZE hv bh));have aw:=Zd (λV (hv:aD w.heap.size w V)=>(show V.heap[p]? = some (cW [F ka kn kc,F la ln lc,E J h].toArray 162 (0,0)) from ZE hv hp));have eb:p<w.heap.size:=aA hp;have C1:=Zd (Pe th ai ao ni ci no co I O T x1 X (hE.later bt) (hI.later bt) (hO.later bt) sI dg dd);have C2:=Zd (λV (hv:aD w.heap.size w V)=>Bk.name_fresh ka kn kc K K1 T nm x2 V (hK.later hv) dh);have C3:=Zd (λV (hv:aD w.heap.size w V)=>Sm la ln lc C th ai ao ni ci no co I O nm h x3 M S V (hC.later hv) sC (hI.later hv) (hO.later hv) sI cq)
 have dc:Hid (x3=0->Y2 M/\Zp M<=1000000000/\0<=Zp M):=λq=>by
  subst q;have r:=(F4 cq).2.1;exact⟨r,r.sum,Wu M (λc hc=>by have:=Yy (r.one c hc);omega)⟩
 obtain⟨s1,bu⟩:∃ s,Zp C=s:=⟨_,rfl⟩;have b1:s1<=1000000000:=by rw[<-bu];exact cf.sum
 have b2:0<=s1:=by rw[<-bu];exact Wu C (λc hc=>by have:=Yy (cf.one c hc);omega)
 have C4:=Zd (λV (hv:aD w.heap.size w V)=>Ky la ln lc C s1 V (hC.later hv) cf bu);have HX:=Zd hx;have eu:=Zd bt;have ez:=Zd bu;have t0:=Zb bh 0 _ rfl;have t1:=Zb bh 1 _ rfl;have t2:=Zb bh 2 _ rfl;have tl:=aA bh;clear hE hK sK hC sC hI hO sI hx dg dd dh cq bt bh hp cf bu ea;go_enter Tryz.func91,Tryz.ntmps91;go_wp2_with fail;rw[<-hX];clear hX;(try go_wp2_with fail);refine C1.mono ?_;rintro e w1 ⟨rfl,cj⟩;have h10:=bq _ cj;have t0:=Zb h10 0 _ rfl;have t1:=Zb h10 1 _ rfl;have t2:=Zb h10 2 _ rfl;have tl:=aA h10;have av:=Zd (Zf eu cj);have er:=Zd cj;clear cj h10 C1;by_cases e1:x1=0
 ·subst e1;by_cases e2:ni=0
  ·subst e2;have ak:Hid (x=4):=(by have:=Za HX;rw[if_neg (λq=>q rfl),if_pos rfl] at this;injection this with this _;exact this.symm);clear HX;go_wp2;go_ret2;exact DoR.err (by decide) ak av
  have gy:((ni:Int) == 0)=false:=by simp;omega
  have fx:¬((ni:Int)=0):=by omega
  have p1:=aw _ av;have q0:=Zb p1 0 _ rfl;have q1:=Zb p1 1 _ rfl;have q2:=Zb p1 2 _ rfl;have ql:=aA p1;clear p1;go_wp2_with fail;refine (C2 _ av).mono ?_;rintro e w2 ⟨⟨ka',kn',kc',rfl,dw,eg⟩,cl⟩;have dq:=Zd (Zf av cl);have ev:=Zd dw;have fb:=Zd eg;have gc:w1.heap.size<=w2.heap.size:=cl.size;obtain⟨V,hV⟩:=ZG (w2.alloc (cW #[F ka' kn' kc'] 24));have cm:aD w2.heap.size w2 V:=by rw[hV];exact Zh _ _
  have dx:V.heap[w2.heap.size]? = some (cW [F ka' kn' kc'].toArray 24 (0,0)):=by rw[hV];exact Yl _ _ _
  have ah:=Zd (Zf dq cm);have es:=Zd cm;have fd:=Zd dx;have ca:=Zd (Zf er (Zf cl cm));clear cl dw eg cm dx q0 q1 q2 ql t0 t1 t2 tl;have ek:=Zb (bq _ ca) 0 _ rfl;have el:=Zb (bq _ ca) 1 _ rfl;have en:=Zb (bq _ ca) 2 _ rfl;have eo:=aA (bq _ ca);have fo:=Zb (aw _ ah) 0 _ rfl;have ec:=Zb (aw _ ah) 1 _ rfl;have ed:=Zb (aw _ ah) 2 _ rfl;have ee:=aA (aw _ ah);by_cases e3:x2=0
  ·subst e3
   go_upto_region 9 with fail
   rw[<-hV];clear hV;have du:=Zd (Zf ah (Zi V));have dt:=Zd (Zf (Zf ah (Zh V (cW #[F none 0 0] 153))) (Zi _));have v0:(V.alloc (cW #[F none 0 0] 153)).drew.heap[V.heap.size]? = some (cW #[F none 0 0] 153 (0,0)):=Yl V (F none 0 0) 153;have ds:=Zd v0;clear v0;have KS:Hid (∀ U:World,aD V.heap.size V U->((U.cell? ⟨p,1,none⟩=some (F la ln lc)/\U.cell? ⟨p,2,none⟩=some (E J h)/\p<U.heap.size)/\U.cell? ⟨w.heap.size,0,none⟩=some (E J th)/\U.cell? ⟨w.heap.size,1,none⟩=some (F ai ni ci)/\U.cell? ⟨w.heap.size,2,none⟩=some (F ao no co)/\w.heap.size<U.heap.size)):=λU hu=>⟨⟨Ze hu ec,Ze hu ed,aE ee hu.size⟩,Ze hu ek,Ze hu el,Ze hu en,aE eo hu.size⟩
   go_cut [5,9,10] from 36 to 50 (λs5 s9 gu wx=>s5 = E J x3/\Hid (Zim V wx M s9))
   case first=>
    refine wp_region_held_drew (S:=λU=>(U.cell? ⟨p,1,none⟩=some (F la ln lc)/\U.cell? ⟨p,2,none⟩=some (E J h)/\p<U.heap.size)/\U.cell? ⟨w.heap.size,0,none⟩=some (E J th)/\U.cell? ⟨w.heap.size,1,none⟩=some (F ai ni ci)/\U.cell? ⟨w.heap.size,2,none⟩=some (F ao no co)/\w.heap.size<U.heap.size) (by kernel_rfl) (KS _ (Zi _)) (λz=>?_);refine tk 0 ⟨some 37,.move (.tmp 0),157, "till.go:47",#[],none⟩ ?_ rfl ?_ z ?_;rotate_left
    ·(intro U Q;obtain⟨⟨s1,s2,s3⟩,s4,s5,s6,s7⟩:=Q;go_simp;first|done|with_reducible rfl)
    (try simp only[aC,ZA,ZB,ZC]);refine tk 1 ⟨some 38,.nilCheck (.tmp 37),0, "till.go:47",#[⟨0,.data⟩],none⟩ ?_ rfl ?_ z ?_;rotate_left
    ·(intro U Q;obtain⟨⟨s1,s2,s3⟩,s4,s5,s6,s7⟩:=Q;go_simp;first|done|with_reducible rfl)
    (try simp only[aC,ZA,ZB,ZC]);refine tk 2 ⟨some 39,.fieldAddr 162 (.tmp 38) 1,0, "till.go:47",#[⟨1,.data⟩],none⟩ ?_ rfl ?_ z ?_;rotate_left
    ·(intro U Q;obtain⟨⟨s1,s2,s3⟩,s4,s5,s6,s7⟩:=Q;go_simp;first|done|with_reducible rfl)
    (try simp only[aC,ZA,ZB,ZC]);refine tk 3 ⟨some 40,.load 29 (.tmp 39),29, "till.go:47",#[⟨2,.data⟩],none⟩ ?_ rfl ?_ z ?_;rotate_left
    ·(intro U Q;obtain⟨⟨s1,s2,s3⟩,s4,s5,s6,s7⟩:=Q;go_simp;first|done|with_reducible rfl)
    (try simp only[aC,ZA,ZB,ZC]);refine tk 4 ⟨some 41,.load 59 (.tmp 3),59, "till.go:47",#[],none⟩ ?_ rfl ?_ z ?_;rotate_left
    ·(intro U Q;obtain⟨⟨s1,s2,s3⟩,s4,s5,s6,s7⟩:=Q;go_simp;first|done|with_reducible rfl)
    (try simp only[aC,ZA,ZB,ZC]);refine tk 5 ⟨some 42,.move (.tmp 8),3, "till.go:47",#[],none⟩ ?_ rfl ?_ z ?_;rotate_left
    ·(intro U Q;obtain⟨⟨s1,s2,s3⟩,s4,s5,s6,s7⟩:=Q;go_simp;first|done|with_reducible rfl)
    (try simp only[aC,ZA,ZB,ZC]);refine tk 6 ⟨some 43,.move (.tmp 0),157, "till.go:47",#[],none⟩ ?_ rfl ?_ z ?_;rotate_left
    ·(intro U Q;obtain⟨⟨s1,s2,s3⟩,s4,s5,s6,s7⟩:=Q;go_simp;first|done|with_reducible rfl)
    (try simp only[aC,ZA,ZB,ZC]);refine tk 7 ⟨some 44,.nilCheck (.tmp 43),0, "till.go:47",#[⟨6,.data⟩],none⟩ ?_ rfl ?_ z ?_;rotate_left
    ·(intro U Q;obtain⟨⟨s1,s2,s3⟩,s4,s5,s6,s7⟩:=Q;go_simp;first|done|with_reducible rfl)
    (try simp only[aC,ZA,ZB,ZC]);refine tk 8 ⟨some 45,.fieldAddr 162 (.tmp 44) 2,0, "till.go:47",#[⟨7,.data⟩],none⟩ ?_ rfl ?_ z ?_;rotate_left
    ·(intro U Q;obtain⟨⟨s1,s2,s3⟩,s4,s5,s6,s7⟩:=Q;go_simp;first|done|with_reducible rfl)
    (try simp only[aC,ZA,ZB,ZC]);refine tk 9 ⟨some 46,.load 3 (.tmp 45),3, "till.go:47",#[⟨8,.data⟩],none⟩ ?_ rfl ?_ z ?_;rotate_left
    ·(intro U Q;obtain⟨⟨s1,s2,s3⟩,s4,s5,s6,s7⟩:=Q;go_simp;first|done|with_reducible rfl)
    (try simp only[aC,ZA,ZB,ZC]);refine aG (rs:=[10,15]) (by kernel_rfl) (by simp) ?_;refine AllReadyH.cons (o:=⟨some 47,.call { callee:=Callee.value (.func 76),args:=#[.tmp 40,.tmp 41,.tmp 42,.tmp 46],argTypes:=#[29,59,3,3] },154, "till.go:47",#[⟨3,.data⟩,⟨4,.data⟩,⟨5,.data⟩,⟨9,.data⟩],none⟩) rfl (λKQ hK=>?_) (AllReadyH.cons (o:=⟨some 10,.alloc 153,0, "till.go:47",#[],none⟩) rfl (λKQ hK=>?_) AllReadyH.nil)
    ·refine Zm (by kernel_rfl) 76 #[F la ln lc,.agg #[E J th,F ai ni ci,F ao no co],E J nm,E J h] (by kernel_rfl) (C3 V.drew du) ?_;rintro e w5 ⟨am,bk,gx,sa,ns,cs,rfl,ay,bo,-,-,au⟩;refine⟨_,rfl,?_⟩;have hb:aD V.heap.size V w5:=Zf (Zi V) au;refine hK.out _ _ (KS _ hb) (λaa=>?_);clear hK KQ z;have z:=aa;clear aa;(try simp only[aC,ZA,ZB,ZC]);refine tk 11 ⟨some 36,.move (.tmp 47),154, "till.go:47",#[⟨10,.data⟩],none⟩ ?_ rfl ?_ z ?_;rotate_left
     ·(intro U Q;go_simp;first|done|with_reducible rfl)
     (try simp only[aC,ZA,ZB,ZC]);refine tk 12 ⟨some 48,.extract (.tmp 36) 0,29, "till.go:47",#[⟨11,.data⟩],none⟩ ?_ rfl ?_ z ?_;rotate_left
     ·(intro U Q;go_simp;first|done|with_reducible rfl)
     (try simp only[aC,ZA,ZB,ZC]);refine tk 13 ⟨some 49,.extract (.tmp 36) 1,153, "till.go:47",#[⟨11,.data⟩,⟨16,.gcOnly .lateStores⟩],none⟩ ?_ rfl ?_ z ?_;rotate_left
     ·(intro U Q;go_simp;first|done|with_reducible rfl)
     (try simp only[aC,ZA,ZB,ZC]);refine tk 14 ⟨some 50,.extract (.tmp 36) 2,30, "till.go:47",#[⟨11,.data⟩,⟨17,.gcOnly .lateStores⟩],none⟩ ?_ rfl ?_ z ?_;rotate_left
     ·(intro U Q;go_simp;first|done|with_reducible rfl)
     (try simp only[aC,ZA,ZB,ZC]);refine aG (rs:=[15]) (by kernel_rfl) (by simp) ?_;refine AllReadyH.cons (o:=⟨some 10,.alloc 153,0, "till.go:47",#[],none⟩) rfl (λKQ hK=>?_) AllReadyH.nil;go_simp;refine hK.out _ _ (KS _ (Zf hb (Zh _ _))) (λaa=>?_);clear hK KQ z;have z:=aa;clear aa;(try simp only[aC,ZA,ZB,ZC]);refine tk 16 ⟨some 9,.assign (.tmp 48),29, "till.go:47",#[⟨12,.data⟩,⟨10,.chain⟩,⟨0,.phase⟩,⟨1,.phase⟩,⟨2,.phase⟩,⟨3,.phase⟩,⟨4,.phase⟩,⟨5,.phase⟩,⟨6,.phase⟩,⟨7,.phase⟩,⟨8,.phase⟩,⟨9,.phase⟩,⟨10,.phase⟩,⟨11,.phase⟩,⟨12,.phase⟩,⟨13,.textOnly .lateStores⟩,⟨14,.textOnly .lateStores⟩,⟨15,.phase⟩],none⟩ ?_ rfl ?_ z ?_;rotate_left
     ·(intro U Q;go_simp;first|done|with_reducible rfl)
     (try simp only[aC,ZA,ZB,ZC]);refine aG (rs:=[17]) (by kernel_rfl) (by simp) ?_;refine AllReadyH.cons (o:=⟨none,.store 153 (.tmp 10) (.tmp 49),0, "till.go:47",#[⟨15,.data⟩,⟨13,.data⟩,⟨16,.chain⟩,⟨0,.phase⟩,⟨1,.phase⟩,⟨2,.phase⟩,⟨3,.phase⟩,⟨4,.phase⟩,⟨5,.phase⟩,⟨6,.phase⟩,⟨7,.phase⟩,⟨8,.phase⟩,⟨9,.phase⟩,⟨10,.phase⟩,⟨11,.phase⟩,⟨12,.phase⟩,⟨13,.phase⟩,⟨14,.textOnly .lateStores⟩,⟨15,.phase⟩,⟨16,.phase⟩],none⟩) rfl (λKQ hK=>?_) AllReadyH.nil;go_simp;refine hK.out _ _ (KS _ (Zf hb (Zh _ _))) (λaa=>?_);clear hK KQ z;have z:=aa;clear aa;(try simp only[aC]);refine tk 18 ⟨some 5,.assign (.tmp 50),30, "till.go:47",#[⟨14,.data⟩,⟨17,.chain⟩,⟨0,.phase⟩,⟨1,.phase⟩,⟨2,.phase⟩,⟨3,.phase⟩,⟨4,.phase⟩,⟨5,.phase⟩,⟨6,.phase⟩,⟨7,.phase⟩,⟨8,.phase⟩,⟨9,.phase⟩,⟨10,.phase⟩,⟨11,.phase⟩,⟨12,.phase⟩,⟨13,.phase⟩,⟨14,.phase⟩,⟨15,.phase⟩,⟨16,.phase⟩,⟨17,.phase⟩],none⟩ ?_ rfl ?_ z ?_;rotate_left
     ·(intro U Q;go_simp;first|done|with_reducible rfl)
     (try simp only[aC,ZA,ZB,ZC]);refine wpAnyH_done (by kernel_rfl) ?_ _;clear z;go_wp2_with fail;go_meet
     case rel=>exact⟨rfl,Fj ay (aH _) bo hb (Gr.of (Zh _ _))⟩
    ·go_simp;obtain⟨v6,cp⟩:=ZG ((V.alloc (cW #[F none 0 0] 153)).drew);have h6:=Za ds;have dz:=Za dt;rw[<-cp] at h6 dz;rw[<-cp];have bi:aD V.heap.size V v6:=(by rw[cp];exact Zf (Zh _ _) (Zi _));have gd:v6.heap.size=V.heap.size+1:=(by rw[cp];simp);refine hK.out _ _ (KS _ bi) (λaa=>?_);clear hK KQ z;have z:=aa;clear aa;(try simp only[aC,ZA,ZB,ZC]);refine aG (rs:=[10]) (by kernel_rfl) (by simp) ?_;refine AllReadyH.cons (o:=⟨some 47,.call { callee:=Callee.value (.func 76),args:=#[.tmp 40,.tmp 41,.tmp 42,.tmp 46],argTypes:=#[29,59,3,3] },154, "till.go:47",#[⟨3,.data⟩,⟨4,.data⟩,⟨5,.data⟩,⟨9,.data⟩],none⟩) rfl (λKQ hK=>?_) AllReadyH.nil;refine Zm (by kernel_rfl) 76 #[F la ln lc,.agg #[E J th,F ai ni ci,F ao no co],E J nm,E J h] (by kernel_rfl) (C3 v6 dz) ?_;rintro e w5 ⟨am,bk,gx,sa,ns,cs,rfl,ay,bo,-,-,au⟩;refine⟨_,rfl,?_⟩;have hb:aD V.heap.size V w5:=Zf bi au;have h5:=ZE au h6;have u50:=Zb (X:=[F none 0 0]) h5 0 _ rfl;have gv:=Zg h5 0;have gw:=aA h5;refine hK.out _ _ (KS _ hb) (λaa=>?_);clear hK KQ z;have z:=aa;clear aa;(try simp only[aC,ZA,ZB,ZC]);refine tk 11 ⟨some 36,.move (.tmp 47),154, "till.go:47",#[⟨10,.data⟩],none⟩ ?_ rfl ?_ z ?_;rotate_left
     ·(intro U Q;go_simp;first|done|with_reducible rfl)
     (try simp only[aC,ZA,ZB,ZC]);refine tk 12 ⟨some 48,.extract (.tmp 36) 0,29, "till.go:47",#[⟨11,.data⟩],none⟩ ?_ rfl ?_ z ?_;rotate_left
     ·(intro U Q;go_simp;first|done|with_reducible rfl)
     (try simp only[aC,ZA,ZB,ZC]);refine tk 13 ⟨some 49,.extract (.tmp 36) 1,153, "till.go:47",#[⟨11,.data⟩,⟨16,.gcOnly .lateStores⟩],none⟩ ?_ rfl ?_ z ?_;rotate_left
     ·(intro U Q;go_simp;first|done|with_reducible rfl)
     (try simp only[aC,ZA,ZB,ZC]);refine tk 14 ⟨some 50,.extract (.tmp 36) 2,30, "till.go:47",#[⟨11,.data⟩,⟨17,.gcOnly .lateStores⟩],none⟩ ?_ rfl ?_ z ?_;rotate_left
     ·(intro U Q;go_simp;first|done|with_reducible rfl)
     (try simp only[aC,ZA,ZB,ZC]);refine tk 16 ⟨some 9,.assign (.tmp 48),29, "till.go:47",#[⟨12,.data⟩,⟨10,.chain⟩,⟨0,.phase⟩,⟨1,.phase⟩,⟨2,.phase⟩,⟨3,.phase⟩,⟨4,.phase⟩,⟨5,.phase⟩,⟨6,.phase⟩,⟨7,.phase⟩,⟨8,.phase⟩,⟨9,.phase⟩,⟨10,.phase⟩,⟨11,.phase⟩,⟨12,.phase⟩,⟨13,.textOnly .lateStores⟩,⟨14,.textOnly .lateStores⟩,⟨15,.phase⟩],none⟩ ?_ rfl ?_ z ?_;rotate_left
     ·(intro U Q;go_simp;first|done|with_reducible rfl)
     (try simp only[aC,ZA,ZB,ZC]);refine aG (rs:=[17]) (by kernel_rfl) (by simp) ?_;refine AllReadyH.cons (o:=⟨none,.store 153 (.tmp 10) (.tmp 49),0, "till.go:47",#[⟨15,.data⟩,⟨13,.data⟩,⟨16,.chain⟩,⟨0,.phase⟩,⟨1,.phase⟩,⟨2,.phase⟩,⟨3,.phase⟩,⟨4,.phase⟩,⟨5,.phase⟩,⟨6,.phase⟩,⟨7,.phase⟩,⟨8,.phase⟩,⟨9,.phase⟩,⟨10,.phase⟩,⟨11,.phase⟩,⟨12,.phase⟩,⟨13,.phase⟩,⟨14,.textOnly .lateStores⟩,⟨15,.phase⟩,⟨16,.phase⟩],none⟩) rfl (λKQ hK=>?_) AllReadyH.nil;go_simp;refine hK.out _ _ (KS _ (hb.setCell (p:=⟨V.heap.size,0,none⟩) (aH _) _)) (λaa=>?_);clear hK KQ z;have z:=aa;clear aa;(try simp only[aC]);refine tk 18 ⟨some 5,.assign (.tmp 50),30, "till.go:47",#[⟨14,.data⟩,⟨17,.chain⟩,⟨0,.phase⟩,⟨1,.phase⟩,⟨2,.phase⟩,⟨3,.phase⟩,⟨4,.phase⟩,⟨5,.phase⟩,⟨6,.phase⟩,⟨7,.phase⟩,⟨8,.phase⟩,⟨9,.phase⟩,⟨10,.phase⟩,⟨11,.phase⟩,⟨12,.phase⟩,⟨13,.phase⟩,⟨14,.phase⟩,⟨15,.phase⟩,⟨16,.phase⟩,⟨17,.phase⟩],none⟩ ?_ rfl ?_ z ?_;rotate_left
     ·(intro U Q;go_simp;first|done|with_reducible rfl)
     (try simp only[aC,ZA,ZB,ZC]);refine wpAnyH_done (by kernel_rfl) ?_ _;clear z;go_wp2_with fail;go_meet
     case rel=>exact⟨rfl,Fj ay (by omega) bo hb ((Gr.refl w5 _).one V.heap.size 0 (.inl ⟨by omega,aH _⟩) _)⟩
   case rest=>
    obtain⟨rfl,hc⟩:=hcut;obtain⟨am,bk,gx,rfl,ay,bo,au⟩:=Za hc;have de:=Zf ah au;have cz:=Zd de;have dr:=Zd au;have ew:=Zd ay;have fc:=Zd bo;have p5:=aw _ de;have gh:=Zb p5 0 _ rfl;have gi:=Zb p5 1 _ rfl;have gj:=Zb p5 2 _ rfl;have gl:=aA p5;have CM:=Zd (λU (hu:aD wc.heap.size wc U) (h0:x3=0) s2 (hs:Zp M=s2)=>Ky am bk gx M s2 U ((ay wc (Gr.refl _ _)).later hu) (dc h0).1 hs);clear hc ay bo au de p5 ek el en eo fo ec ed ee KS du dt ds C3;by_cases e4:x3=0
    ·obtain⟨fe,ff,fg⟩:=dc e4;obtain⟨s2,cn⟩:=ZF (Zp M);rw[cn] at ff fg;have dp:=Zd (λU hu=>CM U hu e4 s2 cn);have fa:=Zd cn;have ak:Hid (x=0/\K'=K1/\C'=M):=(by have:=Za HX;rw[if_neg (λq=>q rfl),if_neg e2,if_neg (λq=>q rfl),if_neg (λq=>q e4)] at this;injection this with h1 h2;injection h2 with h2 h3;exact⟨h1.symm,h2.symm,h3.symm⟩);subst e4;clear cn CM HX dc fe;have C5:=Zd (C4 wc cz);go_wp2_with fail;refine C5.mono ?_;rintro e w6 ⟨rfl,bi⟩;have C6:=Zd (dp w6 bi);have et:=Zd bi;clear bi C5 C4;go_wp2_with fail;refine C6.mono ?_;rintro e w7 ⟨rfl,dy⟩;have bs:=Zf et dy;have df:=Zf cz bs;have p7:=aw _ df;have gm:=Zb p7 0 _ rfl;have gn:=Zb p7 1 _ rfl;have gp:=Zg p7 0;have gq:=Zg p7 1;have gs:=aA p7;have k7:=ZE (Zf dr bs) fd;have gf:=Zb k7 0 _ rfl;have gg:=aA k7;have fh:p≠w2.heap.size:=(by have:=dq.size;omega);have gb:w2.heap.size≠p:=λq=>fh q.symm;have G7:Gr w7 ((w7.setCell ⟨p,0,none⟩ (F ka' kn' kc')).setCell ⟨p,1,none⟩ (F am bk gx)) (λq=>q=p):=((Gr.refl w7 (λq=>q=p)).one p 0 (.inl rfl) _).one p 1 (.inl rfl) _
     have ey:Hid (DoR w ((w7.setCell ⟨p,0,none⟩ (F ka' kn' kc')).setCell ⟨p,1,none⟩ (F am bk gx)) p x K' C' h (Zp C - Zp C') (cY (cZ #[E J (s1 - s2),E J 0]))):=by
      obtain⟨rfl,rfl,rfl⟩:=Za ak;rw[Za ez,Za fa];refine .inr ⟨rfl,rfl,(Gr.of df).trans G7,ka',kn',kc',am,bk,gx,Tr.set_cells (Tr.set_cells p7 0 _) 1 _,λW g2=>⟨ev W ?_,ew W ?_⟩,Za fb,Za fc⟩
      ·exact ((Gr.of (Zf es (Zf dr bs))).trans (G7.mono (λq _ e=>by rw[e];exact aE eb av.size))).trans (g2.mono (λq _ e=>aE e av.size))
      ·exact ((Gr.of bs).trans (G7.mono (λq _ e=>by rw[e];exact aE eb ah.size))).trans (g2.mono (λq _ e=>aE e ah.size))
     clear G7 bs df p7 k7 dy C6 dp;go_wp2;go_ret2;exact Za ey
    ·have ga:(x3 != 0)=true:=(by simp[e4]);have ak:Hid (x=x3):=(by have:=Za HX;rw[if_neg (λq=>q rfl),if_neg e2,if_neg (λq=>q rfl),if_pos e4] at this;injection this with this _;exact this.symm);clear HX CM;go_wp2;go_ret2;exact DoR.err e4 ak cz
  ·have fz:(x2 != 0)=true:=(by simp[e3]);have ak:Hid (x=x2):=(by have:=Za HX;rw[if_neg (λq=>q rfl),if_neg e2,if_pos e3] at this;injection this with this _;exact this.symm);clear HX;go_wp2;rw[<-hV];go_ret2;exact DoR.err e3 ak ah
 ·have fy:(x1 != 0)=true:=by simp[e1]
  have ak:Hid (x=x1):=by have:=Za HX;rw[if_pos e1] at this;injection this with this _;exact this.symm
  clear HX;go_wp2;go_ret2;exact DoR.err e1 ak av
namespace Tr
open Go.RowKit
theorem own_apart{w:World}{B Q:Nat}{e z:TypeId}{sz ad n n':Nat}{v v':Value}{xs ae:List Value}(h:w.ownsRow B e sz v n xs)(h':w.ownsRow Q z ad v' n' ae)(hn:e≠z)(q:Nat)(hq:v.ownBlock=some q):v'.ownBlock≠some q:=by
 intro ab;obtain⟨c,f,h1⟩:=Lib.ownsRow_kind h q hq;obtain⟨c',f',h2⟩:=Lib.ownsRow_kind h' q ab;rw[h1] at h2;injection h2 with h2;injection h2 with _ h2;exact hn h2
theorem Zhj{G B w0s:Nat}{w0 wr w5:World}{g cap n k:Nat}{K:List (List Value)}{I:List InD}{x:InD}{a z:Option Addr}{m c Q:Nat}(h:Cl inR 119 B G w0 wr (F (some ⟨g,0,none⟩) n cap) n K I k)(hk:k<I.length)(ae:k<K.length)(hx:I[k]=x)(e:K[k]=[E J x.1,E J x.2.1,F a m c])(hb:aD wr.heap.size wr w5)(hf:Fresh w0s w5 (λw2=>OpsAt w2 z m x.2.2/\SlOk z m Q))(hG:G<=w0s) :
  Cl inR 119 B G w0 (w5.setCell ⟨g,k*3+2,none⟩ (F z m Q)) (F (some ⟨g,0,none⟩) n cap) n (K.set k [E J x.1,E J x.2.1,F z m Q]) I (k+1):=by
 have h5:=h.keep hb;refine h5.step hk ?_ ((Gr.refl w5 (λq=>q=g)).one g (k*3+2) (.inl rfl) _) ?_
 ·rw[hx];exact (hf.less hG).imp λw2 q=>⟨z,m,Q,rfl,q.1,q.2⟩
 ·have h1:=(h5.own.stored (k*3+2) (F z m Q)).1;have h2:=Yx (sz:=3) h5.wid k ae 2 (by decide) (F z m Q);rw[e] at h2;rw[h2] at h1;exact h1
theorem Zdj{G B w0s:Nat}{w0 wr w5:World}{g cap n k:Nat}{K:List (List Value)}{O:List Z5}{x:Z5}{z:Option Addr}{m Q:Nat}(h:Cl outR 122 B G w0 wr (F (some ⟨g,0,none⟩) n cap) n K O k)(hk:k<O.length)(ae:k<K.length)(hx:O[k]=x)(hb:aD wr.heap.size wr w5)(hf:Fresh w0s w5 (λw2=>OpsAt w2 z m x.2/\SlOk z m Q))(hG:G<=w0s) :
  Cl outR 122 B G w0 ((w5.setCell ⟨g,k*2,none⟩ (E J x.1)).setCell ⟨g,k*2+1,none⟩ (F z m Q)) (F (some ⟨g,0,none⟩) n cap) n (K.set k [E J x.1,F z m Q]) O (k+1):=by
 have h5:=h.keep hb;refine h5.step hk ?_ (((Gr.refl w5 (λq=>q=g)).one g (k*2) (.inl rfl) _).one g (k*2+1) (.inl rfl) _) ?_
 ·rw[hx];exact (hf.less hG).imp λw2 q=>⟨z,m,Q,rfl,q.1,q.2⟩
 ·have h1:=((h5.own.stored (k*2) (E J x.1)).1.stored (k*2+1) (F z m Q)).1;rw[put2 h5.wid k ae] at h1;exact h1
def Zik(w:World)(h:Int)(I:List InD)(O:List Z5)(ni no:Nat)(v1 v2:Value)(wx:World):Prop:=
 ∃ z Q,AllC inR w z I/\AllC outR w Q O/\wx.ownsRow (w.heap.size+2) 119 3 v1 ni z.flatten/\wx.ownsRow (w.heap.size+2) 122 2 v2 no Q.flatten /\
  wx.heap[w.heap.size]? = some (cW [E J h,v1,v2].toArray 59 (0,0))/\wx.heap[w.heap.size+1]? = some (cW [E J 0,F none 0 0,F none 0 0].toArray 59 (0,0))/\aD w.heap.size w wx
theorem Fh{w W wx:World}{h:Int}{I:List InD}{O:List Z5}{ni no:Nat}{v1 v2:Value}{K1 K2:List (List Value)}(h1:AllC inR w K1 I)(h2:AllC outR w K2 O)(o1:W.ownsRow (w.heap.size+2) 119 3 v1 ni K1.flatten)(o2:W.ownsRow (w.heap.size+2) 122 2 v2 no K2.flatten)(hb:aD w.heap.size w W)
  (hz:W.heap[w.heap.size+1]? = some (cW [E J 0,F none 0 0,F none 0 0].toArray 59 (0,0))) (z:Gr W wx (λq=>q=w.heap.size)) (hx:wx.heap[w.heap.size]? = some (cW [E J h,v1,v2].toArray 59 (0,0))):Zik w h I O ni no v1 v2 wx:=
 ⟨K1,K2,h1,h2,z.own o1 (λk Q=>by have:=(o1.lt k Q).1;omega),z.own o2 (λk Q=>by have:=(o2.lt k Q).1;omega),hx,z.heap hz (by omega),z.below hb (by have:=aA hz;omega) (λk Q=>by omega)⟩
theorem clTx_is(h:Int)(ai ao:Option Addr)(ni ci no co:Nat)(I:List InD)(O:List Z5)(w:World)(hI:InsAt w ai ni I)(hO:OutsAt w ao no O)(sI:SlOk ai ni ci)(sO:SlOk ao no co)(ev:ni<=3518437208883)(ew:no<=4398046511104)(hk:∀ x∈I,x.2.2.length<=8796093022208)(hl:∀ x∈O,x.2.length<=8796093022208) :
  Calls Tryz.prog 92 #[.agg #[E J h,F ai ni ci,F ao no co]] w λe w'=>∃ a1 c1 a2 c2,e = cY (.agg #[E J h,F a1 ni c1,F a2 no c2])/\Fresh w.heap.size w' (λw2=>txR.C w2 [E J h,F a1 ni c1,F a2 no c2] (h,I,O))/\aD w.heap.size w w':=by
 obtain⟨X,hX⟩:=ZG ((w.alloc (cW #[E J h,F ai ni ci,F ao no co] 59)).alloc (cW #[E J 0,F none 0 0,F none 0 0] 59));have dc:aD w.heap.size w X:=by rw[hX];exact Zf (Zh _ _) (Zh _ _)
 have bk:X.heap[w.heap.size]? = some (cW [E J h,F ai ni ci,F ao no co].toArray 59 (0,0)):=by
  rw[hX,Below.heap_alloc _ _ _ (by simp)];exact Zw _ _ _ _ _
 have eg:X.heap.size=w.heap.size+2:=by rw[hX];simp
 have ag:X.heap[w.heap.size+1]? = some (cW [E J 0,F none 0 0,F none 0 0].toArray 59 (0,0)):=by
  rw[hX];have:=Zw (w.alloc (cW #[E J h,F ai ni ci,F ao no co] 59)) (E J 0) (F none 0 0) (F none 0 0) 59;rw[show (w.alloc (cW #[E J h,F ai ni ci,F ao no co] 59)).heap.size=w.heap.size+1 by simp] at this;exact this
 have dt:=Zd dc;have cm:=Zd bk;have dx:=Zd ag;have dy:=Zd eg;have el:=Zd hk;have en:=Zd hl;have dz:=Zd hI.1;have ea:=Zd hO.1;have C1:=Zd (Fq ai ni ci I w X.drew ev hI (Zf dc (Zi X)) sI);have C2:=Zd (λW (hb:aD w.heap.size w W)=>Mh ao no co O w W ew hO hb sO);have x1:=Zb bk 1 _ rfl;have x2:=Zb bk 2 _ rfl;have xl:=aA bk;clear dc bk ag hI hO sI sO hk hl eg;go_enter Tryz.func92,Tryz.ntmps92
 go_upto_region 1 with fail
 rw[<-hX];clear hX
 go_cut [9,12] from 7 to 14 (λs9 fd wx=>Hid (Zik w h I O ni no s9 fd wx))
 case first=>
  go_region_with (first
   | (go_at_call 159;refine C1.mono ?_;rintro e w3 ⟨v1,K1,rfl,hA1,bh,bz⟩;have h30:=ZE bz cm;have d1:=Zb h30 1 _ rfl;have d2:=Zb h30 2 _ rfl;have gn:=aA h30;have dm:=Zd hA1;have dv:Hid (w3.ownsRow (w.heap.size+2) 119 3 v1 ni K1.flatten):=Yo bh (cN dy.symm);have dq:=Zd (Zf (Zf dt (Zi _)) bz);have dr:=Zd (Zf (Zi X) bz);clear hA1 bh bz h30)
   | (go_at_call 160;refine (C2 _ dq).mono ?_;rintro e w4 ⟨v2,K2,rfl,hA2,bi,ca⟩;have dd:=Zf dr ca;have h40:=ZE dd cm;have h41:=ZE dd dx;have e0:=Zb h40 0 _ rfl;have e1:=Zb h40 1 _ rfl;have e2:=Zb h40 2 _ rfl;have z1:=Zg h40 1;have z2:=Zg h40 2;have gp:=aA h40;have dn:=Zd hA2;have cl:Hid (w4.ownsRow (w.heap.size+2) 122 2 v2 no K2.flatten):=Yo bi (by have:=dr.size;have:=Za dy;omega);have dw:=Zd ((Gr.of (S:=λ_=>False) ca).own dv (λ_ _ q=>q));have ds:=Zd (Zf dq ca);have dk:=Zd h40;have dl:=Zd h41;obtain⟨a2,c2,rfl,_,_⟩:=Zx cl;obtain⟨a1,c1,rfl,_,_⟩:=Zx dv;clear hA2 bi ca dd h40 h41))
  all_goals
   go_wp2_with fail;go_meet
   case rel=>
    first
    | exact Fh (W:=w4) dm dn dw cl ds dl (((Gr.refl w4 (λq=>q=w.heap.size)).one w.heap.size 1 (.inl rfl) _).one w.heap.size 2 (.inl rfl) _) (set_cells (set_cells dk 1 _) 2 _)
    | exact Fh (W:=w4) dm dn dw cl ds dl (((Gr.refl w4 (λq=>q=w.heap.size)).one w.heap.size 2 (.inl rfl) _).one w.heap.size 1 (.inl rfl) _) (set_cells (set_cells dk 2 _) 1 _)
 case rest=>
  obtain⟨K1,K2,hA1,hA2,bh,bi,h0,h1,hb⟩:=Za hcut;obtain⟨a1,c1,rfl,_,_⟩:=Zx bh;obtain⟨a2,c2,rfl,_,_⟩:=Zx bi;obtain⟨G,hG⟩:=ZF (wc.heap.size);have ef:w.heap.size+2<=G:=by rw[<-hG];exact aA h1
  have eb:Hid (Cl inR 119 (w.heap.size+2) G w wc (F a1 ni c1) ni K1 I 0):=Cl.start bh hA1 dz (cN hG);have ec:Hid (Cl outR 122 (w.heap.size+2) G w wc (F a2 no c2) no K2 O 0):=Cl.start bi hA2 ea (cN hG);have H0:=Zd h0;have H1:=Zd h1;have HB:=Zd hb;have du:Hid (G<=wc.heap.size):=cN hG.symm;have eo:=Zb h0 1 _ rfl;have cp:=aA h0;clear hcut hA1 hA2 bh bi h0 h1 hb C1 C2 cm dx dt x1 x2 xl hG;go_wp2
  go_loopw [18] (λi wr=>∃ (k:Nat) (K:List (List Value)),k<=ni/\i = E J k/\Hid (Cl inR 119 (w.heap.size+2) G w wr (F a1 ni c1) ni K I k)/\Hid (Cl outR 122 (w.heap.size+2) G w wr (F a2 no c2) no K2 O 0)/\Hid (wr.heap[w.heap.size]? = some (cW [E J h,F a1 ni c1,F a2 no c2].toArray 59 (0,0)))/\Hid (wr.heap[w.heap.size+1]? = some (cW [E J 0,F none 0 0,F none 0 0].toArray 59 (0,0)))/\Hid (aD w.heap.size w wr)/\Hid (G<=wr.heap.size)) (λi _=>ni - (cE i).toNat)
  case atStart=>exact⟨0,K1,aQ _,rfl,eb,ec,H0,H1,HB,du⟩
  case round=>
   obtain⟨k,K,hk,rfl,ah,bs,am,cd,br,cg⟩:=hrel;clear eb ec H0 H1 HB du eo cp;by_cases et:k<ni
   ·have ar:k<I.length:=(by rw[Za dz];exact et);have al:k<K.length:=(by rw[(Za ah).len];exact ar);obtain⟨g,cap,gm,eq,er,bg⟩:=ah.form (by omega);cases gm;obtain⟨a,m,c,eK,au,bo⟩:=ah.old k ar al (aH _);have bd:=el _ (bB ar);obtain⟨x,hx⟩:=ZF (I[k]);rw[hx] at eK au bd;have r0:=ah.cell k al 0 (by decide);have r1:=ah.cell k al 1 (by decide);have r2:=ah.cell k al 2 (by decide);rw[eK] at r0 r1 r2;have r0:wr.cell? ⟨g,k*3,none⟩=some (E J x.1):=r0;have r1:wr.cell? ⟨g,k*3+1,none⟩=some (E J x.2.1):=r1;have r2:wr.cell? ⟨g,k*3+2,none⟩=some (F a m c):=r2;have hm:m<=8796093022208:=(by rw[<-au.1];exact bd);obtain⟨X1,ag⟩:=ZG (wr.alloc (cW #[E J x.1,E J x.2.1,F a m c] 119));have af:aD wr.heap.size wr X1:=(by rw[ag];exact Zh _ _);have ay:X1.heap[wr.heap.size]? = some (cW [E J x.1,E J x.2.1,F a m c].toArray 119 (0,0)):=(by rw[ag];exact Zw _ _ _ _ _);have b2:=Zb ay 2 _ rfl;have bl:=aA ay;have t1:=Ze af (Zb am 1 _ rfl);have tl:=aE (aA am) af.size;have ce:=Zd af;have CO:=Zd (V7 a m c x.2.2 X1.drew hm (au.later (Zf (Zf br af) (Zi _))) bo)
    have NX:Hid (∀ w5 z Q,aD wr.heap.size wr w5->Fresh X1.drew.heap.size w5 (λw2=>OpsAt w2 z m x.2.2/\SlOk z m Q) ->
      Hid (Cl inR 119 (w.heap.size+2) G w (w5.setCell ⟨g,k*3+2,none⟩ (F z m Q)) (F (some ⟨g,0,none⟩) ni c1) ni (K.set k [E J x.1,E J x.2.1,F z m Q]) I (k+1))/\Hid (Cl outR 122 (w.heap.size+2) G w (w5.setCell ⟨g,k*3+2,none⟩ (F z m Q)) (F a2 no c2) no K2 O 0)/\Hid ((w5.setCell ⟨g,k*3+2,none⟩ (F z m Q)).heap[w.heap.size]? = some (cW [E J h,F (some ⟨g,0,none⟩) ni c1,F a2 no c2].toArray 59 (0,0)))/\Hid ((w5.setCell ⟨g,k*3+2,none⟩ (F z m Q)).heap[w.heap.size+1]? = some (cW [E J 0,F none 0 0,F none 0 0].toArray 59 (0,0)))/\Hid (aD w.heap.size w (w5.setCell ⟨g,k*3+2,none⟩ (F z m Q)))/\Hid (G<=(w5.setCell ⟨g,k*3+2,none⟩ (F z m Q)).heap.size)):=by
     intro w5 z Q aa aq;have bj:=Za cg;have aj:=(Gr.refl w5 (λq=>q=g)).one g (k*3+2) (.inl rfl) (F z m Q);have dg:=aa.size;refine⟨Zhj ah ar al hx eK aa aq (aS bj af.size),?_,?_,?_,?_,?_⟩
     ·exact (bs.keep aa).gr aj (λq e=>by omega) (λq hq e=>own_apart ah.own bs.own (by decide) q (by rw[e];rfl) hq)
     ·exact aj.heap (ZE aa am) (by omega)
     ·exact aj.heap (ZE aa cd) (by omega)
     ·exact aj.below (Zf br aa) (by have:=aA am;omega) (λq e=>by omega)
     ·exact aS bj (aS dg aj.size)
    have FR:=Zd (λj=>ah.free j);have es:(k:Int)<(ni:Int):=(by omega);clear au bo bd hx eK af ay;go_wp2_with fail;rw[<-ag];clear ag
    go_region_with (go_at_call 150;refine CO.mono ?_;rintro e w5 ⟨z,Q,rfl,aq,aa⟩;have ae:=Zf (Zf ce (Zi _)) aa;have HN:=Zd (NX w5 z Q ae aq);have q1:=Ze aa (Ze (Zi _) t1);have q2:=Ze ae r2;have q3:w5.frozen? ⟨g,k*3+2,none⟩=false:=(aM (a:=⟨g,k*3+2,none⟩) (ae.block g bg)).trans (FR _);have q4:=aE bg ae.size;have q5:=aE (aA am) ae.size;clear aq aa ae)
    all_goals
     go_wp2;go_roundw
     case rel=>
      obtain⟨f1,f2,f3,f4,f5,f6⟩:=Za HN;exact⟨k+1,_,by omega,by go_num,f1,f2,f3,f4,f5,f6⟩
     case measure=>simp[cE];omega
   ·have e:k=ni:=(by omega);subst e;have ep:=Zb am 2 _ rfl;have cp:=aA am;have DN:=ah;clear ah;go_wp2
    go_loopw [35] (λi w2=>∃ (j:Nat) (Ko:List (List Value)),j<=no/\i = E J j/\Hid (Cl inR 119 (w.heap.size+2) G w w2 (F a1 k c1) k K I k)/\Hid (Cl outR 122 (w.heap.size+2) G w w2 (F a2 no c2) no Ko O j)/\Hid (w2.heap[w.heap.size]? = some (cW [E J h,F a1 k c1,F a2 no c2].toArray 59 (0,0)))/\Hid (w2.heap[w.heap.size+1]? = some (cW [E J 0,F none 0 0,F none 0 0].toArray 59 (0,0)))/\Hid (aD w.heap.size w w2)/\Hid (G<=w2.heap.size)) (λi _=>no - (cE i).toNat)
    case atStart=>exact⟨0,K2,aQ _,rfl,DN,bs,am,cd,br,cg⟩
    case round=>
     obtain⟨j,Ko,hj,rfl,bt,ak,an,av,cf,ek⟩:=hrel;clear DN bs am cd br cg ep cp;by_cases eu:j<no
     ·have ar:j<O.length:=(by rw[Za ea];exact eu);have al:j<Ko.length:=(by rw[(Za ak).len];exact ar);obtain⟨g,cap,gm,eq,er,bg⟩:=ak.form (by omega);cases gm;obtain⟨a,m,c,eK,au,bo⟩:=ak.old j ar al (aH _);have bd:=en _ (bB ar);obtain⟨x,hx⟩:=ZF (O[j]);rw[hx] at eK au bd;have r0:=ak.cell j al 0 (by decide);have r1:=ak.cell j al 1 (by decide);rw[eK] at r0 r1;have r0:wr.cell? ⟨g,j*2,none⟩=some (E J x.1):=r0;have r1:wr.cell? ⟨g,j*2+1,none⟩=some (F a m c):=r1;have hm:m<=8796093022208:=(by rw[<-au.1];exact bd);obtain⟨X1,ag⟩:=ZG (wr.alloc (cW #[E J x.1,F a m c] 122));have af:aD wr.heap.size wr X1:=(by rw[ag];exact Zh _ _);have ay:X1.heap[wr.heap.size]? = some (cW [E J x.1,F a m c].toArray 122 (0,0)):=(by rw[ag];exact Yt _ _ _ _);have b0:=Zb ay 0 _ rfl;have b1:=Zb ay 1 _ rfl;have bl:=aA ay;have t2:=Ze af (Zb an 2 _ rfl);have tl:=aE (aA an) af.size;have ce:=Zd af;have CO:=Zd (J2 x.1 a m c x.2 X1.drew hm (au.later (Zf (Zf cf af) (Zi _))) bo)
      have NX:Hid (∀ w5 z Q,aD wr.heap.size wr w5->Fresh X1.drew.heap.size w5 (λw2=>OpsAt w2 z m x.2/\SlOk z m Q) ->
        Hid (Cl inR 119 (w.heap.size+2) G w ((w5.setCell ⟨g,j*2,none⟩ (E J x.1)).setCell ⟨g,j*2+1,none⟩ (F z m Q)) (F a1 k c1) k K I k)/\Hid (Cl outR 122 (w.heap.size+2) G w ((w5.setCell ⟨g,j*2,none⟩ (E J x.1)).setCell ⟨g,j*2+1,none⟩ (F z m Q)) (F (some ⟨g,0,none⟩) no c2) no (Ko.set j [E J x.1,F z m Q]) O (j+1))/\Hid (((w5.setCell ⟨g,j*2,none⟩ (E J x.1)).setCell ⟨g,j*2+1,none⟩ (F z m Q)).heap[w.heap.size]? = some (cW [E J h,F a1 k c1,F (some ⟨g,0,none⟩) no c2].toArray 59 (0,0)))/\Hid (((w5.setCell ⟨g,j*2,none⟩ (E J x.1)).setCell ⟨g,j*2+1,none⟩ (F z m Q)).heap[w.heap.size+1]? = some (cW [E J 0,F none 0 0,F none 0 0].toArray 59 (0,0)))/\Hid (aD w.heap.size w ((w5.setCell ⟨g,j*2,none⟩ (E J x.1)).setCell ⟨g,j*2+1,none⟩ (F z m Q)))/\Hid (G<=((w5.setCell ⟨g,j*2,none⟩ (E J x.1)).setCell ⟨g,j*2+1,none⟩ (F z m Q)).heap.size)):=by
       intro w5 z Q aa aq;have bj:=Za ek;have aj:=((Gr.refl w5 (λq=>q=g)).one g (j*2) (.inl rfl) (E J x.1)).one g (j*2+1) (.inl rfl) (F z m Q);have dg:=aa.size;refine⟨?_,Zdj ak ar al hx aa aq (aS bj af.size),?_,?_,?_,?_⟩
       ·exact (bt.keep aa).gr aj (λq e=>by omega) (λq hq e=>own_apart ak.own bt.own (by decide) q (by rw[e];rfl) hq)
       ·exact aj.heap (ZE aa an) (by omega)
       ·exact aj.heap (ZE aa av) (by omega)
       ·exact aj.below (Zf cf aa) (by have:=aA an;omega) (λq e=>by omega)
       ·exact aS bj (aS dg aj.size)
      have FR:=Zd (λj=>ak.free j);have es:(j:Int)<(no:Int):=(by omega);clear au bo bd hx eK af ay;go_wp2_with fail;rw[<-ag];clear ag
      go_region_with (go_at_call 161;refine CO.mono ?_;rintro e w5 ⟨z,Q,rfl,aq,aa⟩;have ae:=Zf (Zf ce (Zi _)) aa;have HN:=Zd (NX w5 z Q ae aq);have q1:=Ze aa (Ze (Zi _) t2);have q2:=Ze ae r0;have ga:=Ze ae r1;have q3:w5.frozen? ⟨g,j*2,none⟩=false:=(aM (a:=⟨g,j*2,none⟩) (ae.block g bg)).trans (FR _);have gb:w5.frozen? ⟨g,j*2+1,none⟩=false:=(aM (a:=⟨g,j*2+1,none⟩) (ae.block g bg)).trans (FR _);have q4:=aE bg ae.size;have q5:=aE (aA an) ae.size;clear aq aa ae)
      all_goals
       go_wp2;go_roundw
       case rel=>
        obtain⟨f1,f2,f3,f4,f5,f6⟩:=Za HN;exact⟨j+1,_,by omega,by go_num,f1,f2,f3,f4,f5,f6⟩
       case measure=>simp[cE];omega
     ·have e:j=no:=(by omega);subst e;have s0:=Zb an 0 _ rfl;have s1:=Zb an 1 _ rfl;have s2:=Zb an 2 _ rfl;have sl:=aA an;have y0:=Zb av 0 _ rfl;have y1:=Zb av 1 _ rfl;have y2:=Zb av 2 _ rfl;have z0:=Zg av 0;have z1:=Zg av 1;have z2:=Zg av 2;have yl:=aA av
      have R:Hid (Fresh (w.heap.size+2) wr (λw2=>txR.C w2 [E J h,F a1 k c1,F a2 j c2] (h,I,O))):=by
       obtain⟨a',c',e1,h1⟩:=bt.rows ef;obtain⟨fp,ft,e2,h2⟩:=ak.rows ef;cases e1;cases e2;exact λw2 g2=>⟨_,_,_,_,_,_,rfl,(h1 w2 g2).1,(h1 w2 g2).2,(h2 w2 g2).1,(h2 w2 g2).2⟩
      clear bt ak;go_wp2;(try simp only[Exit.inBlock,Exit.then]);have hG:=((Gr.refl wr (λq=>q=w.heap.size+1)).one (w.heap.size+1) 0 (.inl rfl) (E J h)).one (w.heap.size+1) 1 (.inl rfl) (F a1 k c1) |>.one (w.heap.size+1) 2 (.inl rfl) (F a2 j c2);refine bA (v:=.agg #[E J h,F a1 k c1,F a2 j c2]) ?_ rfl ⟨a1,c1,a2,c2,rfl,(R.on (hG.mono λq _ e=>by omega)).less (by omega),?_⟩
      ·rw[Ya rfl];go_simp
      ·exact hG.below cf (by omega) (λq e=>by omega)
