import Derived.Test.YtmomfkikogbdeaaGreatDoorH
import Derived.Test.YtmomfkikogbdeaaGreatDoorG24
open Go.Proofs.Tryz
open Go renaming lt_of_block->aA,bodyPost_ret->bB
open Go.Ending renaming returned->dF
open Go.IntKind renaming i64->J
open Go.Obj renaming cells->dE
open Go.Value renaming int->E,slice->F,tuple->dG,pointer->dH
open Go.World renaming frozen?_of_block->aM
open List renaming flatten_cons->cD,length_set->cR,getElem_set_self->cU,getElem_mem->bE
open Nat renaming lt_of_lt_of_le->aD,le_refl->aF,le_of_eq->cO,zero_le->aI,le_trans->aN
set_option maxHeartbeats 12800000
set_option maxRecDepth 10000
namespace Go.Proofs.YtmomfkikogbdeaaGreatDoor.Tr
open Go.RowKit
def Wid(sz:Nat)(K:List (List Value)):Prop:=∀ c∈K,c.length=sz
theorem AllC.wid{α : Type}{Z:Rec α}{w K}{L:List α}(h:AllC Z w K L):Wid Z.sz K:=by
 intro c hc;obtain⟨i,hi,rfl⟩:=List.getElem_of_mem hc;exact Z.wide _ _ _ (h.2 i (by rw[<-h.1];exact hi) hi)
theorem wid_at{sz:Nat}:∀ {K:List (List Value)} (_:Wid sz K) (k:Nat) (h:k<K.length) (j:Nat) (_:j<sz),K.flatten[k*sz+j]? = (K[k])[j]?
 | [],_,_,h,_,_=>absurd h (by simp)
 | c :: K,hw,0,_,j,hj=>by
  have h2:=hw c (by simp);rw[cD,List.getElem?_append_left (by omega)];simp
 | c :: K,hw,k+1,h,j,hj=>by
  have h2:=hw c (by simp);rw[cD,List.getElem?_append_right (by rw[h2,Nat.succ_mul];omega),h2];rw[show (k+1)*sz+j - sz=k*sz+j by rw[Nat.succ_mul];omega];rw[wid_at (λc hc=>hw c (by simp[hc])) k (by simpa using h) j hj];simp
theorem Y7{sz:Nat}:∀ {K:List (List Value)} (_:Wid sz K) (k:Nat) (h:k<K.length) (j:Nat) (_:j<sz) (u:Value),K.flatten.set (k*sz+j) u=(K.set k ((K[k]).set j u)).flatten
 | [],_,_,h,_,_,_=>absurd h (by simp)
 | c :: K,hw,0,_,j,hj,u=>by
  have h2:=hw c (by simp);rw[cD,Nat.zero_mul,Nat.zero_add,List.set_append_left _ _ (by omega)];simp
 | c :: K,hw,k+1,h,j,hj,u=>by
  have h2:=hw c (by simp);rw[cD,List.set_append_right _ _ (by rw[h2,Nat.succ_mul];omega),h2];rw[show (k+1)*sz+j - sz=k*sz+j by rw[Nat.succ_mul];omega];rw[Y7 (λc hc=>hw c (by simp[hc])) k (by simpa using h) j hj u];simp
theorem Vz{sz:Nat}{K:List (List Value)}(hw:Wid sz K)(k:Nat){c:List Value}(hc:c.length=sz):Wid sz (K.set k c):=by
 intro x hx
 rcases List.mem_or_eq_of_mem_set hx with q|rfl
 ·exact hw x q
 ·exact hc
structure Cl{α : Type}(Z:Rec α)(e:TypeId)(B G:Nat)(w0 wr:World)(v:Value)(n:Nat)(K:List (List Value))(L:List α)(k:Nat):Prop where
 own:wr.ownsRow B e Z.sz v n K.flatten
 wid:Wid Z.sz K
 len:K.length=L.length
 ln:L.length=n
 gt:∀ q,v.ownBlock=some q->q<G
 new:∀ i (h:i<L.length) (h':i<K.length),i<k->Fresh G wr (λw2=>Z.C w2 K[i] L[i])
 old:∀ i (h:i<L.length) (h':i<K.length),k<=i->Z.C w0 K[i] L[i]
section
variable {α : Type} {Z : Rec α} {e : TypeId} {B G : Nat} {w0 wr w' : World} {v : Value} {n : Nat} {K : List (List Value)} {L : List α} {k : Nat}
theorem Cl.start(h:wr.ownsRow B e Z.sz v n K.flatten)(hc:AllC Z w0 K L)(hn:L.length=n)(hG:wr.heap.size<=G):Cl Z e B G w0 wr v n K L 0:=
 ⟨h,hc.wid,hc.1,hn,λq hq=>aD (h.lt q hq).2 hG,λ_ _ _ h=>absurd h (by omega),λi h h' _=>hc.2 i h h'⟩
theorem Cl.gr{S:Nat->Prop}(h:Cl Z e B G w0 wr v n K L k)(g:Gr wr w' S)(hs:∀ q,S q->q<G)(hv:∀ q,v.ownBlock=some q->¬S q):Cl Z e B G w0 w' v n K L k:=
 ⟨g.own h.own hv,h.wid,h.len,h.ln,h.gt,λi a b c=>(h.new i a b c).on (g.mono λq _ hq=>hs q hq),h.old⟩
theorem Cl.keep(h:Cl Z e B G w0 wr v n K L k)(hb:ZD wr w'):Cl Z e B G w0 w' v n K L k:=
 h.gr (S:=λ_=>False) (Gr.of hb) (λ_ q=>q.elim) (λ_ _ q=>q)
theorem Cl.form(h:Cl Z e B G w0 wr v n K L k)(hn:0<n):∃ g cap,v = F (some ⟨g,0,none⟩) n cap/\B<=g/\g<G/\g<wr.heap.size:=by
 rcases h.own.2 with ⟨_,h0⟩|⟨g,cap,ac,rfl,hg,hh,_⟩
 ·omega
 ·exact⟨g,cap,rfl,hg,h.gt g rfl,aA hh⟩
theorem Cl.cell{g cap:Nat}(h:Cl Z e B G w0 wr (F (some ⟨g,0,none⟩) n cap) n K L k)(i:Nat)(hi:i<K.length)(j:Nat)(hj:j<Z.sz):wr.cell? ⟨g,i*Z.sz+j,none⟩=(K[i])[j]?:=by
 have ab:i<n:=by rw[<-h.ln,<-h.len];exact hi
 have:(i+1)*Z.sz<=n*Z.sz:=Nat.mul_le_mul_right _ (by omega);rw[Nat.succ_mul] at this;rw[World.ownsRow.cellAt h.own _ (by omega),wid_at h.wid i hi j hj]
theorem Cl.free{g cap:Nat}(h:Cl Z e B G w0 wr (F (some ⟨g,0,none⟩) n cap) n K L k)(j:Nat):wr.frozen? ⟨g,j,none⟩=false:=h.own.frozenAt j
theorem Cl.step{g cap:Nat}(h:Cl Z e B G w0 wr (F (some ⟨g,0,none⟩) n cap) n K L k)(hk:k<L.length){cs}(hc:Fresh G wr (λw2=>Z.C w2 cs L[k]))(hg:Gr wr w' (λq=>q=g))(ho:w'.ownsRow B e Z.sz (F (some ⟨g,0,none⟩) n cap) n (K.set k cs).flatten):Cl Z e B G w0 w' (F (some ⟨g,0,none⟩) n cap) n (K.set k cs) L (k+1):=by
 have af:=h.gt g rfl;have hw:=Z.wide _ _ _ hc.now;have hm:Gr wr w' (λq=>q<G):=hg.mono λq _ e=>by omega
 refine⟨ho,Vz h.wid k hw,by rw[cR];exact h.len,h.ln,h.gt,λi a b c=>?_,λi a b c=>?_⟩
 ·by_cases e:i=k
  ·subst e;rw[cU];exact hc.on hm
  ·rw[List.getElem_set_ne (by omega)];exact (h.new i a (by simpa using b) (by omega)).on hm
 ·rw[List.getElem_set_ne (by omega)];exact h.old i a (by simpa using b) (by omega)
theorem Cl.done(h:Cl Z e B G w0 wr v n K L n):Fresh G wr (λw2=>AllC Z w2 K L):=λw2 g2=>
 ⟨h.len,λi a b=>h.new i a b (by rw[<-h.ln];exact a) w2 g2⟩
theorem Cl.rows(h:Cl Z e B G w0 wr v n K L n)(hB:B<=G):∃ a c,v = F a n c/\Fresh B wr (λw2=>RowsAt Z.R Z.sz w2 a n L/\SlOk a n c):=by
 obtain⟨a,c,rfl,_,_⟩:=rows_of_own Z h.own h.done.now h.ln;refine⟨a,c,rfl,λw2 g2=>?_⟩;have ho:=g2.own h.own (λq hq=>by have:=(h.own.lt q hq).1;omega);obtain⟨a',c',e,h1,h2⟩:=rows_of_own Z ho (h.done w2 (g2.mono λq _ hq=>by omega)) h.ln;cases e;exact⟨h1,h2⟩
end
theorem set_cells{w:World}{b:Nat}{X:List Value}{t:TypeId}(h:w.heap[b]? = some (dE X.toArray t (0,0)))(j:Nat)(u):(w.setCell ⟨b,j,none⟩ u).heap[b]? = some (dE (X.set j u).toArray t (0,0)):=by
 rw[setCell_eq_setRow w b j X.toArray t (0,0) u h];have:=setRow_heap w b _ (X.toArray.setIfInBounds j u) t _ h;simpa using this
theorem len1{c:List Value}(h:c.length=2):∃ x y,c=[x,y]:=by
 match c,h with
 | [x,y],_=>exact⟨x,y,rfl⟩
theorem len3{c:List Value}(h:c.length=3):∃ x y z,c=[x,y,z]:=by
 match c,h with
 | [x,y,z],_=>exact⟨x,y,z,rfl⟩
theorem len5{c:List Value}(h:c.length=5):∃ x y z r s,c=[x,y,z,r,s]:=by
 match c,h with
 | [x,y,z,r,s],_=>exact⟨x,y,z,r,s,rfl⟩
theorem put2{K:List (List Value)}(hw:Wid 2 K)(k:Nat)(h:k<K.length)(a b):((K.flatten.set (k*2) a).set (k*2+1) b)=(K.set k [a,b]).flatten:=by
 obtain⟨x,y,e⟩:=len1 (hw _ (bE h));have h1:=Y7 hw k h 0 (by decide) a;rw[Nat.add_zero] at h1;rw[h1,Y7 (Vz hw k (by rw[cR,e];rfl)) k (by rw[cR];exact h) 1 (by decide) b,cU,List.set_set,e];rfl
theorem put3{K:List (List Value)}(hw:Wid 3 K)(k:Nat)(h:k<K.length)(a b c):(((K.flatten.set (k*3) a).set (k*3+1) b).set (k*3+2) c)=(K.set k [a,b,c]).flatten:=by
 obtain⟨x,y,z,e⟩:=len3 (hw _ (bE h));have h1:=Y7 hw k h 0 (by decide) a;rw[Nat.add_zero] at h1;rw[h1,Y7 (Vz hw k (by rw[cR,e];rfl)) k (by rw[cR];exact h) 1 (by decide) b,cU,List.set_set,e];rw[Y7 (Vz hw k rfl) k (by rw[cR];exact h) 2 (by decide) c,cU,List.set_set];rfl
theorem put5{K:List (List Value)}(hw:Wid 5 K)(k:Nat)(h:k<K.length)(a b c d f):(((((K.flatten.set (k*5) a).set (k*5+1) b).set (k*5+2) c).set (k*5+3) d).set (k*5+4) f)=(K.set k [a,b,c,d,f]).flatten:=by
 obtain⟨x,y,z,r,s,e⟩:=len5 (hw _ (bE h));have h1:=Y7 hw k h 0 (by decide) a;rw[Nat.add_zero] at h1;rw[h1,Y7 (Vz hw k (by rw[cR,e];rfl)) k (by rw[cR];exact h) 1 (by decide) b,cU,List.set_set,e];rw[Y7 (Vz hw k rfl) k (by rw[cR];exact h) 2 (by decide) c,cU,List.set_set];rw[Y7 (Vz hw k rfl) k (by rw[cR];exact h) 3 (by decide) d,cU,List.set_set];rw[Y7 (Vz hw k rfl) k (by rw[cR];exact h) 4 (by decide) f,cU,List.set_set];rfl
theorem Te(x:Int)(a)(n c:Nat)(l)(w:World)(hn:n<=8796093022208)(h:OpsAt w a n l)(hs:SlOk a n c) :
  Calls Tryz.prog 161 #[.agg #[E J x,F a n c]] w λe w'=>∃ a' c',e = dF (.agg #[E J x,F a' n c'])/\Fresh w.heap.size w' (λw2=>OpsAt w2 a' n l/\SlOk a' n c')/\ZD w w':=by
 obtain⟨X,hX⟩:=ZG ((w.alloc (dE #[E J x,F a n c] 122)).alloc (dE #[E J 0,F none 0 0] 122));have ag:ZD w X:=by rw[hX];exact Zf (Zh _ _) (Zh _ _)
 have x0:X.cell? ⟨w.heap.size,0,none⟩=some (E J x):=by rw[hX];exact Ze (Zh _ _) (Z4 w _ _ _).1
 have x1:X.cell? ⟨w.heap.size,1,none⟩=some (F a n c):=by rw[hX];exact Ze (Zh _ _) (Z4 w _ _ _).2
 have ak:X.heap[w.heap.size+1]? = some (dE [E J 0,F none 0 0].toArray 122 (0,0)):=by
  rw[hX];have:=Yu (w.alloc (dE #[E J x,F a n c] 122)) (E J 0) (F none 0 0) 122;rw[show (w.alloc (dE #[E J x,F a n c] 122)).heap.size=w.heap.size+1 by simp] at this;exact this
 obtain⟨C,ah,ap⟩:=kh3 (Ux a n c l X.drew hn (h.later (Zf ag (Zi X))) hs) ak ag;clear h hs ag ak;go_enter func161,ntmps161;go_wp2_with fail;rw[<-hX];clear hX
 go_region_with (go_at_call 150;refine C.mono ?_;rintro e w3 ⟨a',c',rfl,af,ac⟩;have o2:w3.cell? ⟨w.heap.size,0,none⟩=some (E J x):=Ze ac (Ze (Zi _) x0);have ae:=ZE ac ah;have c0:=Zb ae 0 _ rfl;have c1:=Zb ae 1 _ rfl;have f0:=Zg ae 0;have f1:=Zg ae 1;have H3:Hid (Fresh X.drew.heap.size w3 (λw2=>OpsAt w2 a' n l/\SlOk a' n c')/\Below X.drew.heap.size X.drew w3):=⟨af,ac⟩;clear af ac ae)
 all_goals
  go_wp2;(try simp only[Exit.inBlock,Exit.then]);obtain⟨af,ac⟩:=Za H3;have hG:=((Gr.refl w3 (λq=>q=w.heap.size+1)).one (w.heap.size+1) 0 (.inl rfl) (E J x)).one (w.heap.size+1) 1 (.inl rfl) (F a' n c');have ax:w.heap.size+1<X.drew.heap.size:=aA ah;refine bB (v:=.agg #[E J x,F a' n c']) ?_ rfl ⟨a',c',rfl,(af.on (hG.mono λq _ e=>by omega)).less (by omega),?_⟩
  ·rw[Yf rfl];go_simp
  ·have ay:=ac.size;exact hG.below (Zf (Zf ap (Zi _)) ac) (by omega) (λk hk=>by omega)
end Tr
open Go.RowKit
def DoR(w w':World)(p:Nat)(x:Int)(K:List ByteArray)(C:List Zj)(h f:Int)(e:Ending):Prop:=
 (x≠0/\e = dF (dG #[E J 0,E J x])/\ZD w w') \/
 (x=0/\e = dF (dG #[E J f,E J 0])/\Gr w w' (λq=>q=p)/\DoT w' w.heap.size p K C h)
theorem DoR.err{w w':World}{p:Nat}{x y:Int}{K C}{h f:Int}(h0:y≠0)(hx:x=y)(hb:ZD w w'):DoR w w' p x K C h f (dF (dG #[E J 0,E J y])):=by
 subst hx;exact .inl ⟨h0,rfl,hb⟩
def Zps(V wx:World)(M:List Zj)(s9:Value):Prop:=
 ∃ am nm cm,s9 = F am nm cm/\Fresh V.heap.size wx (λw2=>CoinsAt w2 am nm M)/\SlOk am nm cm/\ZD V wx
theorem Eg{V W wx:World}{M}{Z:Nat}{am nm cm}(hF:Fresh Z W (λw2=>CoinsAt w2 am nm M))(hZ:V.heap.size<=Z)(hs:SlOk am nm cm)(hb:ZD V W)(hg:Gr W wx (λq=>q<Z/\V.heap.size<=q)):Zps V wx M (F am nm cm):=
 ⟨am,nm,cm,rfl,λw2 g2=>hF w2 ((hg.mono (λ_ _ q=>q.1)).trans (g2.mono (λ_ _ q=>aD q hZ))),hs,hg.below hb hb.size (λ_ q=>q.2)⟩
theorem Zqh(p:Nat)(K C)(h th:Int)(ai ao ni ci no co I O)(x:Int)(K' C' w)(hE:Env w)(hT:Zly w p K C h)(br:Yd C)(hI:InsAt w ai ni I)(hO:OutsAt w ao no O)(sI:SlOk ai ni ci)(hx:doD h (K,C) (th,I,O)=(x,K',C')) :
  Calls Tryz.prog 91 #[dH (some ⟨p,0,none⟩),.agg #[E J th,F ai ni ci,F ao no co]] w λe w'=>DoR w w' p x K' C' h (Zp C - Zp C') e:=by
 obtain⟨ka,kn,kc,la,ln,lc,hp,hK,sK,hC,sC⟩:=hT;obtain⟨X,hX,be,cq⟩:=ka00 w [E J th,F ai ni ci,F ao no co] 59;have ds:I.length=ni:=hI.1;obtain⟨x1,cw⟩:=ZF (Zq (th,I,O));obtain⟨T,cn⟩:=ZF (txT (th,I,O));obtain⟨⟨K1,nm,x2⟩,cx⟩:=ZF (Bk.nameR K T);obtain⟨⟨x3,M,S⟩,bz⟩:=ZF (apD C (th,I,O) nm h);unfold doD at hx;simp only[cw,cn,cx,bz,ds] at hx;have dh:=Zd (λV (hv:ZD X V)=>(show V.heap[w.heap.size]? = some (dE [E J th,F ai ni ci,F ao no co].toArray 59 (0,0)) from ZE hv cq));have bi:=Zd (λV (hv:ZD w V)=>(show V.heap[p]? = some (dE [F ka kn kc,F la ln lc,E J h].toArray 162 (0,0)) from ZE hv hp));have dt:p<w.heap.size:=aA hp;have C1:=Zd (Hn th ai ao ni ci no co I O T x1 X (hE.later be) (hI.later be) (hO.later be) sI cw cn);have C2:=Zd (λV (hv:ZD w V)=>Bk.name_fresh ka kn kc K K1 T nm x2 V (hK.later hv) cx);have C3:=Zd (λV (hv:ZD w V)=>Gp la ln lc C th ai ao ni ci no co I O nm h x3 M S V (hC.later hv) sC (hI.later hv) (hO.later hv) sI bz)
 have cm:Hid (x3=0->Yd M/\Zp M<=1000000000/\0<=Zp M):=λq=>by
  subst q;have r:=(Mc bz).2.1;exact⟨r,r.sum,Wp M (λc hc=>by have:=Yy (r.one c hc);omega)⟩
 obtain⟨s1,bf⟩:∃ s,Zp C=s:=⟨_,rfl⟩;have b1:s1<=1000000000:=by rw[<-bf];exact br.sum
 have b2:0<=s1:=by rw[<-bf];exact Wp C (λc hc=>by have:=Yy (br.one c hc);omega)
 have C4:=Zd (λV (hv:ZD w V)=>Np la ln lc C s1 V (hC.later hv) br bf);obtain⟨HX,ep,eu⟩:=kh3 hx be bf;obtain⟨t0,t1,t2,tl⟩:=kc3 cq;clear hE hK sK hC sC hI hO sI hx cw cn cx bz be cq hp br bf ds;go_enter func91,ntmps91;go_wp2_with fail;rw[<-hX];clear hX;(try go_wp2_with fail);refine C1.mono ?_;rintro e w1 ⟨rfl,bs⟩;have h10:=dh _ bs;obtain⟨t0,t1,t2,tl⟩:=kc3 h10;obtain⟨ak,el⟩:=kh2 (Zf ep bs) bs;clear bs h10 C1;by_cases e1:x1=0
 ·subst e1;by_cases e2:ni=0
  ·subst e2;have ae:Hid (x=4):=(by have:=Za HX;rw[if_neg (λq=>q rfl),if_pos rfl] at this;injection this with this _;exact this.symm);clear HX;go_wp2;go_ret2;exact DoR.err (by decide) ae ak
  have gu:((ni:Int) == 0)=false:=by simp;omega
  have ft:¬((ni:Int)=0):=by omega
  have p1:=bi _ ak;obtain⟨q0,q1,q2,ql⟩:=kc3 p1;clear p1;go_wp2_with fail;refine (C2 _ ak).mono ?_;rintro e w2 ⟨⟨ka',kn',kc',rfl,dm,ea⟩,bt⟩;obtain⟨df,er,ew⟩:=kh3 (Zf ak bt) dm ea;have fy:w1.heap.size<=w2.heap.size:=bt.size;obtain⟨V,hV,bu,dn⟩:=ka00 w2 [F ka' kn' kc'] 24;obtain⟨am,en,ez,ek⟩:=kh4 (Zf df bu) bu dn (Zf el (Zf bt bu));clear bt dm ea bu dn q0 q1 q2 ql t0 t1 t2 tl;obtain⟨ee,ef,eg,eh⟩:=kc3 (dh _ ek);obtain⟨fj,dw,dx,dy⟩:=kc3 (bi _ am);by_cases e3:x2=0
  ·subst e3
   go_upto_region 9 with fail
   rw[<-hV];clear hV;obtain⟨dk,dj⟩:=kh2 (Zf am (Zi V)) (Zf (Zf am (Zh V (dE #[F none 0 0] 153))) (Zi _));have v0:(V.alloc (dE #[F none 0 0] 153)).drew.heap[V.heap.size]? = some (dE #[F none 0 0] 153 (0,0)):=Yp V (F none 0 0) 153;have di:=Zd v0;clear v0;have KS:Hid (∀ U:World,ZD V U->((U.cell? ⟨p,1,none⟩=some (F la ln lc)/\U.cell? ⟨p,2,none⟩=some (E J h)/\p<U.heap.size)/\U.cell? ⟨w.heap.size,0,none⟩=some (E J th)/\U.cell? ⟨w.heap.size,1,none⟩=some (F ai ni ci)/\U.cell? ⟨w.heap.size,2,none⟩=some (F ao no co)/\w.heap.size<U.heap.size)):=λU hu=>⟨⟨Ze hu dw,Ze hu dx,aD dy hu.size⟩,Ze hu ee,Ze hu ef,Ze hu eg,aD eh hu.size⟩
   go_cut [5,9,10] from 36 to 50 (λs5 s9 gn wx=>s5 = E J x3/\Hid (Zps V wx M s9))
   case first=>
    refine wp_region_held_drew (S:=λU=>(U.cell? ⟨p,1,none⟩=some (F la ln lc)/\U.cell? ⟨p,2,none⟩=some (E J h)/\p<U.heap.size)/\U.cell? ⟨w.heap.size,0,none⟩=some (E J th)/\U.cell? ⟨w.heap.size,1,none⟩=some (F ai ni ci)/\U.cell? ⟨w.heap.size,2,none⟩=some (F ao no co)/\w.heap.size<U.heap.size) (by kernel_rfl) (KS _ (Zi _)) (λaa=>?_);refine tkL 0 rfl aa ?_;refine tkL 1 rfl aa ?_;refine tkL 2 rfl aa ?_;refine tkL 3 rfl aa ?_;refine tkL 4 rfl aa ?_;refine tkL 5 rfl aa ?_;refine tkL 6 rfl aa ?_;refine tkL 7 rfl aa ?_;refine tkL 8 rfl aa ?_;refine tkL 9 rfl aa ?_;refine wpAnyH_ready (rs:=[10,15]) (by kernel_rfl) (by simp) ?_;refine rdC rfl (λKQ hK=>?_) (rdC rfl (λKQ hK=>?_) AllReadyH.nil)
    ·refine Zm (by kernel_rfl) 76 #[F la ln lc,.agg #[E J th,F ai ni ci,F ao no co],E J nm,E J h] (by kernel_rfl) (C3 V.drew dk) ?_;rintro e w5 ⟨gq,az,gs,sa,ns,cs,rfl,ap,bb,-,-,aj⟩;refine⟨_,rfl,?_⟩;have hb:ZD V w5:=Zf (Zi V) aj;clear aa;refine hK.out _ _ (KS _ hb) (λaa=>?_);clear hK KQ;refine tkL 11 rfl aa ?_;refine tkL 12 rfl aa ?_;refine tkL 13 rfl aa ?_;refine tkL 14 rfl aa ?_;refine rdY 15 rfl (λKQ hK=>?_);go_simp;clear aa;refine hK.out _ _ (KS _ (Zf hb (Zh _ _))) (λaa=>?_);clear hK KQ;refine tkL 16 rfl aa ?_;refine rdY 17 rfl (λKQ hK=>?_);go_simp;clear aa;refine hK.out _ _ (KS _ (Zf hb (Zh _ _))) (λaa=>?_);clear hK KQ;(try simp only[Act.put]);refine tkL 18 rfl aa ?_;refine wpAnyH_done (by kernel_rfl) ?_ _;clear aa;go_wp2_with fail;go_meet
     case rel=>exact⟨rfl,Eg ap (aF _) bb hb (Gr.of (Zh _ _))⟩
    ·go_simp;obtain⟨v6,bx⟩:=ZG ((V.alloc (dE #[F none 0 0] 153)).drew);have h6:=Za di;have dr:=Za dj;rw[<-bx] at h6 dr;rw[<-bx];have av:ZD V v6:=(by rw[bx];exact Zf (Zh _ _) (Zi _));have fz:v6.heap.size=V.heap.size+1:=(by rw[bx];simp);clear aa;refine hK.out _ _ (KS _ av) (λaa=>?_);clear hK KQ;(try simp only[Act.put,ZA,ZB,ZC]);refine rdS 10 rfl (C3 v6 dr) ?_;rintro e w5 ⟨gq,az,gs,sa,ns,cs,rfl,ap,bb,-,-,aj⟩;have hb:ZD V w5:=Zf av aj;have h5:=ZE aj h6;have u50:=Zb (X:=[F none 0 0]) h5 0 _ rfl;have go:=Zg h5 0;have gp:=aA h5;clear aa;refine⟨_,rfl,(KS _ hb),λaa=>?_⟩;refine tkL 11 rfl aa ?_;refine tkL 12 rfl aa ?_;refine tkL 13 rfl aa ?_;refine tkL 14 rfl aa ?_;refine tkL 16 rfl aa ?_;refine rdY 17 rfl (λKQ hK=>?_);go_simp;clear aa;refine hK.out _ _ (KS _ (hb.setCell (p:=⟨V.heap.size,0,none⟩) (aF _) _)) (λaa=>?_);clear hK KQ;(try simp only[Act.put]);refine tkL 18 rfl aa ?_;refine wpAnyH_done (by kernel_rfl) ?_ _;clear aa;go_wp2_with fail;go_meet
     case rel=>exact⟨rfl,Eg ap (by omega) bb hb ((Gr.refl w5 _).one V.heap.size 0 (.inl ⟨by omega,aF _⟩) _)⟩
   case rest=>
    obtain⟨rfl,hc⟩:=hcut;obtain⟨gq,az,gs,rfl,ap,bb,aj⟩:=Za hc;have ct:=Zf am aj;obtain⟨cg,dg,es,ey⟩:=kh4 ct aj ap bb;have p5:=bi _ ct;obtain⟨gc,gd,gf,gg⟩:=kc3 p5;have CM:=Zd (λU (hu:ZD wc U) (h0:x3=0) s2 (hs:Zp M=s2)=>Np gq az gs M s2 U ((ap wc (Gr.refl _ _)).later hu) (cm h0).1 hs);clear hc ap bb aj ct p5 ee ef eg eh fj dw dx dy KS dk dj di C3;by_cases e4:x3=0
    ·obtain⟨fa,fb,fc⟩:=cm e4;obtain⟨s2,bv⟩:=ZF (Zp M);rw[bv] at fb fc;have de:=Zd (λU hu=>CM U hu e4 s2 bv);have ev:=Zd bv;have ae:Hid (x=0/\K'=K1/\C'=M):=(by have:=Za HX;rw[if_neg (λq=>q rfl),if_neg e2,if_neg (λq=>q rfl),if_neg (λq=>q e4)] at this;injection this with h1 h2;injection h2 with h2 h3;exact⟨h1.symm,h2.symm,h3.symm⟩);subst e4;clear bv CM HX cm fa;have C5:=Zd (C4 wc cg);go_wp2_with fail;refine C5.mono ?_;rintro e w6 ⟨rfl,av⟩;obtain⟨C6,eo⟩:=kh2 (de w6 av) av;clear av C5 C4;go_wp2_with fail;refine C6.mono ?_;rintro e w7 ⟨rfl,dq⟩;have bd:=Zf eo dq;have cu:=Zf cg bd;have p7:=bi _ cu;obtain⟨gh,gi,gj,gl,gm⟩:=kf2 p7;have k7:=ZE (Zf dg bd) ez;obtain⟨ga,gb⟩:=kc1 k7;have fd:p≠w2.heap.size:=(by have:=df.size;omega);have fx:w2.heap.size≠p:=λq=>fd q.symm;have G7:Gr w7 ((w7.setCell ⟨p,0,none⟩ (F ka' kn' kc')).setCell ⟨p,1,none⟩ (F gq az gs)) (λq=>q=p):=((Gr.refl w7 (λq=>q=p)).one p 0 (.inl rfl) _).one p 1 (.inl rfl) _
     have et:Hid (DoR w ((w7.setCell ⟨p,0,none⟩ (F ka' kn' kc')).setCell ⟨p,1,none⟩ (F gq az gs)) p x K' C' h (Zp C - Zp C') (dF (dG #[E J (s1 - s2),E J 0]))):=by
      obtain⟨rfl,rfl,rfl⟩:=Za ae;rw[Za eu,Za ev];refine .inr ⟨rfl,rfl,(Gr.of cu).trans G7,ka',kn',kc',gq,az,gs,Tr.set_cells (Tr.set_cells p7 0 _) 1 _,λW g2=>⟨er W ?_,es W ?_⟩,Za ew,Za ey⟩
      ·exact ((Gr.of (Zf en (Zf dg bd))).trans (G7.mono (λq _ e=>by rw[e];exact aD dt ak.size))).trans (g2.mono (λq _ e=>aD e ak.size))
      ·exact ((Gr.of bd).trans (G7.mono (λq _ e=>by rw[e];exact aD dt am.size))).trans (g2.mono (λq _ e=>aD e am.size))
     clear G7 bd cu p7 k7 dq C6 de;go_wp2;go_ret2;exact Za et
    ·have fw:(x3 != 0)=true:=(by simp[e4]);have ae:Hid (x=x3):=(by have:=Za HX;rw[if_neg (λq=>q rfl),if_neg e2,if_neg (λq=>q rfl),if_pos e4] at this;injection this with this _;exact this.symm);clear HX CM;go_wp2;go_ret2;exact DoR.err e4 ae cg
  ·have fv:(x2 != 0)=true:=(by simp[e3]);have ae:Hid (x=x2):=(by have:=Za HX;rw[if_neg (λq=>q rfl),if_neg e2,if_pos e3] at this;injection this with this _;exact this.symm);clear HX;go_wp2;rw[<-hV];go_ret2;exact DoR.err e3 ae am
 ·have fu:(x1 != 0)=true:=by simp[e1]
  have ae:Hid (x=x1):=by have:=Za HX;rw[if_pos e1] at this;injection this with this _;exact this.symm
  clear HX;go_wp2;go_ret2;exact DoR.err e1 ae ak
namespace Tr
open Go.RowKit
theorem own_apart{w:World}{B B':Nat}{e e':TypeId}{sz af n n':Nat}{v v':Value}{xs ag}(h:w.ownsRow B e sz v n xs)(h':w.ownsRow B' e' af v' n' ag)(hn:e≠e')(q:Nat)(hq:v.ownBlock=some q):v'.ownBlock≠some q:=by
 intro ad;obtain⟨c,f,h1⟩:=Lib.ownsRow_kind h q hq;obtain⟨c',f',h2⟩:=Lib.ownsRow_kind h' q ad;rw[h1] at h2;injection h2 with h2;injection h2 with _ h2;exact hn h2
theorem Zoi{G B w0s:Nat}{w0 wr w5:World}{g cap n k:Nat}{K:List (List Value)}{I:List InD}{x:InD}{a a5 m c c5}(h:Cl inR 119 B G w0 wr (F (some ⟨g,0,none⟩) n cap) n K I k)(hk:k<I.length)(ag:k<K.length)(hx:I[k]=x)(e:K[k]=[E J x.1,E J x.2.1,F a m c])(hb:ZD wr w5)(hf:Fresh w0s w5 (λw2=>OpsAt w2 a5 m x.2.2/\SlOk a5 m c5))(hG:G<=w0s) :
  Cl inR 119 B G w0 (w5.setCell ⟨g,k*3+2,none⟩ (F a5 m c5)) (F (some ⟨g,0,none⟩) n cap) n (K.set k [E J x.1,E J x.2.1,F a5 m c5]) I (k+1):=by
 have h5:=h.keep hb;refine h5.step hk ?_ ((Gr.refl w5 (λq=>q=g)).one g (k*3+2) (.inl rfl) _) ?_
 ·rw[hx];exact (hf.less hG).imp λw2 q=>⟨a5,m,c5,rfl,q.1,q.2⟩
 ·have h1:=(h5.own.stored (k*3+2) (F a5 m c5)).1;have h2:=Y7 (sz:=3) h5.wid k ag 2 (by decide) (F a5 m c5);rw[e] at h2;rw[h2] at h1;exact h1
theorem Zjp{G B w0s:Nat}{w0 wr w5:World}{g cap n k:Nat}{K:List (List Value)}{O:List Z3}{x:Z3}{a5 m c5}(h:Cl outR 122 B G w0 wr (F (some ⟨g,0,none⟩) n cap) n K O k)(hk:k<O.length)(ag:k<K.length)(hx:O[k]=x)(hb:ZD wr w5)(hf:Fresh w0s w5 (λw2=>OpsAt w2 a5 m x.2/\SlOk a5 m c5))(hG:G<=w0s) :
  Cl outR 122 B G w0 ((w5.setCell ⟨g,k*2,none⟩ (E J x.1)).setCell ⟨g,k*2+1,none⟩ (F a5 m c5)) (F (some ⟨g,0,none⟩) n cap) n (K.set k [E J x.1,F a5 m c5]) O (k+1):=by
 have h5:=h.keep hb;refine h5.step hk ?_ (((Gr.refl w5 (λq=>q=g)).one g (k*2) (.inl rfl) _).one g (k*2+1) (.inl rfl) _) ?_
 ·rw[hx];exact (hf.less hG).imp λw2 q=>⟨a5,m,c5,rfl,q.1,q.2⟩
 ·have h1:=((h5.own.stored (k*2) (E J x.1)).1.stored (k*2+1) (F a5 m c5)).1;rw[put2 h5.wid k ag] at h1;exact h1
def Zpq(w:World)(h:Int)(I:List InD)(O:List Z3)(ni no:Nat)(v1 v2:Value)(wx:World):Prop:=
 ∃ K1 K2,AllC inR w K1 I/\AllC outR w K2 O/\wx.ownsRow (w.heap.size+2) 119 3 v1 ni K1.flatten/\wx.ownsRow (w.heap.size+2) 122 2 v2 no K2.flatten /\
  wx.heap[w.heap.size]? = some (dE [E J h,v1,v2].toArray 59 (0,0))/\wx.heap[w.heap.size+1]? = some (dE [E J 0,F none 0 0,F none 0 0].toArray 59 (0,0))/\ZD w wx
theorem Ee{w W wx:World}{h:Int}{I O}{ni no:Nat}{v1 v2}{K1 K2:List (List Value)}(h1:AllC inR w K1 I)(h2:AllC outR w K2 O)(o1:W.ownsRow (w.heap.size+2) 119 3 v1 ni K1.flatten)(o2:W.ownsRow (w.heap.size+2) 122 2 v2 no K2.flatten)(hb:ZD w W)
  (hz:W.heap[w.heap.size+1]? = some (dE [E J 0,F none 0 0,F none 0 0].toArray 59 (0,0))) (hg:Gr W wx (λq=>q=w.heap.size)) (hx:wx.heap[w.heap.size]? = some (dE [E J h,v1,v2].toArray 59 (0,0))):Zpq w h I O ni no v1 v2 wx:=
 ⟨K1,K2,h1,h2,hg.own o1 (λk hk=>by have:=(o1.lt k hk).1;omega),hg.own o2 (λk hk=>by have:=(o2.lt k hk).1;omega),hx,hg.heap hz (by omega),hg.below hb (by have:=aA hz;omega) (λk hk=>by omega)⟩
theorem clTx_is(h:Int)(ai ao ni ci no co I O)(w:World)(hI:InsAt w ai ni I)(hO:OutsAt w ao no O)(sI:SlOk ai ni ci)(sO:SlOk ao no co)(fa:ni<=3518437208883)(fb:no<=4398046511104)(hk:∀ x∈I,x.2.2.length<=8796093022208)(hl:∀ x∈O,x.2.length<=8796093022208) :
  Calls Tryz.prog 92 #[.agg #[E J h,F ai ni ci,F ao no co]] w λe w'=>∃ a1 c1 a2 c2,e = dF (.agg #[E J h,F a1 ni c1,F a2 no c2])/\Fresh w.heap.size w' (λw2=>txR.C w2 [E J h,F a1 ni c1,F a2 no c2] (h,I,O))/\ZD w w':=by
 obtain⟨X,hX⟩:=ZG ((w.alloc (dE #[E J h,F ai ni ci,F ao no co] 59)).alloc (dE #[E J 0,F none 0 0,F none 0 0] 59));have de:ZD w X:=by rw[hX];exact Zf (Zh _ _) (Zh _ _)
 have dd:X.heap[w.heap.size]? = some (dE [E J h,F ai ni ci,F ao no co].toArray 59 (0,0)):=by
  rw[hX,Below.heap_alloc _ _ _ (by simp)];exact Zw _ _ _ _ _
 have ej:X.heap.size=w.heap.size+2:=by rw[hX];simp
 have ax:X.heap[w.heap.size+1]? = some (dE [E J 0,F none 0 0,F none 0 0].toArray 59 (0,0)):=by
  rw[hX];have:=Zw (w.alloc (dE #[E J h,F ai ni ci,F ao no co] 59)) (E J 0) (F none 0 0) (F none 0 0) 59;rw[show (w.alloc (dE #[E J h,F ai ni ci,F ao no co] 59)).heap.size=w.heap.size+1 by simp] at this;exact this
 obtain⟨dv,cn,ea,eb,ep,er,ec,ed⟩:=kh8 de dd ax ej hk hl hI.1 hO.1;have C1:=Zd (Ep ai ni ci I w X.drew fa hI (Zf de (Zi X)) sI);have C2:=Zd (λW (hb:ZD w W)=>Fx ao no co O w W fb hO hb sO);obtain⟨-,x1,x2,xl⟩:=kc3 dd;clear de dd ax hI hO sI sO hk hl ej;go_enter func92,ntmps92
 go_upto_region 1 with fail
 rw[<-hX];clear hX
 go_cut [9,12] from 7 to 14 (λs9 fh wx=>Hid (Zpq w h I O ni no s9 fh wx))
 case first=>
  go_region_with (first
   | (go_at_call 159;refine C1.mono ?_;rintro e w3 ⟨v1,K1,rfl,hA1,bh,ca⟩;have h30:=ZE ca cn;have d1:=Zb h30 1 _ rfl;have d2:=Zb h30 2 _ rfl;have dl:=aA h30;have dp:=Zd hA1;have dy:Hid (w3.ownsRow (w.heap.size+2) 119 3 v1 ni K1.flatten):=Yo bh (cO eb.symm);have ds:=Zd (Zf (Zf dv (Zi _)) ca);have dt:=Zd (Zf (Zi X) ca);clear hA1 bh ca h30)
   | (go_at_call 160;refine (C2 _ ds).mono ?_;rintro e w4 ⟨v2,K2,rfl,hA2,bi,cb⟩;have df:=Zf dt cb;have h40:=ZE df cn;have h41:=ZE df ea;have e0:=Zb h40 0 _ rfl;have e1:=Zb h40 1 _ rfl;have e2:=Zb h40 2 _ rfl;have z1:=Zg h40 1;have z2:=Zg h40 2;have el:=aA h40;have dq:=Zd hA2;have cm:Hid (w4.ownsRow (w.heap.size+2) 122 2 v2 no K2.flatten):=Yo bi (by have:=dt.size;have:=Za eb;omega);have dz:=Zd ((Gr.of (S:=λ_=>False) cb).own dy (λ_ _ q=>q));have du:=Zd (Zf ds cb);have dm:=Zd h40;have dn:=Zd h41;obtain⟨a2,c2,rfl,_,_⟩:=Zz cm;obtain⟨a1,c1,rfl,_,_⟩:=Zz dy;clear hA2 bi cb df h40 h41))
  all_goals
   go_wp2_with fail;go_meet
   case rel=>
    first
    | exact Ee (W:=w4) dp dq dz cm du dn (((Gr.refl w4 (λq=>q=w.heap.size)).one w.heap.size 1 (.inl rfl) _).one w.heap.size 2 (.inl rfl) _) (set_cells (set_cells dm 1 _) 2 _)
    | exact Ee (W:=w4) dp dq dz cm du dn (((Gr.refl w4 (λq=>q=w.heap.size)).one w.heap.size 2 (.inl rfl) _).one w.heap.size 1 (.inl rfl) _) (set_cells (set_cells dm 2 _) 1 _)
 case rest=>
  obtain⟨K1,K2,hA1,hA2,bh,bi,h0,h1,hb⟩:=Za hcut;obtain⟨a1,c1,rfl,_,_⟩:=Zz bh;obtain⟨a2,c2,rfl,_,_⟩:=Zz bi;obtain⟨G,hG⟩:=ZF (wc.heap.size);have ei:w.heap.size+2<=G:=by rw[<-hG];exact aA h1
  have ee:Hid (Cl inR 119 (w.heap.size+2) G w wc (F a1 ni c1) ni K1 I 0):=Cl.start bh hA1 ec (cO hG);have ef:Hid (Cl outR 122 (w.heap.size+2) G w wc (F a2 no c2) no K2 O 0):=Cl.start bi hA2 ed (cO hG);obtain⟨H0,H1,HB⟩:=kh3 h0 h1 hb;have dx:Hid (G<=wc.heap.size):=cO hG.symm;obtain⟨-,es,cq⟩:=kc2 h0;clear hcut hA1 hA2 bh bi h0 h1 hb C1 C2 cn ea dv x1 x2 xl hG;go_wp2
  go_loopw [18] (λi wr=>∃ (k:Nat) (K:List (List Value)),k<=ni/\i = E J k/\Hid (Cl inR 119 (w.heap.size+2) G w wr (F a1 ni c1) ni K I k)/\Hid (Cl outR 122 (w.heap.size+2) G w wr (F a2 no c2) no K2 O 0)/\Hid (wr.heap[w.heap.size]? = some (dE [E J h,F a1 ni c1,F a2 no c2].toArray 59 (0,0)))/\Hid (wr.heap[w.heap.size+1]? = some (dE [E J 0,F none 0 0,F none 0 0].toArray 59 (0,0)))/\Hid (ZD w wr)/\Hid (G<=wr.heap.size)) (λi _=>ni - (intOf i).toNat)
  case atStart=>exact⟨0,K1,aI _,rfl,ee,ef,H0,H1,HB,dx⟩
  case round=>
   obtain⟨k,K,hk,rfl,aj,bt,au,ce,bs,cj⟩:=hrel;clear ee ef H0 H1 HB dx es cq;by_cases ey:k<ni
   ·have aq:k<I.length:=(by rw[Za ec];exact ey);have an:k<K.length:=(by rw[(Za aj).len];exact aq);obtain⟨g,cap,gp,eu,ev,bg⟩:=aj.form (by omega);cases gp;obtain⟨a,m,c,eK,ar,bq⟩:=aj.old k aq an (aF _);have bb:=ep _ (bE aq);obtain⟨x,hx⟩:=ZF (I[k]);rw[hx] at eK ar bb;have r0:=aj.cell k an 0 (by decide);have r1:=aj.cell k an 1 (by decide);have r2:=aj.cell k an 2 (by decide);rw[eK] at r0 r1 r2;have r0:wr.cell? ⟨g,k*3,none⟩=some (E J x.1):=r0;have r1:wr.cell? ⟨g,k*3+1,none⟩=some (E J x.2.1):=r1;have r2:wr.cell? ⟨g,k*3+2,none⟩=some (F a m c):=r2;have hm:m<=8796093022208:=(by rw[<-ar.1];exact bb);obtain⟨X1,ax,ah,bo⟩:=ka00 wr [E J x.1,E J x.2.1,F a m c] 119;obtain⟨-,-,b2,bl⟩:=kc3 bo;have t1:=Ze ah (Zb au 1 _ rfl);have tl:=aD (aA au) ah.size;obtain⟨cf,CO⟩:=kh2 ah (Ux a m c x.2.2 X1.drew hm (ar.later (Zf (Zf bs ah) (Zi _))) bq)
    have NX:Hid (∀ w5 a5 c5,ZD wr w5->Fresh X1.drew.heap.size w5 (λw2=>OpsAt w2 a5 m x.2.2/\SlOk a5 m c5) ->
      Hid (Cl inR 119 (w.heap.size+2) G w (w5.setCell ⟨g,k*3+2,none⟩ (F a5 m c5)) (F (some ⟨g,0,none⟩) ni c1) ni (K.set k [E J x.1,E J x.2.1,F a5 m c5]) I (k+1))/\Hid (Cl outR 122 (w.heap.size+2) G w (w5.setCell ⟨g,k*3+2,none⟩ (F a5 m c5)) (F a2 no c2) no K2 O 0)/\Hid ((w5.setCell ⟨g,k*3+2,none⟩ (F a5 m c5)).heap[w.heap.size]? = some (dE [E J h,F (some ⟨g,0,none⟩) ni c1,F a2 no c2].toArray 59 (0,0)))/\Hid ((w5.setCell ⟨g,k*3+2,none⟩ (F a5 m c5)).heap[w.heap.size+1]? = some (dE [E J 0,F none 0 0,F none 0 0].toArray 59 (0,0)))/\Hid (ZD w (w5.setCell ⟨g,k*3+2,none⟩ (F a5 m c5)))/\Hid (G<=(w5.setCell ⟨g,k*3+2,none⟩ (F a5 m c5)).heap.size)):=by
     intro w5 a5 c5 ac ap;have bk:=Za cj;have ak:=(Gr.refl w5 (λq=>q=g)).one g (k*3+2) (.inl rfl) (F a5 m c5);have di:=ac.size;refine⟨Zoi aj aq an hx eK ac ap (aN bk ah.size),?_,?_,?_,?_,?_⟩
     ·exact (bt.keep ac).gr ak (λq e=>by omega) (λq hq e=>own_apart aj.own bt.own (by decide) q (by rw[e];rfl) hq)
     ·exact ak.heap (ZE ac au) (by omega)
     ·exact ak.heap (ZE ac ce) (by omega)
     ·exact ak.below (Zf bs ac) (by have:=aA au;omega) (λq e=>by omega)
     ·exact aN bk (aN di ak.size)
    have FR:=Zd (λj=>aj.free j);have ew:(k:Int)<(ni:Int):=(by omega);clear ar bq bb hx eK ah bo;go_wp2_with fail;rw[<-ax];clear ax
    go_region_with (go_at_call 150;refine CO.mono ?_;rintro e w5 ⟨a5,c5,rfl,ap,ac⟩;have ag:=Zf (Zf cf (Zi _)) ac;have HN:=Zd (NX w5 a5 c5 ag ap);have q1:=Ze ac (Ze (Zi _) t1);have q2:=Ze ag r2;have q3:w5.frozen? ⟨g,k*3+2,none⟩=false:=(aM (a:=⟨g,k*3+2,none⟩) (ag.block g bg)).trans (FR _);have q4:=aD bg ag.size;have q5:=aD (aA au) ag.size;clear ap ac ag)
    all_goals
     go_wp2;go_roundw
     case rel=>
      obtain⟨f1,f2,f3,f4,f5,f6⟩:=Za HN;exact⟨k+1,_,by omega,by go_num,f1,f2,f3,f4,f5,f6⟩
     case measure=>simp[intOf];omega
   ·have e:k=ni:=(by omega);subst e;obtain⟨-,-,et,cq⟩:=kc3 au;have DN:=aj;clear aj;go_wp2
    go_loopw [35] (λi w2=>∃ (j:Nat) (Ko:List (List Value)),j<=no/\i = E J j/\Hid (Cl inR 119 (w.heap.size+2) G w w2 (F a1 k c1) k K I k)/\Hid (Cl outR 122 (w.heap.size+2) G w w2 (F a2 no c2) no Ko O j)/\Hid (w2.heap[w.heap.size]? = some (dE [E J h,F a1 k c1,F a2 no c2].toArray 59 (0,0)))/\Hid (w2.heap[w.heap.size+1]? = some (dE [E J 0,F none 0 0,F none 0 0].toArray 59 (0,0)))/\Hid (ZD w w2)/\Hid (G<=w2.heap.size)) (λi _=>no - (intOf i).toNat)
    case atStart=>exact⟨0,K2,aI _,rfl,DN,bt,au,ce,bs,cj⟩
    case round=>
     obtain⟨j,Ko,hj,rfl,bu,am,bd,dw,cg,eo⟩:=hrel;clear DN bt au ce bs cj et cq;by_cases ez:j<no
     ·have aq:j<O.length:=(by rw[Za ed];exact ez);have an:j<Ko.length:=(by rw[(Za am).len];exact aq);obtain⟨g,cap,gp,eu,ev,bg⟩:=am.form (by omega);cases gp;obtain⟨a,m,c,eK,ar,bq⟩:=am.old j aq an (aF _);have bb:=er _ (bE aq);obtain⟨x,hx⟩:=ZF (O[j]);rw[hx] at eK ar bb;have r0:=am.cell j an 0 (by decide);have r1:=am.cell j an 1 (by decide);rw[eK] at r0 r1;have r0:wr.cell? ⟨g,j*2,none⟩=some (E J x.1):=r0;have r1:wr.cell? ⟨g,j*2+1,none⟩=some (F a m c):=r1;have hm:m<=8796093022208:=(by rw[<-ar.1];exact bb);obtain⟨X1,ax,ah,bo⟩:=ka00 wr [E J x.1,F a m c] 122;obtain⟨b0,b1,bl⟩:=kc2 bo;have t2:=Ze ah (Zb bd 2 _ rfl);have tl:=aD (aA bd) ah.size;obtain⟨cf,CO⟩:=kh2 ah (Te x.1 a m c x.2 X1.drew hm (ar.later (Zf (Zf cg ah) (Zi _))) bq)
      have NX:Hid (∀ w5 a5 c5,ZD wr w5->Fresh X1.drew.heap.size w5 (λw2=>OpsAt w2 a5 m x.2/\SlOk a5 m c5) ->
        Hid (Cl inR 119 (w.heap.size+2) G w ((w5.setCell ⟨g,j*2,none⟩ (E J x.1)).setCell ⟨g,j*2+1,none⟩ (F a5 m c5)) (F a1 k c1) k K I k)/\Hid (Cl outR 122 (w.heap.size+2) G w ((w5.setCell ⟨g,j*2,none⟩ (E J x.1)).setCell ⟨g,j*2+1,none⟩ (F a5 m c5)) (F (some ⟨g,0,none⟩) no c2) no (Ko.set j [E J x.1,F a5 m c5]) O (j+1))/\Hid (((w5.setCell ⟨g,j*2,none⟩ (E J x.1)).setCell ⟨g,j*2+1,none⟩ (F a5 m c5)).heap[w.heap.size]? = some (dE [E J h,F a1 k c1,F (some ⟨g,0,none⟩) no c2].toArray 59 (0,0)))/\Hid (((w5.setCell ⟨g,j*2,none⟩ (E J x.1)).setCell ⟨g,j*2+1,none⟩ (F a5 m c5)).heap[w.heap.size+1]? = some (dE [E J 0,F none 0 0,F none 0 0].toArray 59 (0,0)))/\Hid (ZD w ((w5.setCell ⟨g,j*2,none⟩ (E J x.1)).setCell ⟨g,j*2+1,none⟩ (F a5 m c5)))/\Hid (G<=((w5.setCell ⟨g,j*2,none⟩ (E J x.1)).setCell ⟨g,j*2+1,none⟩ (F a5 m c5)).heap.size)):=by
       intro w5 a5 c5 ac ap;have bk:=Za eo;have ak:=((Gr.refl w5 (λq=>q=g)).one g (j*2) (.inl rfl) (E J x.1)).one g (j*2+1) (.inl rfl) (F a5 m c5);have di:=ac.size;refine⟨?_,Zjp am aq an hx ac ap (aN bk ah.size),?_,?_,?_,?_⟩
       ·exact (bu.keep ac).gr ak (λq e=>by omega) (λq hq e=>own_apart am.own bu.own (by decide) q (by rw[e];rfl) hq)
       ·exact ak.heap (ZE ac bd) (by omega)
       ·exact ak.heap (ZE ac dw) (by omega)
       ·exact ak.below (Zf cg ac) (by have:=aA bd;omega) (λq e=>by omega)
       ·exact aN bk (aN di ak.size)
      have FR:=Zd (λj=>am.free j);have ew:(j:Int)<(no:Int):=(by omega);clear ar bq bb hx eK ah bo;go_wp2_with fail;rw[<-ax];clear ax
      go_region_with (go_at_call 161;refine CO.mono ?_;rintro e w5 ⟨a5,c5,rfl,ap,ac⟩;have ag:=Zf (Zf cf (Zi _)) ac;have HN:=Zd (NX w5 a5 c5 ag ap);have q1:=Ze ac (Ze (Zi _) t2);have q2:=Ze ag r0;have gd:=Ze ag r1;have q3:w5.frozen? ⟨g,j*2,none⟩=false:=(aM (a:=⟨g,j*2,none⟩) (ag.block g bg)).trans (FR _);have gf:w5.frozen? ⟨g,j*2+1,none⟩=false:=(aM (a:=⟨g,j*2+1,none⟩) (ag.block g bg)).trans (FR _);have q4:=aD bg ag.size;have q5:=aD (aA bd) ag.size;clear ap ac ag)
      all_goals
       go_wp2;go_roundw
       case rel=>
        obtain⟨f1,f2,f3,f4,f5,f6⟩:=Za HN;exact⟨j+1,_,by omega,by go_num,f1,f2,f3,f4,f5,f6⟩
       case measure=>simp[intOf];omega
     ·have e:j=no:=(by omega);subst e;obtain⟨s0,s1,s2,sl⟩:=kc3 bd;obtain⟨y0,y1,y2,z0,z1,z2,yl⟩:=kf3 dw
      have R:Hid (Fresh (w.heap.size+2) wr (λw2=>txR.C w2 [E J h,F a1 k c1,F a2 j c2] (h,I,O))):=by
       obtain⟨a',c',e1,h1⟩:=bu.rows ei;obtain⟨fu,fw,e2,h2⟩:=am.rows ei;cases e1;cases e2;exact λw2 g2=>⟨_,_,_,_,_,_,rfl,(h1 w2 g2).1,(h1 w2 g2).2,(h2 w2 g2).1,(h2 w2 g2).2⟩
      clear bu am;go_wp2;(try simp only[Exit.inBlock,Exit.then]);have hG:=((Gr.refl wr (λq=>q=w.heap.size+1)).one (w.heap.size+1) 0 (.inl rfl) (E J h)).one (w.heap.size+1) 1 (.inl rfl) (F a1 k c1) |>.one (w.heap.size+1) 2 (.inl rfl) (F a2 j c2);refine bB (v:=.agg #[E J h,F a1 k c1,F a2 j c2]) ?_ rfl ⟨a1,c1,a2,c2,rfl,(R.on (hG.mono λq _ e=>by omega)).less (by omega),?_⟩
      ·rw[Yf rfl];go_simp
      ·exact hG.below cg (by omega) (λq e=>by omega)
def TxSmall(t:TxD):Prop:=t.2.1.length<=3518437208883/\t.2.2.length<=4398046511104/\(∀ x∈t.2.1,x.2.2.length<=8796093022208)/\∀ x∈t.2.2,x.2.length<=8796093022208
theorem Zmk{G B w0s:Nat}{w0 wr w5:World}{g cap n k:Nat}{K:List (List Value)}{T:List TxD}{x u0 u1 u2}(h:Cl txR 59 B G w0 wr (F (some ⟨g,0,none⟩) n cap) n K T k)(hk:k<T.length)(ae:k<K.length)(hx:T[k]=x)(hb:ZD wr w5)(hf:Fresh w0s w5 (λw2=>txR.C w2 [u0,u1,u2] x))(hG:G<=w0s) :
  Cl txR 59 B G w0 (((w5.setCell ⟨g,k*3,none⟩ u0).setCell ⟨g,k*3+1,none⟩ u1).setCell ⟨g,k*3+2,none⟩ u2) (F (some ⟨g,0,none⟩) n cap) n (K.set k [u0,u1,u2]) T (k+1):=by
 have h5:=h.keep hb;refine h5.step hk ?_ ((((Gr.refl w5 (λq=>q=g)).one g (k*3) (.inl rfl) _).one g (k*3+1) (.inl rfl) _).one g (k*3+2) (.inl rfl) _) ?_
 ·rw[hx];exact hf.less hG
 ·have h1:=(((h5.own.stored (k*3) u0).1.stored (k*3+1) u1).1.stored (k*3+2) u2).1;rw[put3 h5.wid k ae] at h1;exact h1
theorem clTxs_is(aj m c T)(w:World)(hT:TxsAt w aj m T)(sT:SlOk aj m c)(hm:m<=2513169434916)(hs:∀ t∈T,TxSmall t) :
  Calls Tryz.prog 142 #[F aj m c] w λe w'=>∃ a' c',e = dF (F a' m c')/\Fresh w.heap.size w' (λw2=>TxsAt w2 a' m T/\SlOk a' m c')/\ZD w w':=by
 obtain⟨ce,bi,C1⟩:=kh3 hs hT.1 (En aj m c T w w hm hT ⟨rfl,rfl,rfl,aF _,λ_ _=>rfl⟩ sT);clear hT sT hs;go_enter func142,ntmps142;go_wp2_with fail;refine C1.mono ?_;rintro e w3 ⟨v,K1,rfl,hA,ho,bd⟩;obtain⟨a1,c1,rfl,_,_⟩:=Zz ho;obtain⟨G,hG⟩:=ZF (w3.heap.size);have cp:w.heap.size<=G:=by rw[<-hG];exact bd.size
 have bk:Hid (Cl txR 59 w.heap.size G w w3 (F a1 m c1) m K1 T 0):=Cl.start ho hA bi (cO hG);have HB:=Zd bd;have bh:Hid (G<=w3.heap.size):=cO hG.symm;clear hA ho bd hG C1;go_wp2
 go_loopw [9] (λi wr=>∃ (k:Nat) (K:List (List Value)),k<=m/\i = E J k/\Hid (Cl txR 59 w.heap.size G w wr (F a1 m c1) m K T k)/\Hid (ZD w wr)/\Hid (G<=wr.heap.size)) (λi _=>m - (intOf i).toNat)
 case atStart=>exact⟨0,K1,aI _,rfl,bk,HB,bh⟩
 case round=>
  obtain⟨k,K,hk,rfl,aa,ag,cc⟩:=hrel;clear bk HB bh;by_cases cq:k<m
  ·have au:k<T.length:=(by rw[Za bi];exact cq);have af:k<K.length:=(by rw[(Za aa).len];exact au);obtain⟨g,cap,ev,da,db,ar⟩:=aa.form (by omega);cases ev;obtain⟨ai,ni,ci,ao,no,co,eK,hI,sI,hO,sO⟩:=aa.old k au af (aF _);have ad:=ce _ (bE au);obtain⟨x,hx⟩:=ZF (T[k]);rw[hx] at eK hI hO ad;have r0:=aa.cell k af 0 (by decide);have r1:=aa.cell k af 1 (by decide);have r2:=aa.cell k af 2 (by decide);rw[eK] at r0 r1 r2;have r0:wr.cell? ⟨g,k*3,none⟩=some (E J x.1):=r0;have r1:wr.cell? ⟨g,k*3+1,none⟩=some (F ai ni ci):=r1;have r2:wr.cell? ⟨g,k*3+2,none⟩=some (F ao no co):=r2;obtain⟨X1,bs,ap,bt⟩:=ka00 wr [E J x.1,F ai ni ci,F ao no co] 59;obtain⟨b0,b1,b2,bl⟩:=kc3 bt;have cb:=Zd ap;have be:=Zf ag ap;have CO:=Zd (clTx_is x.1 ai ao ni ci no co x.2.1 x.2.2 X1 (hI.later be) (hO.later be) sI sO (by rw[<-hI.1];exact ad.1) (by rw[<-hO.1];exact ad.2.1) ad.2.2.1 ad.2.2.2)
   have NX:Hid (∀ w5 u0 u1 u2,ZD wr w5->Fresh X1.heap.size w5 (λw2=>txR.C w2 [u0,u1,u2] x) ->
     Hid (Cl txR 59 w.heap.size G w (((w5.setCell ⟨g,k*3,none⟩ u0).setCell ⟨g,k*3+1,none⟩ u1).setCell ⟨g,k*3+2,none⟩ u2) (F (some ⟨g,0,none⟩) m c1) m (K.set k [u0,u1,u2]) T (k+1))/\Hid (ZD w (((w5.setCell ⟨g,k*3,none⟩ u0).setCell ⟨g,k*3+1,none⟩ u1).setCell ⟨g,k*3+2,none⟩ u2))/\Hid (G<=(((w5.setCell ⟨g,k*3,none⟩ u0).setCell ⟨g,k*3+1,none⟩ u1).setCell ⟨g,k*3+2,none⟩ u2).heap.size)):=by
    intro w5 u0 u1 u2 ac aq;have br:=Za cc;have bu:=(((Gr.refl w5 (λq=>q=g)).one g (k*3) (.inl rfl) u0).one g (k*3+1) (.inl rfl) u1).one g (k*3+2) (.inl rfl) u2;have cu:=ac.size;refine⟨Zmk aa au af hx ac aq (aN br ap.size),?_,?_⟩
    ·exact bu.below (Zf ag ac) (by have:=ag.size;omega) (λq e=>by omega)
    ·exact aN br (aN cu bu.size)
   have FR:=Zd (λj=>aa.free j);have dd:(k:Int)<(m:Int):=(by omega);clear hI hO sI sO ad hx eK ap bt be;go_wp2_with fail;rw[<-bs];clear bs;(try go_wp2_with fail);refine CO.mono ?_;rintro e w5 ⟨a5,c5,a6,c6,rfl,aq,ac⟩;have ab:=Zf cb ac;have HN:=Zd (NX w5 _ _ _ ab aq);have s0:=Ze ab r0;have s1:=Ze ab r1;have s2:=Ze ab r2;have q3:w5.frozen? ⟨g,k*3,none⟩=false:=(aM (a:=⟨g,k*3,none⟩) (ab.block g ar)).trans (FR _);have df:w5.frozen? ⟨g,k*3+1,none⟩=false:=(aM (a:=⟨g,k*3+1,none⟩) (ab.block g ar)).trans (FR _);have dg:w5.frozen? ⟨g,k*3+2,none⟩=false:=(aM (a:=⟨g,k*3+2,none⟩) (ab.block g ar)).trans (FR _);have q4:=aD ar ab.size;clear aq ac ab;go_wp2;go_roundw
   case rel=>
    obtain⟨f1,f5,f6⟩:=Za HN;exact⟨k+1,_,by omega,by go_num,f1,f5,f6⟩
   case measure=>simp[intOf];omega
  ·have e:k=m:=(by omega);subst e
   have R:Hid (Fresh w.heap.size wr (λw2=>TxsAt w2 a1 k T/\SlOk a1 k c1)):=by
    obtain⟨a',c',e1,h1⟩:=aa.rows cp;cases e1;exact h1
   clear aa;go_wp2;go_ret;exact⟨a1,c1,rfl,Za R,Za ag⟩
theorem clBlock_is(p h k0 o:Int)(ab m c T)(w:World)(hT:TxsAt w ab m T)(sT:SlOk ab m c)(hm:m<=2513169434916)(hs:∀ t∈T,TxSmall t) :
  Calls Tryz.prog 71 #[.agg #[E J p,E J h,E J k0,E J o,F ab m c]] w λe w'=>∃ a' c',e = dF (.agg #[E J p,E J h,E J k0,E J o,F a' m c'])/\Fresh w.heap.size w' (λw2=>blkR.C w2 [E J p,E J h,E J k0,E J o,F a' m c'] (p,h,k0,o,T))/\ZD w w':=by
 obtain⟨X,hX⟩:=ZG ((w.alloc (dE #[E J p,E J h,E J k0,E J o,F ab m c] 39)).alloc (dE #[E J 0,E J 0,E J 0,E J 0,F none 0 0] 39));have ag:ZD w X:=by rw[hX];exact Zf (Zh _ _) (Zh _ _)
 have af:X.heap[w.heap.size]? = some (dE [E J p,E J h,E J k0,E J o,F ab m c].toArray 39 (0,0)):=by
  rw[hX,Below.heap_alloc _ _ _ (by simp)];exact Zx _ _ _ _ _ _ _
 have au:X.heap.size=w.heap.size+2:=by rw[hX];simp
 have ar:X.heap[w.heap.size+1]? = some (dE [E J 0,E J 0,E J 0,E J 0,F none 0 0].toArray 39 (0,0)):=by
  rw[hX];have:=Zx (w.alloc (dE #[E J p,E J h,E J k0,E J o,F ab m c] 39)) (E J 0) (E J 0) (E J 0) (E J 0) (F none 0 0) 39;rw[show (w.alloc (dE #[E J p,E J h,E J k0,E J o,F ab m c] 39)).heap.size=w.heap.size+1 by simp] at this;exact this
 obtain⟨ah,aj,ak,am,C1⟩:=kh5 ag af ar au (clTxs_is ab m c T X (hT.later ag) sT hm hs);obtain⟨-,-,-,-,x4,xl⟩:=kc5 af;clear ag af ar hT sT hs au;go_enter func71,ntmps71;go_wp2_with fail;rw[<-hX];clear hX;(try go_wp2_with fail);refine C1.mono ?_;rintro e w3 ⟨a1,c1,rfl,av,ae⟩;have h30:=ZE ae aj;have h31:=ZE ae ak;obtain⟨s0,s1,s2,s3,d4,-,-,-,-,z9,dl⟩:=kf5 h30;obtain⟨y0,y1,y2,y3,y4,z0,z1,z2,z3,z4,yl⟩:=kf5 h31;obtain⟨ax,HF⟩:=kh2 (Zf ah ae) av;clear av ae h30 h31 C1 aj ak ah x4 xl;go_wp2;(try simp only[Exit.inBlock,Exit.then]);have hG:=((((((Gr.refl w3 (λq=>q=w.heap.size\/q=w.heap.size+1)).one w.heap.size 4 (.inl (.inl rfl)) (F a1 m c1)).one (w.heap.size+1) 0 (.inl (.inr rfl)) (E J p)).one (w.heap.size+1) 1 (.inl (.inr rfl)) (E J h)).one (w.heap.size+1) 2 (.inl (.inr rfl)) (E J k0)).one (w.heap.size+1) 3 (.inl (.inr rfl)) (E J o)).one (w.heap.size+1) 4 (.inl (.inr rfl)) (F a1 m c1);refine bB (v:=.agg #[E J p,E J h,E J k0,E J o,F a1 m c1]) ?_ rfl ⟨a1,c1,rfl,?_,?_⟩
 ·rw[Yf rfl];go_simp
 ·refine ((Fresh.imp HF λw2 h=>⟨_,_,_,rfl,h.1,h.2⟩).on (hG.mono λq _ e=>by have:=Za am;omega)).less (by have:=Za am;omega)
 ·exact hG.below ax (by omega) (λq e=>by omega)
