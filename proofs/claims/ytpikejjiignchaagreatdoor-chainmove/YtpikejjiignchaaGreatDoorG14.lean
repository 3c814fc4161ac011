import Derived.Test.YtpikejjiignchaaGreatDoorH
import Derived.Laws.AppendOwnNone
import Derived.Deep.AppendLies
import Derived.Test.YtpikejjiignchaaGreatDoorG5
open Go.Proofs.Tryz
open Go renaming TypeId->bO,lt_of_block->aA,maxLen->cD,DataW->dA,heap_alloc_new->aK,bodyPost_ret->aR
open Go.Ending renaming returned->dX
open Go.IntKind renaming i64->J
open Go.Obj renaming cells->dW
open Go.Proofs.Tryz renaming prog->aB,underlying9->dU,underlying3->aG
open Go.RowKit renaming Below->aD
open Go.Value renaming string->cE,int->E,slice->F,tuple->dY,pointer->dZ,bool->eA
open Go.World renaming block_lt_of_cell?->aC,cell?->dI
open List renaming drop_eq_getElem_cons->aN,take_succ_eq_append_getElem->aM,drop_of_length_le->cB,append_assoc->cV,length_eq_zero_iff->aJ
open Nat renaming le_refl->aE,le_trans->aT,zero_le->aP,le_succ->bZ
open Prod.mk renaming injEq->cJ
set_option maxHeartbeats 3200000
set_option maxRecDepth 10000
namespace Go.Proofs.YtpikejjiignchaaGreatDoor.Bk
def place(s:ByteArray):List ByteArray->Nat
 | []=>0
 | x :: r=>if x=s then 1 else if place s r=0 then 0 else place s r+1
theorem place_zero{s:ByteArray}:∀ {L:List ByteArray},place s L=0↔s∉L
 | []=>by simp[place]
 | x :: r=>by
  unfold place;have O:=place_zero (s:=s) (L:=r);by_cases h:x=s
  ·simp[h]
  ·have h':¬s=x:=λe=>h e.symm;rw[if_neg h];by_cases z:place s r=0
   ·rw[if_pos z];simp[h',O.1 z]
   ·rw[if_neg z]
    have:s∈r:=by
     rcases Classical.em (s∈r) with m|m
     ·exact m
     ·exact absurd (O.2 m) z
    simp[this]
theorem Zay(s:ByteArray):∀ L:List ByteArray,place s L<=L.length
 | []=>by simp[place]
 | x :: r=>by
  unfold place;have:=Zay s r;split
  ·simp
  ·split
   ·simp
   ·simp;exact this
theorem Vc(s:ByteArray):∀ (L M:List ByteArray),place s (L++M)=if place s L=0 then (if place s M=0 then 0 else L.length+place s M) else place s L
 | [],M=>by
  have e:place s []=0:=rfl;rw[e,if_pos rfl,List.nil_append];by_cases z:place s M=0
  ·rw[if_pos z];exact z
  ·rw[if_neg z];simp
 | x :: r,M=>by
  have O:place s (x :: r)=if x=s then 1 else if place s r=0 then 0 else place s r+1:=rfl
  have e2:place s ((x :: r)++M)=if x=s then 1 else if place s (r++M)=0 then 0 else place s (r++M)+1:=rfl
  rw[e2,Vc s r M];by_cases hx:x=s
  ·rw[if_pos hx] at *;rw[O];simp
  ·rw[if_neg hx] at *;by_cases hr:place s r=0
   ·rw[if_pos hr] at O;rw[O,hr];by_cases z:place s M=0
    ·simp[z]
    ·simp only[z,if_true,if_false,List.length_cons];rw[if_neg (by omega)];omega
   ·rw[if_neg hr] at O;rw[O,if_neg hr,if_neg hr,if_neg (by omega)]
theorem Nc{s:ByteArray}{L:List ByteArray}(h:s∉L):place s (L++[s])=L.length+1:=by
 rw[Vc,if_pos (place_zero.2 h)];simp[place]
theorem Zax{s t:ByteArray}(L)(h:s≠t):place s (L++[t])=place s L:=by
 rw[Vc];have e:place s [t]=0:=by rw[place_zero];simp[h]
 rw[e];split
 ·rw[if_pos rfl];rename_i z;exact z.symm
 ·rfl
theorem Rj(s:ByteArray):∀ (L:List ByteArray) (k:Nat),place s (L.take k)=if place s L<=k then place s L else 0
 | [],k=>by simp[place]
 | x :: r,0=>by
  have e:place s (List.take 0 (x :: r))=0:=rfl;rw[e];split <;> omega
 | x :: r,k+1=>by
  have z:place s (x :: r)=if x=s then 1 else if place s r=0 then 0 else place s r+1:=rfl
  have e2:place s ((x :: r).take (k+1))=if x=s then 1 else if place s (r.take k)=0 then 0 else place s (r.take k)+1:=rfl
  rw[e2,Rj s r k];by_cases hx:x=s
  ·rw[if_pos hx] at *;rw[z,if_pos (by omega)]
  ·rw[if_neg hx] at *;by_cases O:place s r=0
   ·rw[if_pos O] at z;rw[z,O];simp
   ·rw[if_neg O] at z;rw[z];by_cases hk:place s r<=k
    ·rw[if_pos hk,if_neg O,if_pos (by omega)]
    ·rw[if_neg hk,if_pos rfl,if_neg (by omega)]
theorem Zlb{L:List ByteArray}{k:Nat}(h:k<L.length):0<place L[k] L/\place L[k] L<=k+1:=by
 have h1:0<place L[k] L:=by
  rcases Nat.eq_zero_or_pos (place L[k] L) with e|e
  ·exact absurd (List.getElem_mem h) (place_zero.1 e)
  ·exact e
 refine⟨h1,?_⟩;have h2:=Rj L[k] L (k+1);by_cases h3:place L[k] L<=k+1
 ·exact h3
 ·rw[if_neg h3,place_zero] at h2;exact absurd (List.mem_take_iff_getElem.2 ⟨k,Nat.lt_min.2 ⟨Nat.lt_succ_self k,h⟩,rfl⟩) h2
def Tv(z:List ByteArray):List ByteArray->Int
 | []=>0
 | s :: r=>if 4000<s.size then 2 else if place s z≠0 then 6 else Tv (z++[s]) r
def bkChk(L:List ByteArray):Int:=if 120<L.length then 2 else Tv [] L
theorem Zpu{L:List ByteArray}{k:Nat}(h:k<L.length):Tv (L.take k) (L.drop k)=if 4000<L[k].size then 2 else if place L[k] (L.take k)≠0 then 6 else Tv (L.take (k+1)) (L.drop (k+1)):=by
 rw[aN h,Tv,aM h]
theorem Znf{L:List ByteArray}{k:Nat}(h:L.length<=k):Tv (L.take k) (L.drop k)=0:=by
 rw[cB h];rfl
theorem Bb:∀ (L z:List ByteArray),Tv z L=0->z.Nodup->(z++L).Nodup/\∀ s∈L,s.size<=4000
 | [],z,_,hs=>by simpa using hs
 | s :: r,z,h,hs=>by
  unfold Tv at h;by_cases h1:4000<s.size
  ·rw[if_pos h1] at h;omega
  ·rw[if_neg h1] at h;by_cases h2:place s z≠0
   ·rw[if_pos h2] at h;omega
   ·rw[if_neg h2] at h;have h3:s∉z:=place_zero.1 (by omega)
    have hn:(z++[s]).Nodup:=by
     rw[List.nodup_append];exact⟨hs,by simp,λa ha b hb=>by simp at hb;subst hb;exact λe=>h3 (e ▸ ha)⟩
    have ih:=Bb r (z++[s]) h hn;rw[cV] at ih;refine⟨ih.1,λx O=>?_⟩
    rcases List.mem_cons.1 O with rfl|O
    ·omega
    ·exact ih.2 x O
theorem D6:∀ (L z:List ByteArray),(z++L).Nodup->(∀ s∈L,s.size<=4000)->Tv z L=0
 | [],_,_,_=>rfl
 | s :: r,z,hn,hs=>by
  unfold Tv;have h1:¬4000<s.size:=by have:=hs s (by simp);omega
  have h2:s∉z:=by
   intro O;rw[List.nodup_append] at hn;exact hn.2.2 s O s (by simp) rfl
  rw[if_neg h1,if_neg (by rw[place_zero.2 h2];decide)];refine D6 r (z++[s]) (by rw[cV];exact hn) (λx hx=>hs x (by simp[hx]))
def Right(L:List ByteArray):Prop:=L.length<=120/\L.Nodup/\∀ s∈L,s.size<=4000
theorem right_iff(L):bkChk L=0↔Right L:=by
 unfold bkChk Right;by_cases h:120<L.length
 ·rw[if_pos h];constructor
  ·intro e;omega
  ·intro ⟨e,_⟩;omega
 ·rw[if_neg h];constructor
  ·intro e;have:=Bb L [] e List.nodup_nil;exact⟨by omega,this.1,this.2⟩
  ·intro ⟨_,h1,h2⟩;exact D6 L [] h1 h2
def nm(L:List ByteArray)(s:ByteArray):List ByteArray×Int×Int:=
 if 4000<s.size then ([],0,2) else if place s L≠0 then (L,(place s L:Int),0) else if 120<=L.length then ([],0,12) else (L++[s],L.length+1,0)
def nmGo(L:List ByteArray)(N:List Int):List ByteArray->List ByteArray×List Int×Int
 | []=>(L,N,0)
 | s :: r=>if (nm L s).2.2=0 then nmGo (nm L s).1 (N++[(nm L s).2.1]) r else ([],[],(nm L s).2.2)
theorem Nn{L}{s:ByteArray}(h:Right L)(h0:(nm L s).2.2=0):Right (nm L s).1:=by
 unfold nm at *;by_cases h1:4000<s.size
 ·rw[if_pos h1] at h0;cases h0
 ·rw[if_neg h1] at *;by_cases h2:place s L≠0
  ·rw[if_pos h2] at *;exact h
  ·rw[if_neg h2] at *;by_cases h3:120<=L.length
   ·rw[if_pos h3] at h0;cases h0
   ·rw[if_neg h3] at *;have h4:s∉L:=place_zero.1 (by omega);refine⟨by simp;omega,?_,λx z=>?_⟩
    ·rw[List.nodup_append];exact⟨h.2.1,by simp,λa ha b O=>by simp at O;subst O;exact λe=>h4 (e ▸ ha)⟩
    ·rcases List.mem_append.1 z with z|z
     ·exact h.2.2 x z
     ·simp at z;subst z;omega
theorem Zlo{L}{s:ByteArray}(h0:(nm L s).2.2=0):∃ M,(nm L s).1=L++M:=by
 unfold nm at *;by_cases h1:4000<s.size
 ·rw[if_pos h1] at h0;cases h0
 ·rw[if_neg h1] at *;by_cases h2:place s L≠0
  ·rw[if_pos h2];exact⟨[],by simp⟩
  ·rw[if_neg h2] at *;by_cases h3:120<=L.length
   ·rw[if_pos h3] at h0;cases h0
   ·rw[if_neg h3];exact⟨[s],rfl⟩
theorem nm_place{L}{s:ByteArray}(h0:(nm L s).2.2=0):(nm L s).2.1=(place s (nm L s).1:Int)/\0<place s (nm L s).1/\s.size<=4000:=by
 unfold nm at *;by_cases h1:4000<s.size
 ·rw[if_pos h1] at h0;cases h0
 ·rw[if_neg h1] at *;by_cases h2:place s L≠0
  ·rw[if_pos h2];exact⟨rfl,by show 0<place s L;omega,by omega⟩
  ·rw[if_neg h2] at *;by_cases h3:120<=L.length
   ·rw[if_pos h3] at h0;cases h0
   ·rw[if_neg h3];have h4:s∉L:=place_zero.1 (by omega);show (L.length:Int)+1=_/\_;simp only[Nc h4];exact⟨by simp,by omega,by omega⟩
theorem nmGo_grows:∀ (l:List ByteArray) (L:List ByteArray) (N:List Int),(nmGo L N l).2.2=0->∃ M,(nmGo L N l).1=L++M
 | [],L,N,_=>⟨[],by simp[nmGo]⟩
 | s :: r,L,N,h=>by
  unfold nmGo at *;by_cases h0:(nm L s).2.2=0
  ·rw[if_pos h0] at *;obtain⟨M,O⟩:=Zlo h0;obtain⟨K,z⟩:=nmGo_grows r _ _ h;exact⟨M++K,by rw[z,O,cV]⟩
  ·rw[if_neg h0] at *;exact absurd h h0
theorem nmGo_right:∀ (l:List ByteArray) (L:List ByteArray) (N:List Int),Right L->(nmGo L N l).2.2=0->Right (nmGo L N l).1
 | [],L,N,hR,_=>hR
 | s :: r,L,N,hR,h=>by
  unfold nmGo at *;by_cases h0:(nm L s).2.2=0
  ·rw[if_pos h0] at *;exact nmGo_right r _ _ (Nn hR h0) h
  ·rw[if_neg h0] at *;exact absurd h h0
theorem place_stays{s:ByteArray}{L}(M)(h:0<place s L):place s (L++M)=place s L:=by
 rw[Vc,if_neg (by omega)]
open Go.RowKit Go.Maps
theorem Zb{p:Prop}(h:p):Hid p:=h
theorem Za{p:Prop}(h:Hid p):p:=h
theorem Ze{w z w2:World}(h1:aD w.heap.size w z)(h2:aD z.heap.size z w2):aD w.heap.size w w2:=h1.trans (h2.mono h1.size)
theorem Zg(w:World)(o:Obj):aD w.heap.size w (w.alloc o):=(Below.refl _ _).alloc (aE _) _
theorem G6(w:World)(n:Nat):aD w.heap.size w (w.drewN n):=⟨rfl,rfl,rfl,aE _,λ_ _=>rfl⟩
theorem Zc{w w':World}{p v}(z:aD w.heap.size w w')(h:w.cell? p=some v):w'.cell? p=some v:=by
 rw[z.cell (p:=p) (aC _ _ h)];exact h
theorem Sc(w:World)(x)(t:bO):(w.alloc (dW #[x] t)).cell? ⟨w.heap.size,0,none⟩=some x:=by
 rw[World.cell?_alloc_at _ _ _ _ rfl];rfl
def TextsAt(w:World)(a:Option Addr)(len:Nat)(L:List ByteArray):Prop:=
 L.length=len/\(0<len->∃ b off,a=some ⟨b,off,none⟩/\∀ i (h:i<L.length),w.cell? ⟨b,off+i,none⟩=some (.string L[i]))
theorem TextsAt.later{w w':World}{a len L}(h:TextsAt w a len L)(z:aD w.heap.size w w'):TextsAt w' a len L:=by
 refine⟨h.1,λh0=>?_⟩;obtain⟨b,off,e,O⟩:=h.2 h0;exact⟨b,off,e,λi hi=>Zc z (O i hi)⟩
theorem TextsAt.nil(w)(a):TextsAt w a 0 []:=⟨rfl,λh=>absurd h (by omega)⟩
theorem TextsAt.lt{w:World}{a len L}(h:TextsAt w a len L)(x:Addr)(O:a=some x)(h0:0<len):x.block<w.heap.size:=by
 obtain⟨b,off,e,z⟩:=h.2 h0;have hz:=h.1;rw[O] at e;cases e;exact aC _ _ (z 0 (by omega))
theorem Qr{w:World}{base:Nat}{e:bO}{size:Nat}{v:Value}{n:Nat}{xs}(h:w.ownsRow base e size v n xs)(k:Nat)(z:v.ownBlock=some k):base<=k:=by
 rcases h.2 with ⟨rfl,_⟩|⟨g,cap,aa,rfl,O,_⟩
 ·cases z
 ·cases z;exact O
theorem Ve{w w':World}{base:Nat}{e:bO}{size:Nat}{v}{n:Nat}{xs}(h:w.ownsRow base e size v n xs)(hk:∀ (k:Nat) (cs:Array Value),base<=k->w.heap[k]? = some (dW cs e (0,0))->w'.heap[k]? = w.heap[k]?):w'.ownsRow base e size v n xs:=by
 obtain⟨hl,h0|⟨g,cap,z,hv,O,hh,r⟩⟩:=h
 ·exact⟨hl,.inl h0⟩
 ·exact⟨hl,.inr ⟨g,cap,z,hv,O,(hk g z O hh).trans hh,r⟩⟩
theorem Hs{w w':World}{base:Nat}{e:bO}{size:Nat}{v:Value}{n:Nat}{xs}(h:w.ownsRow base e size v n xs)(hg:w.grownBy w' v.ownBlock)(k:Nat)(cs)(t:bO)(hk:w.heap[k]? = some (dW cs t (0,0)))(ht:t≠e):w'.heap[k]? = w.heap[k]?:=by
 refine hg.block k (aA hk) (λO=>?_);obtain⟨_,⟨rfl,_⟩|⟨g,cap,ae,rfl,_,z,_⟩⟩:=h
 ·cases O
 ·have e2:k=g:=by injection O
  subst e2;rw[hk] at z;injection z with z;injection z with _ z;exact ht z
theorem Va{w:World}{base:Nat}{v}{n:Nat}{L:List ByteArray}(h:w.ownsRow base 9 1 v n (L.map cE)):∃ a cap,v = F a n cap/\n<=cap/\cap<=cD/\(a=none->n=0/\cap=0)/\TextsAt w a n L:=by
 have z:L.length=n:=by have:=h.1;simpa using this
 rcases h.2 with ⟨rfl,rfl⟩|⟨g,cap,O,rfl,_,_,h1,h2,_,_⟩
 ·have e:L=[]:=aJ.1 z;subst e;exact⟨none,0,rfl,aE _,by unfold cD;omega,λ_=>⟨rfl,rfl⟩,TextsAt.nil _ _⟩
 ·refine⟨_,cap,rfl,h1,h2,λe=>(by cases e),z,λ_=>⟨g,0,rfl,λi hi=>?_⟩⟩;rw[Nat.zero_add,World.ownsRow.cellAt h i (by omega)];simp[hi]
theorem Xc(n lo hi:Int)(b:Bool)(w)(z:b=(decide (lo<=n) && decide (n<=hi))) :
  Calls aB 114 #[E J n,E J lo,E J hi] w λe w'=>e = dX (eA b)/\w=w':=by
 by_cases h1:lo<=n
 ·by_cases h2:n<=hi
  ·have e:b=true:=(by rw[z];simp[h1,h2]);subst e;clear z;go_enter func114,ntmps114;go_wp2;go_ret;exact⟨rfl,rfl⟩
  ·have e:b=false:=(by rw[z];simp[h2]);have h4:decide (n<=hi)=false:=(by simp;omega);have h5:hi<n:=(by omega);subst e;clear z h2;go_enter func114,ntmps114;go_wp2;go_ret;exact⟨rfl,rfl⟩
 ·have e:b=false:=by rw[z];simp[h1]
  have h5:n<lo:=by omega
  subst e;clear z h1;go_enter func114,ntmps114;go_wp2;go_ret;exact⟨rfl,rfl⟩
theorem Tryz.info9:(Tryz.prog.info? 9).map (λi=>(i.zero,i.size,i.bytes))=some (some (.string ⟨#[]⟩),1,16):=by kernel_rfl
theorem Tryz.infoInt:(Tryz.prog.info? 3).map (λi=>(i.zero,i.size,i.bytes))=some (some (E J 0),1,8):=by kernel_rfl
theorem key9:Keyed aB 9:=string_keyed dU
theorem Xt(w):(zeroValue 3).run aB w = .ok (E J 0) w:=by kernel_rfl
open Go.RowKit Go.Maps
abbrev Cb(s:ByteArray):Lit:=.string s.data.toList
abbrev Ho(n:Int):dA Unit:=.lit (.int .i64 n)
structure Wr(base p bm:Nat)(wr:World)(v:Value)(D:dA Unit)(L:List ByteArray):Prop where
 box:wr.heap[p]? = some (dW #[v,.map (some bm)] 193 (0,0))
 pge:base<=p
 mge:base<=bm
 own:wr.ownsRow base 9 1 v L.length (L.map cE)
 map:wr.ownsMap aB 9 (plainElem (H:=Unit) aB 3) bm L.length D
 ism:IsMap D
 names:∀ s:ByteArray,D.atKey (Cb s) (Ho 0)=Ho (place s L:Nat)
def Far(w w':World):Prop:=∀ (k:Nat) (cs:Array Value) (t:bO),w.heap[k]? = some (dW cs t (0,0))->t≠9->t≠193->w'.heap[k]? = w.heap[k]?
theorem Far.refl(w):Far w w:=λ_ _ _ _ _ _=>rfl
theorem Far.trans{a b c}(h:Far a b)(g:Far b c):Far a c:=λk cs t z h1 h2=>(g k cs t ((h k cs t z h1 h2).trans z) h1 h2).trans (h k cs t z h1 h2)
theorem Zoy{w w':World}(h:aD w.heap.size w w'):Far w w':=λk _ _ z _ _=>h.block k (aA z)
theorem Wr.keep{base p bm:Nat}{w w':World}{v}{D:dA Unit}{L}(h:Wr base p bm w v D L)(z:aD w.heap.size w w'):Wr base p bm w' v D L:=by
 refine⟨(z.block p (aA h.box)).trans h.box,h.pge,h.mge,Ve h.own (λk cs _ hk=>z.block k (aA hk)),?_,h.ism,h.names⟩;obtain⟨es,O,h1,r⟩:=h.map;exact⟨es,O,(z.block bm (aA h1)).trans h1,r⟩
theorem Wr.cell0{base p bm:Nat}{w:World}{v}{D:dA Unit}{L}(h:Wr base p bm w v D L):w.cell? ⟨p,0,none⟩=some v/\w.cell? ⟨p,1,none⟩=some (.map (some bm))/\w.frozen? ⟨p,0,none⟩=false:=by
 refine⟨?_,?_,?_⟩
 ·simp[dI,h.box]
 ·simp[dI,h.box]
 ·simp[World.frozen?,h.box]
theorem Zig{D:dA Unit}{L:List ByteArray}{s:ByteArray}(z:IsMap D)(h:∀ s:ByteArray,D.atKey (Cb s) (Ho 0)=Ho (place s L:Nat))(hs:s∉L) :
  ∀ x:ByteArray,(D.put (Cb s) (Ho ((L.length:Int)+1))).atKey (Cb x) (Ho 0)=Ho (place x (L++[s]):Nat):=by
 intro x;by_cases e:x=s
 ·subst e;rw[atKey_put_same z (by simp[WideAt.IsKeyLit]),Nc hs];simp
 ·have O:Cb x≠Cb s:=by
   intro h2
   apply e
   have h3:x.data.toList=s.data.toList:=(by injection h2);have h4:x.data=s.data:=(by rw[<-Array.toList_inj];exact h3);cases x;cases s;simp_all
  rw[atKey_put_other O,h x,Zax L e]
theorem Ft(w:World)(p:Nat)(x y v)(t:bO)(h:w.heap[p]? = some (dW #[x,y] t (0,0))):(w.setCell ⟨p,0,none⟩ v).heap[p]? = some (dW #[v,y] t (0,0)):=by
 rw[heap_setCell_same w p 0 #[x,y] t v h];rfl
structure Mid(base p bm:Nat)(X Y:World)(v:Value)(D:dA Unit)(L:List ByteArray)(s:ByteArray):Prop where
 box:Y.heap[p]? = some (dW #[v,.map (some bm)] 193 (0,0))
 own:Y.ownsRow base 9 1 v (L.length+1) ((L++[s]).map cE)
 map:Y.ownsMap aB 9 (plainElem (H:=Unit) aB 3) bm L.length D
 bel:aD base X Y
 far:Far X Y
theorem Wr.mid{base p bm:Nat}{X w3:World}{v v3:Value}{D:dA Unit}{L:List ByteArray}{s:ByteArray}(h:Wr base p bm X v D L)
  (aj:w3.ownsRow base 9 1 v3 (L.length+1) (L.map cE++[.string s])) (hg:X.grownBy w3 v.ownBlock):Mid base p bm X (w3.setCell ⟨p,0,none⟩ v3) v3 D L s:=by
 have ak:=aA h.box;have ah:base<=X.heap.size:=aT h.pge (Nat.le_of_lt ak);have far:∀ (k:Nat) (cs:Array Value) (t:bO),X.heap[k]? = some (dW cs t (0,0))->t≠9->w3.heap[k]? = X.heap[k]?:=λk cs t z ht=>Hs h.own hg k cs t z ht;have ac:w3.heap[p]? = some (dW #[v,.map (some bm)] 193 (0,0)):=(far _ _ _ h.box (by decide)).trans h.box;have O:∀ (k:Nat),k≠p->(w3.setCell ⟨p,0,none⟩ v3).heap[k]? = w3.heap[k]?:=λk z=>heap_setCell_other w3 ⟨p,0,none⟩ k v3 z;refine⟨Ft w3 p v _ v3 _ ac,?_,?_,?_,?_⟩
 ·rw[List.map_append];refine Ve aj (λk cs _ z=>O k (λe=>?_));subst e;rw[ac] at z;injection z with z;injection z with _ z;exact absurd z (by decide)
 ·obtain⟨es,ae,h1,r⟩:=h.map
  have ai:some bm≠v.ownBlock:=by
   intro e;obtain⟨_,⟨rfl,_⟩|⟨g,cap,am,rfl,_,hh,_⟩⟩:=h.own
   ·cases e
   ·have e2:bm=g:=(by injection e);subst e2;rw[h1] at hh;cases hh
  have h3:w3.heap[bm]? = X.heap[bm]?:=hg.block bm (aA h1) ai
  have hp:bm≠p:=by
   intro e;subst e;rw[h.box] at h1;cases h1
  exact⟨es,ae,(O bm hp).trans (h3.trans h1),r⟩
 ·exact ((Below.refl base X).grown hg ah (λk z=>Qr h.own k z)).setCell h.pge _
 ·intro k cs t z h9 h50
  have hp:k≠p:=by
   intro e;subst e;rw[h.box] at z;injection z with z;injection z with _ z;exact h50 z.symm
  exact (O k hp).trans (far k cs t z h9)
theorem Mid.wr{base p bm:Nat}{X Y O:World}{v}{D:dA Unit}{L:List ByteArray}{s:ByteArray}(h:Mid base p bm X Y v D L s)(hm:IsMap D)(hp:base<=p)(hb:base<=bm)(hs:s∉L)
  (names:∀ s:ByteArray,D.atKey (Cb s) (Ho 0)=Ho (place s L:Nat))
  (ai:O.ownsMap aB 9 (plainElem (H:=Unit) aB 3) bm (L.length+1) (D.put (Cb s) (Ho ((L.length:Int)+1)))) (hg:Y.grownBy O (some bm)) :
  Wr base p bm O v (D.put (Cb s) (Ho ((L.length:Int)+1))) (L++[s])/\aD base X O/\Far X O:=by
 have kept:∀ (k:Nat) (cs:Array Value) (t:bO),Y.heap[k]? = some (dW cs t (0,0))->O.heap[k]? = Y.heap[k]?:=λk cs t z=>hg.block k (aA z) (λe=>by
  have e2:k=bm:=by injection e
  subst e2;obtain⟨es,ak,h1,_⟩:=h.map;rw[h1] at z;cases z)
 have hl:(L++[s]).length=L.length+1:=by simp
 have ag:base<=Y.heap.size:=aT hp (Nat.le_of_lt (aA h.box));refine⟨⟨(kept _ _ _ h.box).trans h.box,hp,hb,?_,?_,?_,Zig hm names hs⟩,?_,?_⟩
 ·rw[hl];exact Ve h.own (λk cs _ z=>kept k cs _ z)
 ·rw[hl];exact ai
 ·obtain⟨es,rfl⟩:=hm;exact⟨_,rfl⟩
 ·exact h.bel.trans ((Below.refl base Y).grown hg ag (λk z=>by injection z with z;omega))
 ·exact λk cs t z h9 h50=>(kept k cs t ((h.far k cs t z h9 h50).trans z)).trans (h.far k cs t z h9 h50)
open Go.RowKit Go.Maps
theorem add_is(base p bm:Nat)(v)(D:dA Unit)(L:List ByteArray)(s:ByteArray)(w)(O:Wr base p bm w v D L)(hL:L.length<=120)(hs:s∉L)(hz:s.size<=4000) :
  Calls aB 118 #[.pointer (some ⟨p,0,none⟩),.string s] w λe w'=>e = dX (.int .i64 ((L.length:Int)+1))/\(∃ v' D',Wr base p bm w' v' D' (L++[s]))/\aD base w w'/\Far w w':=by
 obtain⟨i0,hi,bi,bj,bk⟩:=info_parts Tryz.info9;have bh:=aA O.box;have ap:base<=w.heap.size:=aT O.pge (Nat.le_of_lt bh);obtain⟨X,hX⟩:=ZG (w.alloc (dW #[.string s] 9));have ae:aD w.heap.size w X:=by rw[hX];exact Zg _ _
 have bf:X.heap.size=w.heap.size+1:=by rw[hX];simp
 have ar:X.heap[w.heap.size]? = some (dW #[.string s] 9 (0,0)):=by rw[hX];exact aK _ _
 have WX:=O.keep ae;obtain⟨c0,c1,cf⟩:=O.cell0;have bb:=Zb (World.news_of_block ar);obtain⟨a,cap,rfl,-,-,-,-⟩:=Va O.own;have bc:=Zb WX.own;have z:=Zb WX;have HL:=Zb hL;have HS:=Zb hs;have HZ:=Zb hz;have ai:=Zb ae;have HB:=Zb ap;have ak:=Zb bf;clear WX ae ar hL hs hz O ap;subst hX;go_enter func118,ntmps118
 go_wp2_with (at_builtin;refine wpList_append_lies _ rfl _ _ 22 rfl base 9 i0 (.string ⟨#[]⟩) 1 16 underlying22 hi bi bj bk rfl (by decide) _ _ _ rfl bc ⟨w.heap.size,0,none⟩ 1 1 [.string s] rfl rfl bb (λu hu=>by simp at hu;subst hu;rfl) (by decide) (by have:=Za HL;unfold cD;omega) (by have:=Za HL;omega) (by have:=Za HB;have:=Za ak;omega) (w.heap.size+1) ak ?_;intro g al w3 au ag bg bx;have M:=z.mid au ag;have af:=(Hs z.own ag p _ _ z.box (by decide)).trans z.box;have d0:w3.cell? ⟨p,0,none⟩=some (F a L.length cap):=(by simp[dI,af]);have df:w3.frozen? ⟨p,0,none⟩=false:=(by simp[World.frozen?,af]);have HM:=Zb M;clear M af au ag bg)
 obtain⟨Y,hY⟩:=ZG (w3.setCell ⟨p,0,none⟩ (F (some ⟨g,0,none⟩) (L.length+1) al));rw[<-hY] at HM ⊢;have M:=Za HM;have e0:Y.cell? ⟨p,0,none⟩=some (F (some ⟨g,0,none⟩) (L.length+1) al):=by simp[dI,M.box]
 have e1:Y.cell? ⟨p,1,none⟩=some (.map (some bm)):=by simp[dI,M.box]
 have hD:Y.drew.ownsMap aB 9 (plainElem (H:=Unit) aB 3) bm L.length D:=M.map.drew;obtain⟨w4,bz,av,aa⟩:=hD.update key9 underlying191 (by have:=Za HL;unfold cD;omega) (Go.WideMaps.keyOf_string_mk dU (s:=s) (by have:=Za HZ;unfold cD;omega)) (plainElem_int (H:=Unit) aG (q:=.i64) (a:=(L.length:Int)+1) (by have:=Za HL;simp[Lit.wf,IntKind.min,IntKind.max,IntKind.signed,IntKind.bits];omega));have aq:Y.grownBy w4 (some bm):=⟨aa.1,aa.2,aa.3,aa.4,aa.5⟩;have R:=Zb (M.wr z.ism z.pge z.mge HS z.names av aq);obtain⟨f0,f1,f2⟩:=R.1.cell0;clear hY M hD av aa aq d0 df
 go_region
 go_wp2;go_ret;exact⟨rfl,⟨_,_,R.1⟩,(ai.mono HB).trans R.2.1,(Zoy ai).trans R.2.2⟩
theorem Zon{a b:Int}(h:Ho a=Ho b):a=b:=by
 injection h with h;injection h
theorem Wr.look{base p bm:Nat}{w v}{D:dA Unit}{L}(h:Wr base p bm w v D L)(s:ByteArray)(hs:s.size<=4000) :
  Sem.run aB (Instr.lookup 191 (.map (some bm)) (.string s) false) w = .ok (.int .i64 (place s L:Nat)) w:=by
 obtain⟨c,O,z,_⟩:=h.map.lookup_int key9 underlying191 aG (Xt w) (Go.WideMaps.keyOf_string_mk dU (s:=s) (by unfold cD;omega))
 have e:c=(place s L:Nat):=by
  have h2:=h.names s;rw[h2] at z;exact (Zon z).symm
 subst e;exact O
theorem Zoj(base p bm:Nat)(v)(D:dA Unit)(L M:List ByteArray)(s:ByteArray)(n e:Int)(w)(hW:Wr base p bm w v D L)(hL:L.length<=120)(z:nm L s=(M,n,e)) :
  Calls aB 128 #[.pointer (some ⟨p,0,none⟩),.string s] w λx w'=>x = dX (.tuple #[.int .i64 n,.int .i64 e])/\(e=0->∃ v' D',Wr base p bm w' v' D' M)/\aD base w w'/\Far w w':=by
 obtain⟨c0,c1,cf⟩:=hW.cell0;have ag:=hW;obtain⟨a,cap,rfl,-,-,-,-⟩:=Va hW.own;have HW:=Zb ag;clear hW ag;by_cases h1:4000<s.size
 ·have O:nm L s=([],0,2):=by unfold nm;rw[if_pos h1]
  rw[O] at z;obtain⟨rfl,aa⟩:=cJ .. ▸ z;obtain⟨rfl,rfl⟩:=cJ .. ▸ aa;have g:(4000:Int)<(s.size:Int):=by omega
  clear z aa O h1;go_enter func128,ntmps128;go_wp2;go_ret2;exact⟨rfl,λh=>absurd h (by decide),Below.refl _ _,Far.refl _⟩
 ·have hz:s.size<=4000:=by omega
  have g:¬(4000:Int)<(s.size:Int):=by omega
  have ak:=HW.look s hz;by_cases h2:place s L≠0
  ·have O:nm L s=(L,(place s L:Int),0):=(by unfold nm;rw[if_neg h1,if_pos h2]);rw[O] at z;obtain⟨rfl,aa⟩:=cJ .. ▸ z;obtain⟨rfl,rfl⟩:=cJ .. ▸ aa;obtain⟨q,hq⟩:=ZF (place s L);rw[hq] at ak h2 ⊢;have g2:((q:Int) != 0)=true:=(by simp;omega);clear z aa O h1 h2 hq;go_enter func128,ntmps128;go_wp2;go_ret2
   first|exact⟨rfl,λ_=>⟨_,_,Za HW⟩,Below.refl _ _,Far.refl _⟩|exact⟨rfl,⟨_,_,Za HW⟩,Below.refl _ _,Far.refl _⟩
  ·have h3:place s L=0:=(by omega);rw[h3] at ak;by_cases h4:120<=L.length
   ·have O:nm L s=([],0,12):=(by unfold nm;rw[if_neg h1,if_neg h2,if_pos h4]);rw[O] at z;obtain⟨rfl,aa⟩:=cJ .. ▸ z;obtain⟨rfl,rfl⟩:=cJ .. ▸ aa;have g2:((L.length:Int) == 120)=true:=(by simp;omega);clear z aa O h1 h2 h3 h4;go_enter func128,ntmps128;go_wp2;go_ret2
    first|exact⟨rfl,λh=>absurd h (by decide),Below.refl _ _,Far.refl _⟩|exact⟨rfl,Below.refl _ _,Far.refl _⟩
   ·have O:nm L s=(L++[s],(L.length:Int)+1,0):=(by unfold nm;rw[if_neg h1,if_neg h2,if_neg h4]);rw[O] at z;obtain⟨rfl,aa⟩:=cJ .. ▸ z;obtain⟨rfl,rfl⟩:=cJ .. ▸ aa;have g2:((L.length:Int) == 120)=false:=(by simp;omega);have A:=Zb (add_is base p bm _ D L s w HW hL (place_zero.1 h3) hz);clear z aa O h1 h2 h3 h4;go_enter func128,ntmps128;go_wp2_with fail;refine A.mono ?_;rintro x w2 ⟨rfl,al,ah,ai⟩;have H2:=Zb al;have ae:=Zb ah;have af:=Zb ai;clear al ah ai;go_wp2;go_ret2
    first|exact⟨rfl,λ_=>Za H2,Za ae,Za af⟩|exact⟨rfl,Za H2,Za ae,Za af⟩
open Go.RowKit Go.Maps
theorem Nv(n:Int)(w:World):(Instr.makeMap 191 (some (E J n))).run aB w = .ok (.map (some w.heap.size)) (w.alloc (.map #[] 0)):=by kernel_rfl
theorem Zji(w:World)(base:Nat)(z:base<=w.heap.size):Wr base (w.heap.size+1) w.heap.size ((w.alloc (.map #[] 0)).alloc (dW #[F none 0 0,.map (some w.heap.size)] 193)) (F none 0 0) (.map []) []:=by
 have e:(w.alloc (.map #[] 0)).heap.size=w.heap.size+1:=by simp
 refine⟨?_,by omega,z,⟨rfl,Or.inl ⟨rfl,rfl⟩⟩,?_,⟨[],rfl⟩,λs=>rfl⟩
 ·have:=aK (w.alloc (.map #[] 0)) (dW #[F none 0 0,.map (some w.heap.size)] 193);rw[e] at this;exact this
 ·exact (World.ownsMap_made w aB 9 (plainElem (H:=Unit) aB 3)).alloc _
theorem Zie(b off n c:Nat)(L:List ByteArray)(w:World)(hz:L.length=n)(h0:0<n)(h1:n<=120)(hb:b<w.heap.size)(hc:∀ i (h:i<L.length),w.cell? ⟨b,off+i,none⟩=some (.string L[i]))(x:Int)(hx:Tv [] L=x) :
  Calls aB 72 #[.agg #[F (some ⟨b,off,none⟩) n c]] w λe w'=>∃ v,e = dX (dY #[v,E J x])/\(x=0->∃ p bm z D',v = dZ (some ⟨p,0,none⟩)/\Wr w.heap.size p bm w' z D' L)/\aD w.heap.size w w':=by
 have ak:=Zg w (dW #[F (some ⟨b,off,none⟩) n c] 24);have ar:(w.alloc (dW #[F (some ⟨b,off,none⟩) n c] 24)).heap.size=w.heap.size+1:=by simp
 have W0:=Zji (w.alloc (dW #[F (some ⟨b,off,none⟩) n c] 24)) w.heap.size (by omega);rw[ar] at W0;obtain⟨X,hX⟩:=ZG (((w.alloc (dW #[F (some ⟨b,off,none⟩) n c] 24)).alloc (.map #[] 0)).alloc (dW #[F none 0 0,.map (some (w.heap.size+1))] 193))
 have am:aD w.heap.size w X:=by
  rw[hX];exact Ze (Ze ak (Zg _ _)) (Zg _ _)
 have cX:X.cell? ⟨w.heap.size,0,none⟩=some (F (some ⟨b,off,none⟩) n c):=by
  rw[hX];exact Zc (Ze (Zg _ _) (Zg _ _)) (Sc w (F (some ⟨b,off,none⟩) n c) 24)
 rw[<-hX] at W0;have bc:=Zb W0;have az:=Zb am;have HC:=Zb hc;have HZ:=Zb hz;have HX:=Zb hx;have bq:=Nv;have g:¬(120:Int)<(n:Int):=by omega
 clear W0 am hc hz hx ak ar;go_enter func72,ntmps72;go_wp2;rw[<-hX];clear hX
 go_loopw [20] (λi wr=>∃ j:Nat,j<=n/\i = E J j/\aD w.heap.size w wr/\(∃ v D,Hid (Wr w.heap.size (w.heap.size+2) (w.heap.size+1) wr v D (L.take j)))/\Hid (Tv (L.take j) (L.drop j)=x)) (λi _=>n - (intOf i).toNat)
 case atStart=>exact⟨0,aP _,rfl,Za az,⟨_,_,bc⟩,Za HX⟩
 case round=>
  obtain⟨j,hk,rfl,ab,⟨v,D,HW⟩,A⟩:=hrel;have O:=Zb ab;by_cases bg:j<n
  ·have ag:j<L.length:=(by rw[Za HZ];exact bg);have f:=(World.cell?_of_block (ab.block b hb)).trans (HC j ag);have bo:b<wr.heap.size:=Nat.lt_of_lt_of_le hb ab.size;obtain⟨c0,c1,cf⟩:=HW.cell0;have S:=Zpu ag;rw[Za A] at S;have bn:(L.take j).length=j:=(by rw[List.length_take];omega);have TK:=Zb (aM ag);obtain⟨s,hs⟩:=ZF (L[j]);rw[hs] at f S TK;clear hs ab A;by_cases h2:4000<s.size
   ·rw[if_pos h2] at S;subst S;have g2:(4000:Int)<(s.size:Int):=(by omega);clear h2;go_wp2;go_ret2
    first|exact⟨_,rfl,λh=>absurd h (by decide),Za O⟩|exact⟨⟨_,rfl⟩,Za O⟩
   ·rw[if_neg h2] at S;have g2:¬(4000:Int)<(s.size:Int):=(by omega);have hz:s.size<=4000:=(by omega);have ap:=HW.look s hz;by_cases h3:place s (L.take j)≠0
    ·rw[if_pos h3] at S;subst S;obtain⟨q,hq⟩:=ZF (place s (L.take j));rw[hq] at ap h3;have g3:((q:Int) != 0)=true:=(by simp;omega);clear h2 h3 hq;go_wp2;go_ret2
     first|exact⟨_,rfl,λh=>absurd h (by decide),Za O⟩|exact⟨⟨_,rfl⟩,Za O⟩
    ·rw[if_neg h3] at S;have h4:place s (L.take j)=0:=(by omega);rw[h4] at ap;have AD:=Zb (add_is w.heap.size (w.heap.size+2) (w.heap.size+1) v D (L.take j) s wr HW (by omega) (place_zero.1 h4) hz);have HS:Hid (Tv (L.take (j+1)) (L.drop (j+1))=x):=S.symm;clear h2 h3 h4 S;go_wp2_with fail;refine AD.mono ?_;rintro e w2 ⟨rfl,au,al,bf⟩;have H2:=Zb au;have ay:=Zb (O.trans al);clear au al bf;go_wp2;go_roundw
     case rel=>
      obtain⟨z,D',ah⟩:=Za H2;exact⟨j+1,by omega,by go_num,Za ay,⟨z,D',by rw[Za TK];exact ah⟩,HS⟩
     case measure=>simp[intOf];omega
  ·have R:Hid (x=0):=(by show _=_;rw[<-Za A];exact Znf (by rw[Za HZ];omega));have bd:Hid (∃ z D',Wr w.heap.size (w.heap.size+2) (w.heap.size+1) wr z D' L):=⟨v,D,by have:=Za HW;rw[List.take_of_length_le (by rw[Za HZ];omega)] at this;exact this⟩;clear A ab;go_wp2;go_ret2;refine⟨dZ (some ⟨w.heap.size+2,0,none⟩),?_,λ_=>?_,Za O⟩
   ·rw[Za R];rfl
   ·obtain⟨z,D',ah⟩:=Za bd;exact⟨_,_,z,D',rfl,ah⟩
theorem Bv(a n c L)(w:World)(h:TextsAt w a n L)(x:Int)(O:bkChk L=x) :
  Calls aB 72 #[.agg #[F a n c]] w λe w'=>∃ v,e = dX (dY #[v,E J x])/\(x=0->∃ p bm v' D',v = dZ (some ⟨p,0,none⟩)/\Wr w.heap.size p bm w' v' D' L)/\aD w.heap.size w w':=by
 have hz:=h.1;by_cases h1:120<n
 ·have e:x=2:=by rw[<-O];unfold bkChk;rw[if_pos (by omega)]
  subst e;have g:(120:Int)<(n:Int):=by omega
  have z:=Zb (Zg w (dW #[F a n c] 24));clear h O h1 hz;go_enter func72,ntmps72;go_wp2;go_ret2
  first|exact⟨_,rfl,λh=>absurd h (by decide),Za z⟩|exact⟨⟨_,rfl⟩,Za z⟩
 ·have ac:Tv [] L=x:=by rw[<-O];unfold bkChk;rw[if_neg (by omega)]
  by_cases h0:n=0
  ·subst h0;have e:L=[]:=aJ.1 hz;subst e;have e:x=0:=(by rw[<-ac];rfl);subst e;have ae:(w.alloc (dW #[F a 0 c] 24)).heap.size=w.heap.size+1:=(by simp);have W0:=Zji (w.alloc (dW #[F a 0 c] 24)) w.heap.size (by omega);rw[ae] at W0;have af:=Zb W0;have z:=Zb (Ze (Ze (Zg w (dW #[F a 0 c] 24)) (Zg _ (.map #[] 0))) (Zg _ (dW #[F none 0 0,.map (some (w.heap.size+1))] 193)));have ah:=Nv;clear h O h1 hz ac ae W0;go_enter func72,ntmps72;go_wp2;refine wp_loop_rounds 1 ?_;rw[rounds_succ];go_wp2;go_ret2;refine⟨_,rfl,λ_=>⟨_,_,_,_,rfl,Za af⟩,Za z⟩
  ·obtain⟨b,off,rfl,hc⟩:=h.2 (by omega);exact Zie b off n c L w hz (by omega) (by omega) (aC _ _ (hc 0 (by omega))) hc x ac
open Go.RowKit Go.Maps
def allR(L l:List ByteArray):List ByteArray×List Int×Int:=if bkChk L=0 then nmGo L [] l else ([],[],bkChk L)
def IntsAt(w:World)(a:Option Addr)(len:Nat)(Z:List Int):Prop:=
 Z.length=len/\(0<len->∃ b off,a=some ⟨b,off,none⟩/\∀ i (h:i<Z.length),w.cell? ⟨b,off+i,none⟩=some (E J Z[i]))
theorem IntsAt.later{w w':World}{a len Z}(h:IntsAt w a len Z)(z:aD w.heap.size w w'):IntsAt w' a len Z:=by
 refine⟨h.1,λh0=>?_⟩;obtain⟨b,off,e,O⟩:=h.2 h0;exact⟨b,off,e,λi hi=>Zc z (O i hi)⟩
theorem IntsAt.nil(w)(a):IntsAt w a 0 []:=⟨rfl,λh=>absurd h (by omega)⟩
def SlOk(a:Option Addr)(n c:Nat):Prop:=n<=c/\c<=cD/\(a=none->n=0/\c=0)
theorem SlOk.nil:SlOk none 0 0:=⟨aE _,by unfold cD;omega,λ_=>⟨rfl,rfl⟩⟩
theorem Wr.beside{base p bm g j:Nat}{w:World}{v u}{D:dA Unit}{L}(h:Wr base p bm w v D L)(z:∃ cs,w.heap[g]? = some (dW cs 3 (0,0))):Wr base p bm (w.setCell ⟨g,j,none⟩ u) v D L:=by
 obtain⟨cs,z⟩:=z;have far:∀ k,k≠g->(w.setCell ⟨g,j,none⟩ u).heap[k]? = w.heap[k]?:=λk O=>heap_setCell_other w ⟨g,j,none⟩ k u O;refine⟨?_,h.pge,h.mge,?_,?_,h.ism,h.names⟩
 ·rw[far p (λe=>?_)]
  ·exact h.box
  ·subst e;rw[h.box] at z;injection z with z;injection z with _ z;exact absurd z (by decide)
 ·refine Ve h.own (λk ac _ O=>far k (λe=>?_));subst e;rw[O] at z;injection z with z;injection z with _ z;exact absurd z (by decide)
 ·obtain⟨es,aa,h1,r⟩:=h.map;refine⟨es,aa,(far bm (λe=>?_)).trans h1,r⟩;subst e;rw[h1] at z;cases z
def Filled(base g n:Nat)(N:List Int)(w:World):Prop:=∃ xs:List Value,w.ownsRow base 3 1 (F (some ⟨g,0,none⟩) n n) n xs/\∀ j (h:j<N.length),xs[j]? = some (E J N[j])
theorem Filled.block{base g n:Nat}{N}{w:World}(h:Filled base g n N w):base<=g/\∃ cs,w.heap[g]? = some (dW cs 3 (0,0)):=by
 obtain⟨xs,ho,_⟩:=h;obtain⟨_,⟨e,_⟩|⟨g',cap,z,e,O,hh,_⟩⟩:=ho
 ·cases e
 ·cases e;exact⟨O,z,hh⟩
theorem Filled.far{base g n:Nat}{N w w'}(h:Filled base g n N w)(z:Far w w'):Filled base g n N w':=by
 obtain⟨xs,ho,hx⟩:=h;exact⟨xs,Ve ho (λk cs _ O=>z k cs _ O (by decide) (by decide)),hx⟩
theorem Filled.old{base g n:Nat}{N}{w:World}(h:Filled base g n N w){k:Nat}(O:k<n):(∃ v,w.cell? ⟨g,k,none⟩=some v)/\w.frozen? ⟨g,k,none⟩=false/\g<w.heap.size:=by
 obtain⟨xs,z,_⟩:=h;have hl:xs.length=n:=by simpa using z.1
 exact⟨⟨xs[k]'(by omega),by rw[z.cellAt k (by omega)];simp[hl,O]⟩,z.frozenAt k,(z.lt g rfl).2⟩
theorem Filled.step{base g n:Nat}{N:List Int}{w:World}(h:Filled base g n N w)(hk:N.length<n)(x:Int):Filled base g n (N++[x]) (w.setCell ⟨g,N.length,none⟩ (E J x)):=by
 obtain⟨xs,O,hx⟩:=h;have hl:xs.length=n:=by simpa using O.1
 refine⟨xs.set N.length (E J x),(O.stored N.length _).1,λj hj=>?_⟩;by_cases e:j=N.length
 ·subst e;simp[hl,hk]
 ·have z:j<N.length:=by simp at hj;omega
  rw[List.getElem?_set_ne (by omega),hx j z];simp[z]
theorem Filled.ints{base g n:Nat}{N:List Int}{w}(h:Filled base g n N w)(O:N.length=n):IntsAt w (some ⟨g,0,none⟩) n N:=by
 obtain⟨xs,z,hx⟩:=h;have hl:xs.length=n:=by simpa using z.1
 refine⟨O,λ_=>⟨g,0,rfl,λi hi=>?_⟩⟩;rw[Nat.zero_add,z.cellAt i (by omega),hx i hi]
theorem V6{fn:Func}{p u v:Tmp}{ty:bO}(h:fn.results=#[.cell p ty,.tmp u,.tmp v])(tmps:Array Value)(P:Program)(w) :
  (results fn tmps).run P w =
   ((asAddr (tmps.getD p undef)).run P w).andThen λa z=>((loadVar ty a).run P z).andThen λx O=>.ok (dY #[x,tmps.getD u undef,tmps.getD v undef]) O:=by
 simp only[results,h];simp[Sem.run_bind,Result.andThen]
theorem texts_own{w:World}{base n c:Nat}{a}{L:List ByteArray}(h:w.ownsRow base 9 1 (F a n c) n (L.map cE)):TextsAt w a n L:=by
 obtain⟨a',O,e,_,_,_,z⟩:=Va h;cases e;exact z
theorem Zfu{l:List ByteArray}{j:Nat}(h:j<l.length)(L)(N):nmGo L N (l.drop j)=if (nm L l[j]).2.2=0 then nmGo (nm L l[j]).1 (N++[(nm L l[j]).2.1]) (l.drop (j+1)) else ([],[],(nm L l[j]).2.2):=by
 rw[aN h,nmGo]
theorem Zbf{l:List ByteArray}{j:Nat}(h:l.length<=j)(L)(N):nmGo L N (l.drop j)=(L,N,0):=by
 rw[cB h];rfl
theorem Zpo(a an n c nl cl L)(w:World)(h:TextsAt w a n L)(x:Int)(hx:bkChk L=x)(h0:x≠0) :
  ZH 80 #[.agg #[F a n c],F an nl cl] w (dY #[.agg #[F none 0 0],F none 0 0,E J x]):=by
 have aa:=Zg w (dW #[F a n c] 24);have z:=Zg (w.alloc (dW #[F a n c] 24)) (dW #[F none 0 0] 24);have O:=Ze aa z;have ab:(w.alloc (dW #[F a n c] 24)).heap.size=w.heap.size+1:=by simp
 have c1:=aK (w.alloc (dW #[F a n c] 24)) (dW #[F none 0 0] 24);rw[ab] at c1;have am:=Zb (Bv a n c L _ (h.later O) x hx);have HB:=Zb O;have C1:=Zb c1;have g:(x != 0)=true:=by simp[h0]
 clear h hx O aa z c1 ab;go_enter func80,ntmps80;go_wp2_with fail;refine am.mono ?_;rintro e w2 ⟨v,rfl,-,z⟩;have af:=Zb (Ze HB z);have c1:=ZE z C1;have d0:w2.cell? ⟨w.heap.size+1,0,none⟩=some (F none 0 0):=by simp[dI,c1]
 have df:w2.frozen? ⟨w.heap.size+1,0,none⟩=false:=by simp[World.frozen?,c1]
 have al:w.heap.size+1<w2.heap.size:=aA c1;clear z c1;go_wp2;(try simp only[Exit.inBlock,Exit.then]);refine aR (v:=dY #[.agg #[F none 0 0],F none 0 0,E J x]) ?_ rfl ⟨rfl,?_⟩
 ·rw[V6 rfl];go_simp
 ·exact af.setCell (bZ _) _
theorem Zey(a al n c nl eo L l M N)(x:Int)(w:World)(h:TextsAt w a n L)(hl:TextsAt w al nl l)(dv:nl<=17592186044416)(hR:Right L)(hx:nmGo L [] l=(M,N,x)) :
  Calls aB 80 #[.agg #[F a n c],F al nl eo] w λe w'=>(∃ a' O c' a2 n2 c2,e = dX (dY #[.agg #[F a' O c'],F a2 n2 c2,E J x])/\(∀ w2,Gr w' w2 (λk=>k<w.heap.size)->TextsAt w2 a' O M)/\SlOk a' O c'/\IntsAt w' a2 n2 N/\n2<=nl/\n2<=c2)/\aD w.heap.size w w':=by
 obtain⟨i0,hi,eb,ec,ed⟩:=info_parts Tryz.infoInt;have bx:=Zg w (dW #[F a n c] 24);have ag:=Zg (w.alloc (dW #[F a n c] 24)) (dW #[F none 0 0] 24);have hb:=Ze bx ag;have cn:(w.alloc (dW #[F a n c] 24)).heap.size=w.heap.size+1:=by simp
 have co:((w.alloc (dW #[F a n c] 24)).alloc (dW #[F none 0 0] 24)).heap.size=w.heap.size+2:=by simp
 have c1:=aK (w.alloc (dW #[F a n c] 24)) (dW #[F none 0 0] 24);rw[cn] at c1;have el:=Zb (Bv a n c L _ (h.later hb) 0 ((right_iff L).2 hR));rw[co] at el;have HB:=Zb hb;have C1:=Zb c1;have bj:=Zb hl;have bn:=Zb dv;have HR:=Zb hR;have HX:=Zb hx;clear h hl hx hb bx ag c1 cn co hR;go_enter func80,ntmps80;go_wp2_with fail;refine el.mono ?_;rintro e w2 ⟨v,rfl,ab,ag⟩;obtain⟨p,bm,v0,D0,rfl,ar⟩:=ab (by trivial);have dy:w.heap.size+2<=w2.heap.size:=aT ar.pge (Nat.le_of_lt (aA ar.box));have c1:=(ag.block _ (by omega)).trans C1;have dd:Hid (aD w.heap.size w w2):=HB.trans (ag.mono (by omega));have HW:=Zb ar;have C2:=Zb c1;clear ar ab ag c1
 go_wp2_with (at_make;refine wpList_make_full _ rfl _ _ 25 rfl (w.heap.size+2) 3 i0 (E J 0) 1 underlying25 hi eb ec .i64 .i64 _ _ nl rfl rfl rfl rfl (by rw[ed];have:=Za bn;omega) (by have:=Za bn;unfold cD;omega) dy ?_;intro w3 cj cc)
 have ao:aD w2.heap.size w2 w3:=(Below.refl _ _).grown cc (aE _) (λk h=>by cases h);have dj:=Zb (HW.keep ao);have bi:Hid (Filled (w.heap.size+2) w2.heap.size nl [] w3):=⟨_,cj,λj hj=>absurd hj (by simp)⟩;have C3:=Zb (ZE ao C2);have db:=Zb (Ze dd ao);obtain⟨g,hg⟩:=ZF (w2.heap.size);rw[hg] at bi ⊢;clear ao cj cc hg
 go_loopw [26] (λi wr=>∃ (j:Nat) (L':List ByteArray) (N':List Int),j<=nl/\i = E J j/\aD w.heap.size w wr/\Hid (∃ v D,Wr (w.heap.size+2) p bm wr v D L')/\Hid (Filled (w.heap.size+2) g nl N' wr)/\Hid (N'.length=j/\Right L'/\nmGo L' N' (l.drop j)=(M,N,x))/\Hid (wr.heap[w.heap.size+1]? = some (dW #[F none 0 0] 24 (0,0)))) (λi _=>nl - (intOf i).toNat)
 case atStart=>exact⟨0,L,[],aP _,rfl,Za db,⟨_,_,Za dj⟩,bi,⟨rfl,Za HR,Za HX⟩,C3⟩
 case round=>
  obtain⟨j,L',N',hk,rfl,ap,bo,HF,HN,HC⟩:=hrel;have aw:=Zb ap;by_cases cg:j<nl
  ·obtain⟨hz,ca⟩:=Za bj;obtain⟨b,off,rfl,hc⟩:=ca (by omega);have cf:j<l.length:=(by omega);have f:=Zc ap (hc j cf);obtain⟨v,D,ab⟩:=Za bo;obtain⟨q1,q2,z⟩:=Za HN;rw[Zfu cf] at z;obtain⟨s,hs⟩:=ZF (l[j]);rw[hs] at f z;obtain⟨r,hr⟩:=ZF (nm L' s);rw[hr] at z;obtain⟨M',O,e'⟩:=r;simp only at z;have CN:=Zb (Zoj (w.heap.size+2) p bm v D L' M' s O e' wr ab q2.1 hr)
   have NR:Hid (e'=0->Right M'):=λh=>by
    have:=Nn (L:=L') (s:=s) q2;rw[hr] at this;exact this h
   clear ab hs hc ca ap hr;by_cases he:e'=0
   ·subst he;rw[if_pos rfl] at z;have Q3:=Zb z;have cl:=Zb q1;clear z q2 q1;go_wp2_with fail;refine CN.mono ?_;rintro y w5 ⟨rfl,au,af,am⟩;have F5:=HF.far am;obtain⟨⟨u,hu⟩,dr,dt⟩:=F5.old cg;have eg:=Zb F5;have hq:N'.length=j:=Za cl;have ST:=Zb (F5.step (by omega) O);rw[hq] at ST;have dc:=Zb (aw.trans (af.mono (by omega)))
    have W5:Hid (∃ v D,Wr (w.heap.size+2) p bm (w5.setCell ⟨g,j,none⟩ (E J O)) v D M'):=by
     obtain⟨v',D',h'⟩:=(by first|exact au|exact au rfl|exact au (by trivial):∃ v' D',Wr (w.heap.size+2) p bm w5 v' D' M');exact⟨v',D',h'.beside F5.block.2⟩
    have C5:Hid ((w5.setCell ⟨g,j,none⟩ (E J O)).heap[w.heap.size+1]? = some (dW #[F none 0 0] 24 (0,0))):=by
     show _=_;rw[heap_setCell_other _ _ _ _ (by show w.heap.size+1≠g;have:=F5.block.1;omega),af.block _ (by omega)];exact Za HC
    have aj:=Zb (dc.setCell (p:=⟨g,j,none⟩) (by show w.heap.size<=g;have:=F5.block.1;omega) (E J O));clear au af am F5;go_wp2;go_roundw
    case rel=>exact⟨j+1,M',N'++[O],by omega,by go_num,Za aj,W5,ST,⟨by simp;exact Za cl,NR (by trivial),Za Q3⟩,C5⟩
    case measure=>simp[intOf];omega
   ·rw[if_neg he] at z;have e1:M=[]:=(by injection z with z _;exact z.symm);have e2:N=[]:=(by injection z with _ z;injection z with z _;exact z.symm);have e3:x=e':=(by injection z with _ z;injection z with _ z;exact z.symm);subst e1 e2 e3;have g5:(x != 0)=true:=(by simp[he]);clear z q2 q1;go_wp2_with fail;refine CN.mono ?_;rintro y w5 ⟨rfl,-,af,am⟩;have F5:=HF.far am;obtain⟨⟨u,hu⟩,dr,dt⟩:=F5.old cg;have ei:w.heap.size+2<=g:=F5.block.1
    have c5:(w5.setCell ⟨g,j,none⟩ (E J O)).heap[w.heap.size+1]? = some (dW #[F none 0 0] 24 (0,0)):=by
     rw[heap_setCell_other _ _ _ _ (by show w.heap.size+1≠g;omega),af.block _ (by omega)];exact Za HC
    obtain⟨Z,hZ⟩:=ZG (w5.setCell ⟨g,j,none⟩ (E J O));have aj:=Zb ((aw.trans (af.mono (by omega))).setCell (p:=⟨g,j,none⟩) (by show w.heap.size<=g;omega) (E J O));rw[<-hZ] at c5 aj;have d0:Z.cell? ⟨w.heap.size+1,0,none⟩=some (F none 0 0):=(by simp[dI,c5]);have en:Z.frozen? ⟨w.heap.size+1,0,none⟩=false:=(by simp[World.frozen?,c5]);clear af am F5 c5;rw[hZ] at d0 en aj;clear hZ;go_wp2;(try simp only[Exit.inBlock,Exit.then]);refine aR (v:=dY #[.agg #[F none 0 0],F none 0 0,E J x]) ?_ rfl ⟨⟨_,_,_,_,_,_,rfl,λ_ _=>TextsAt.nil _ _,SlOk.nil,IntsAt.nil _ _,aP _,aE _⟩,?_⟩
    ·rw[V6 rfl];go_simp
    ·exact aj.setCell (bZ _) _
  ·have e:j=nl:=(by omega);subst e;obtain⟨q1,q2,z⟩:=Za HN;rw[Zbf (by rw[(Za bj).1];exact aE _)] at z;have e1:M=L':=(by injection z with z _;exact z.symm);have e2:N=N':=(by injection z with _ z;injection z with z _;exact z.symm);have e3:x=0:=(by injection z with _ z;injection z with _ z;exact z.symm);subst e1 e2 e3;obtain⟨v,D,ab⟩:=Za bo;obtain⟨d1,d2,-⟩:=ab.cell0;have ho:=ab.own;obtain⟨a',c',rfl,s1,s2,s3,s4⟩:=Va ab.own;have df:Hid (SlOk a' M.length c'):=⟨s1,s2,s3⟩;have HT:Hid (∀ u w2,Gr (wr.setCell ⟨w.heap.size+1,0,none⟩ u) w2 (λk=>k<w.heap.size)->TextsAt w2 a' M.length M):=λu w2 g2=>texts_own (Ve ho (λk cs ds hk=>(g2.block k (by simpa[World.setCell] using aA hk) (by omega)).trans (heap_setCell_other _ _ _ _ (by show k≠w.heap.size+1;omega))))
   have HI:Hid (∀ u,IntsAt (wr.setCell ⟨w.heap.size+1,0,none⟩ u) (some ⟨g,0,none⟩) j N):=λu=>by
    obtain⟨xs,ea,dz⟩:=Za HF;exact Filled.ints ⟨xs,Ve ea (λk cs ds _=>heap_setCell_other _ _ _ _ (by show k≠w.heap.size+1;omega)),dz⟩ q1
   have c5:=Za HC;have d0:wr.cell? ⟨w.heap.size+1,0,none⟩=some (F none 0 0):=(by simp[dI,c5]);have en:wr.frozen? ⟨w.heap.size+1,0,none⟩=false:=(by simp[World.frozen?,c5]);have ej:w.heap.size+1≠p:=(by have:=ab.pge;omega);clear q1 q2 z ab ho s1 s2 s3 s4 c5 ap;go_wp2;(try simp only[Exit.inBlock,Exit.then]);refine aR (v:=dY #[.agg #[F a' M.length c'],F (some ⟨g,0,none⟩) j j,E J 0]) ?_ rfl ⟨⟨_,_,_,_,_,_,rfl,HT _,Za df,HI _,aE _,aE _⟩,?_⟩
   ·rw[V6 rfl];go_simp
   ·exact aw.setCell (bZ _) _
theorem Zjf(a al n c nl cl L l M N)(x:Int)(w:World)(h:TextsAt w a n L)(hl:TextsAt w al nl l)(ai:nl<=17592186044416)(hR:Right L)(hx:nmGo L [] l=(M,N,x)) :
  Calls aB 80 #[.agg #[F a n c],F al nl cl] w λe w'=>(∃ a' O c' a2 z c2,e = dX (dY #[.agg #[F a' O c'],F a2 z c2,E J x])/\TextsAt w' a' O M/\SlOk a' O c'/\IntsAt w' a2 z N/\z<=nl/\z<=c2)/\aD w.heap.size w w':=by
 refine (Zey a al n c nl cl L l M N x w h hl ai hR hx).mono ?_;rintro e w' ⟨⟨a',O,c',a2,z,c2,h1,h2,h3⟩,hb⟩;exact⟨⟨a',O,c',a2,z,c2,h1,h2 _ (Gr.refl _ _),h3⟩,hb⟩
open Go.RowKit Go.Maps
def Ks(L:List ByteArray)(s:ByteArray):List ByteArray×Int×Int:=if bkChk L=0 then nm L s else ([],0,bkChk L)
theorem Zlk(w:World)(s:ByteArray):TextsAt (w.alloc (dW #[.string s] 9)) (some ⟨w.heap.size,0,none⟩) 1 [s]:=
 ⟨rfl,λ_=>⟨w.heap.size,0,rfl,λi hi=>by
  have e:i=0:=by simp at hi;omega
  subst e;exact Sc w (.string s) 9⟩⟩
theorem all_is(a O n c nl cl L l M N)(x:Int)(w:World)(h:TextsAt w a n L)(hl:TextsAt w O nl l)(al:nl<=17592186044416)(z:allR L l=(M,N,x)) :
  Calls aB 80 #[.agg #[F a n c],F O nl cl] w λe w'=>(∃ a' n' c' a2 n2 c2,e = dX (dY #[.agg #[F a' n' c'],F a2 n2 c2,E J x])/\TextsAt w' a' n' M/\SlOk a' n' c'/\IntsAt w' a2 n2 N/\n2<=nl/\n2<=c2)/\aD w.heap.size w w':=by
 unfold allR at z;by_cases h0:bkChk L=0
 ·rw[if_pos h0] at z;exact Zjf a O n c nl cl L l M N x w h hl al ((right_iff L).1 h0) z
 ·rw[if_neg h0] at z;have e1:M=[]:=by injection z with z _;exact z.symm
  have e2:N=[]:=by injection z with _ z;injection z with z _;exact z.symm
  have e3:bkChk L=x:=by injection z with _ z;injection z with _ z
  subst e1 e2;refine (Zpo a O n c nl cl L w h x e3 (by rw[<-e3];exact h0)).mono ?_;rintro e w' ⟨rfl,hb⟩;exact⟨⟨_,_,_,_,_,_,rfl,TextsAt.nil _ _,SlOk.nil,IntsAt.nil _ _,aP _,aE _⟩,hb⟩
