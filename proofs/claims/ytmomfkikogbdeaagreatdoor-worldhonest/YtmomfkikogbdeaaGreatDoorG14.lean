import Derived.Test.YtmomfkikogbdeaaGreatDoorH
import Derived.Laws.AppendOwnNone
import Derived.Deep.AppendLies
import Derived.Test.YtmomfkikogbdeaaGreatDoorG4
open Go.Proofs.Tryz
open Go renaming TypeId->cR,lt_of_block->aA,maxLen->cW,heap_alloc_new->aH,bodyPost_ret->aW
open Go.Ending renaming returned->dA
open Go.IntKind renaming i64->J
open Go.Obj renaming cells->cZ
open Go.Proofs.Tryz renaming prog->aB,underlying3->bC
open Go.RowKit renaming Below->aC,intOf->cK
open Go.Value renaming int->E,slice->F,tuple->dB,pointer->dC,bool->dD
open Go.World renaming block_lt_of_cell?->aE,cell?_of_block->bU,cell?->bF
open List renaming drop_eq_getElem_cons->aI,take_succ_eq_append_getElem->aS,drop_of_length_le->bM,append_assoc->bZ,length_eq_zero_iff->aP
open Nat renaming le_refl->aF,le_trans->aT,zero_le->aL
open Prod.mk renaming injEq->aN
set_option maxHeartbeats 3200000
set_option maxRecDepth 10000
namespace Go.Proofs.YtmomfkikogbdeaaGreatDoor.Bk
def place(s:ByteArray):List ByteArray->Nat
 | []=>0
 | x :: r=>if x=s then 1 else if place s r=0 then 0 else place s r+1
theorem place_zero{s:ByteArray}:∀ {L:List ByteArray},place s L=0↔s∉L
 | []=>by simp[place]
 | x :: r=>by
  unfold place;have Q:=place_zero (s:=s) (L:=r);by_cases h:x=s
  ·simp[h]
  ·have h':¬s=x:=λe=>h e.symm;rw[if_neg h];by_cases z:place s r=0
   ·rw[if_pos z];simp[h',Q.1 z]
   ·rw[if_neg z]
    have:s∈r:=by
     rcases Classical.em (s∈r) with m|m
     ·exact m
     ·exact absurd (Q.2 m) z
    simp[this]
theorem place_le(s:ByteArray):∀ L:List ByteArray,place s L<=L.length
 | []=>by simp[place]
 | x :: r=>by
  unfold place;have:=place_le s r;split
  ·simp
  ·split
   ·simp
   ·simp;exact this
theorem Pw{s:ByteArray}:∀ {L:List ByteArray} {n:Nat},place s L=n+1->L[n]? = some s
 | [],n,h=>by simp[place] at h
 | x :: r,n,h=>by
  unfold place at h;by_cases hx:x=s
  ·rw[if_pos hx] at h;have:n=0:=(by omega);subst this;simp[hx]
  ·rw[if_neg hx] at h;by_cases z:place s r=0
   ·rw[if_pos z] at h;omega
   ·rw[if_neg z] at h;obtain⟨m,Q⟩:∃ m,place s r=m+1:=⟨place s r - 1,by omega⟩;have e:n=m+1:=(by omega);subst e;simpa using Pw Q
theorem Ui(s:ByteArray):∀ (L M:List ByteArray),place s (L++M)=if place s L=0 then (if place s M=0 then 0 else L.length+place s M) else place s L
 | [],M=>by
  have e:place s []=0:=rfl;rw[e,if_pos rfl,List.nil_append];by_cases z:place s M=0
  ·rw[if_pos z];exact z
  ·rw[if_neg z];simp
 | x :: r,M=>by
  have Q:place s (x :: r)=if x=s then 1 else if place s r=0 then 0 else place s r+1:=rfl
  have e2:place s ((x :: r)++M)=if x=s then 1 else if place s (r++M)=0 then 0 else place s (r++M)+1:=rfl
  rw[e2,Ui s r M];by_cases hx:x=s
  ·rw[if_pos hx] at *;rw[Q];simp
  ·rw[if_neg hx] at *;by_cases hr:place s r=0
   ·rw[if_pos hr] at Q;rw[Q,hr];by_cases z:place s M=0
    ·simp[z]
    ·simp only[z,if_true,if_false,List.length_cons];rw[if_neg (by omega)];omega
   ·rw[if_neg hr] at Q;rw[Q,if_neg hr,if_neg hr,if_neg (by omega)]
theorem Ky{s:ByteArray}{L:List ByteArray}(h:s∉L):place s (L++[s])=L.length+1:=by
 rw[Ui,if_pos (place_zero.2 h)];simp[place]
theorem Bi{s t:ByteArray}(L)(h:s≠t):place s (L++[t])=place s L:=by
 rw[Ui];have e:place s [t]=0:=by rw[place_zero];simp[h]
 rw[e];split
 ·rw[if_pos rfl];rename_i z;exact z.symm
 ·rfl
def bkGo(z:List ByteArray):List ByteArray->Int
 | []=>0
 | s :: r=>if 4000<s.size then 2 else if place s z≠0 then 6 else bkGo (z++[s]) r
def bkChk(L:List ByteArray):Int:=if 120<L.length then 2 else bkGo [] L
theorem bk_at{L:List ByteArray}{k:Nat}(h:k<L.length):bkGo (L.take k) (L.drop k)=if 4000<L[k].size then 2 else if place L[k] (L.take k)≠0 then 6 else bkGo (L.take (k+1)) (L.drop (k+1)):=by
 rw[aI h,bkGo,aS h]
theorem Zsa{L:List ByteArray}{k:Nat}(h:L.length<=k):bkGo (L.take k) (L.drop k)=0:=by
 rw[bM h];rfl
theorem Dp:∀ (L z:List ByteArray),bkGo z L=0->z.Nodup->(z++L).Nodup/\∀ s∈L,s.size<=4000
 | [],z,_,hs=>by simpa using hs
 | s :: r,z,h,hs=>by
  unfold bkGo at h;by_cases h1:4000<s.size
  ·rw[if_pos h1] at h;omega
  ·rw[if_neg h1] at h;by_cases h2:place s z≠0
   ·rw[if_pos h2] at h;omega
   ·rw[if_neg h2] at h;have h3:s∉z:=place_zero.1 (by omega)
    have hn:(z++[s]).Nodup:=by
     rw[List.nodup_append];exact⟨hs,by simp,λa ha b hb=>by simp at hb;subst hb;exact λe=>h3 (e ▸ ha)⟩
    have Q:=Dp r (z++[s]) h hn;rw[bZ] at Q;refine⟨Q.1,λx hx=>?_⟩
    rcases List.mem_cons.1 hx with rfl|hx
    ·omega
    ·exact Q.2 x hx
theorem Ml:∀ (L z:List ByteArray),(z++L).Nodup->(∀ s∈L,s.size<=4000)->bkGo z L=0
 | [],_,_,_=>rfl
 | s :: r,z,hn,hs=>by
  unfold bkGo;have h1:¬4000<s.size:=by have:=hs s (by simp);omega
  have h2:s∉z:=by
   intro Q;rw[List.nodup_append] at hn;exact hn.2.2 s Q s (by simp) rfl
  rw[if_neg h1,if_neg (by rw[place_zero.2 h2];decide)];refine Ml r (z++[s]) (by rw[bZ];exact hn) (λx hx=>hs x (by simp[hx]))
def Right(L:List ByteArray):Prop:=L.length<=120/\L.Nodup/\∀ s∈L,s.size<=4000
theorem right_iff(L):bkChk L=0↔Right L:=by
 unfold bkChk Right;by_cases h:120<L.length
 ·rw[if_pos h];constructor
  ·intro e;omega
  ·intro ⟨e,_⟩;omega
 ·rw[if_neg h];constructor
  ·intro e;have:=Dp L [] e List.nodup_nil;exact⟨by omega,this.1,this.2⟩
  ·intro ⟨_,h1,h2⟩;exact Ml L [] h1 h2
def nm(L:List ByteArray)(s:ByteArray):List ByteArray×Int×Int:=
 if 4000<s.size then ([],0,2) else if place s L≠0 then (L,(place s L:Int),0) else if 120<=L.length then ([],0,12) else (L++[s],L.length+1,0)
def nmGo(L:List ByteArray)(N:List Int):List ByteArray->List ByteArray×List Int×Int
 | []=>(L,N,0)
 | s :: r=>if (nm L s).2.2=0 then nmGo (nm L s).1 (N++[(nm L s).2.1]) r else ([],[],(nm L s).2.2)
theorem nm_right{L}{s:ByteArray}(h:Right L)(h0:(nm L s).2.2=0):Right (nm L s).1:=by
 unfold nm at *;by_cases h1:4000<s.size
 ·rw[if_pos h1] at h0;cases h0
 ·rw[if_neg h1] at *;by_cases h2:place s L≠0
  ·rw[if_pos h2] at *;exact h
  ·rw[if_neg h2] at *;by_cases h3:120<=L.length
   ·rw[if_pos h3] at h0;cases h0
   ·rw[if_neg h3] at *;have h4:s∉L:=place_zero.1 (by omega);refine⟨by simp;omega,?_,λx hx=>?_⟩
    ·rw[List.nodup_append];exact⟨h.2.1,by simp,λa Q b z=>by simp at z;subst z;exact λe=>h4 (e ▸ Q)⟩
    ·rcases List.mem_append.1 hx with hx|hx
     ·exact h.2.2 x hx
     ·simp at hx;subst hx;omega
theorem nm_grows{L}{s:ByteArray}(h0:(nm L s).2.2=0):∃ M,(nm L s).1=L++M:=by
 unfold nm at *;by_cases h1:4000<s.size
 ·rw[if_pos h1] at h0;cases h0
 ·rw[if_neg h1] at *;by_cases h2:place s L≠0
  ·rw[if_pos h2];exact⟨[],by simp⟩
  ·rw[if_neg h2] at *;by_cases h3:120<=L.length
   ·rw[if_pos h3] at h0;cases h0
   ·rw[if_neg h3];exact⟨[s],rfl⟩
theorem nm_place{L}{s:ByteArray}(h0:(nm L s).2.2=0):(nm L s).2.1=(place s (nm L s).1:Int)/\0<place s (nm L s).1/\s.size<=4000:=by
 unfold nm at *;by_cases h1:4000<s.size
 ·rw[if_pos h1] at h0;cases h0
 ·rw[if_neg h1] at *;by_cases h2:place s L≠0
  ·rw[if_pos h2];exact⟨rfl,by show 0<place s L;omega,by omega⟩
  ·rw[if_neg h2] at *;by_cases h3:120<=L.length
   ·rw[if_pos h3] at h0;cases h0
   ·rw[if_neg h3];have h4:s∉L:=place_zero.1 (by omega);show (L.length:Int)+1=_/\_;simp only[Ky h4];exact⟨by simp,by omega,by omega⟩
theorem nm_there{L}{s:ByteArray}(z:s.size<=4000)(h:0<place s L):nm L s=(L,(place s L:Int),0):=by
 unfold nm;rw[if_neg (by omega),if_pos (by omega)]
theorem nmGo_grows:∀ (l:List ByteArray) (L:List ByteArray) (N:List Int),(nmGo L N l).2.2=0->∃ M,(nmGo L N l).1=L++M
 | [],L,N,_=>⟨[],by simp[nmGo]⟩
 | s :: r,L,N,h=>by
  unfold nmGo at *;by_cases h0:(nm L s).2.2=0
  ·rw[if_pos h0] at *;obtain⟨M,z⟩:=nm_grows h0;obtain⟨K,hK⟩:=nmGo_grows r _ _ h;exact⟨M++K,by rw[hK,z,bZ]⟩
  ·rw[if_neg h0] at *;exact absurd h h0
theorem nmGo_right:∀ (l:List ByteArray) (L:List ByteArray) (N:List Int),Right L->(nmGo L N l).2.2=0->Right (nmGo L N l).1
 | [],L,N,hR,_=>hR
 | s :: r,L,N,hR,h=>by
  unfold nmGo at *;by_cases h0:(nm L s).2.2=0
  ·rw[if_pos h0] at *;exact nmGo_right r _ _ (nm_right hR h0) h
  ·rw[if_neg h0] at *;exact absurd h h0
theorem place_stays{s:ByteArray}{L}(M)(h:0<place s L):place s (L++M)=place s L:=by
 rw[Ui,if_neg (by omega)]
theorem place_one{s t:ByteArray}{L}(h:0<place s L)(e:place s L=place t L):s=t:=by
 obtain⟨n,z⟩:∃ n,place s L=n+1:=⟨place s L - 1,by omega⟩;have h1:=Pw z;have h2:=Pw (e ▸ z);rw[h1] at h2;exact Option.some.inj h2
open Go.RowKit Go.Maps
theorem Zd{p:Prop}(h:p):Hid p:=h
theorem Za{p:Prop}(h:Hid p):p:=h
theorem Zf{w z w2:World}(h1:aC w.heap.size w z)(h2:aC z.heap.size z w2):aC w.heap.size w w2:=h1.trans (h2.mono h1.size)
theorem Zh(w:World)(o:Obj):aC w.heap.size w (w.alloc o):=(Below.refl _ _).alloc (aF _) _
theorem Ex(w:World)(n:Nat):aC w.heap.size w (w.drewN n):=⟨rfl,rfl,rfl,aF _,λ_ _=>rfl⟩
theorem Ze{w w':World}{p v}(z:aC w.heap.size w w')(h:w.cell? p=some v):w'.cell? p=some v:=by
 rw[z.cell (p:=p) (aE _ _ h)];exact h
theorem Rp(w:World)(x)(t:cR):(w.alloc (cZ #[x] t)).cell? ⟨w.heap.size,0,none⟩=some x:=by
 rw[World.cell?_alloc_at _ _ _ _ rfl];rfl
def TextsAt(w:World)(a:Option Addr)(len:Nat)(L:List ByteArray):Prop:=
 L.length=len/\(0<len->∃ b off,a=some ⟨b,off,none⟩/\∀ i (h:i<L.length),w.cell? ⟨b,off+i,none⟩=some (.string L[i]))
theorem TextsAt.later{w w':World}{a len L}(h:TextsAt w a len L)(z:aC w.heap.size w w'):TextsAt w' a len L:=by
 refine⟨h.1,λh0=>?_⟩;obtain⟨b,off,e,Q⟩:=h.2 h0;exact⟨b,off,e,λi hi=>Ze z (Q i hi)⟩
theorem TextsAt.still{B:Nat}{w w' a len L}(h:TextsAt w a len L)(hl:∀ x,a=some x->0<len->x.block<B)(z:aC B w w'):TextsAt w' a len L:=by
 refine⟨h.1,λh0=>?_⟩;obtain⟨b,off,e,Q⟩:=h.2 h0;refine⟨b,off,e,λi hi=>?_⟩;rw[bU (z.block b (hl _ e h0))];exact Q i hi
theorem TextsAt.nil(w a):TextsAt w a 0 []:=⟨rfl,λh=>absurd h (by omega)⟩
theorem TextsAt.lt{w:World}{a len L}(h:TextsAt w a len L)(x:Addr)(hx:a=some x)(h0:0<len):x.block<w.heap.size:=by
 obtain⟨b,off,e,z⟩:=h.2 h0;have Q:=h.1;rw[hx] at e;cases e;exact aE _ _ (z 0 (by omega))
theorem Zjz{w:World}{base:Nat}{e:cR}{size:Nat}{v:Value}{n:Nat}{xs}(h:w.ownsRow base e size v n xs)(k:Nat)(z:v.ownBlock=some k):base<=k:=by
 rcases h.2 with ⟨rfl,_⟩|⟨g,cap,aa,rfl,Q,_⟩
 ·cases z
 ·cases z;exact Q
theorem Vy{w w':World}{base:Nat}{e:cR}{size:Nat}{v}{n:Nat}{xs}(h:w.ownsRow base e size v n xs)(hk:∀ (k:Nat) (cs:Array Value),base<=k->w.heap[k]? = some (cZ cs e (0,0))->w'.heap[k]? = w.heap[k]?):w'.ownsRow base e size v n xs:=by
 obtain⟨hl,h0|⟨g,cap,z,hv,Q,hh,r⟩⟩:=h
 ·exact⟨hl,.inl h0⟩
 ·exact⟨hl,.inr ⟨g,cap,z,hv,Q,(hk g z Q hh).trans hh,r⟩⟩
theorem Ge{w w':World}{base:Nat}{e:cR}{size:Nat}{v:Value}{n:Nat}{xs}(h:w.ownsRow base e size v n xs)(hg:w.grownBy w' v.ownBlock)(k:Nat)(cs)(t:cR)(hk:w.heap[k]? = some (cZ cs t (0,0)))(ht:t≠e):w'.heap[k]? = w.heap[k]?:=by
 refine hg.block k (aA hk) (λQ=>?_);obtain⟨_,⟨rfl,_⟩|⟨g,cap,ae,rfl,_,z,_⟩⟩:=h
 ·cases Q
 ·have e2:k=g:=by injection Q
  subst e2;rw[hk] at z;injection z with z;injection z with _ z;exact ht z
theorem Uh{w:World}{base:Nat}{v}{n:Nat}{L:List ByteArray}(h:w.ownsRow base 9 1 v n (L.map Value.string)):∃ a cap,v = F a n cap/\n<=cap/\cap<=cW/\(a=none->n=0/\cap=0)/\TextsAt w a n L:=by
 have z:L.length=n:=by have:=h.1;simpa using this
 rcases h.2 with ⟨rfl,rfl⟩|⟨g,cap,Q,rfl,_,_,h1,h2,_,_⟩
 ·have e:L=[]:=aP.1 z;subst e;exact⟨none,0,rfl,aF _,by unfold cW;omega,λ_=>⟨rfl,rfl⟩,TextsAt.nil _ _⟩
 ·refine⟨_,cap,rfl,h1,h2,λe=>(by cases e),z,λ_=>⟨g,0,rfl,λi hi=>?_⟩⟩;rw[Nat.zero_add,World.ownsRow.cellAt h i (by omega)];simp[hi]
theorem Y1(n lo hi:Int)(b:Bool)(w)(z:b=(decide (lo<=n) && decide (n<=hi))) :
  Calls aB 103 #[E J n,E J lo,E J hi] w λe w'=>e = dA (dD b)/\w=w':=by
 by_cases h1:lo<=n
 ·by_cases h2:n<=hi
  ·have e:b=true:=(by rw[z];simp[h1,h2]);subst e;clear z;go_enter func103,ntmps103;go_wp2;go_ret;exact⟨rfl,rfl⟩
  ·have e:b=false:=(by rw[z];simp[h2]);have h4:decide (n<=hi)=false:=(by simp;omega);have h5:hi<n:=(by omega);subst e;clear z h2;go_enter func103,ntmps103;go_wp2;go_ret;exact⟨rfl,rfl⟩
 ·have e:b=false:=by rw[z];simp[h1]
  have h5:n<lo:=by omega
  subst e;clear z h1;go_enter func103,ntmps103;go_wp2;go_ret;exact⟨rfl,rfl⟩
theorem Tryz.info9:(Tryz.prog.info? 9).map (λi=>(i.zero,i.size,i.bytes))=some (some (.string ⟨#[]⟩),1,16):=by kernel_rfl
theorem Tryz.infoInt:(Tryz.prog.info? 3).map (λi=>(i.zero,i.size,i.bytes))=some (some (E J 0),1,8):=by kernel_rfl
theorem key9:Keyed aB 9:=string_keyed underlying9
theorem zero3(w):(zeroValue 3).run aB w = .ok (E J 0) w:=by kernel_rfl
open Go.RowKit Go.Maps
abbrev Fg(s:ByteArray):Lit:=.string s.data.toList
abbrev Py(n:Int):DataW Unit:=.lit (.int .i64 n)
structure Wr(base p bm:Nat)(wr:World)(v:Value)(D:DataW Unit)(L:List ByteArray):Prop where
 box:wr.heap[p]? = some (cZ #[v,.map (some bm)] 243 (0,0))
 pge:base<=p
 mge:base<=bm
 own:wr.ownsRow base 9 1 v L.length (L.map Value.string)
 map:wr.ownsMap aB 9 (plainElem (H:=Unit) aB 3) bm L.length D
 ism:IsMap D
 names:∀ s:ByteArray,D.atKey (Fg s) (Py 0)=Py (place s L:Nat)
def Far(w w':World):Prop:=∀ (k:Nat) (cs:Array Value) (t:cR),w.heap[k]? = some (cZ cs t (0,0))->t≠9->t≠243->w'.heap[k]? = w.heap[k]?
theorem Far.refl(w):Far w w:=λ_ _ _ _ _ _=>rfl
theorem Far.trans{a b c}(h:Far a b)(g:Far b c):Far a c:=λk cs t z h1 h2=>(g k cs t ((h k cs t z h1 h2).trans z) h1 h2).trans (h k cs t z h1 h2)
theorem Zoz{w w':World}(h:aC w.heap.size w w'):Far w w':=λk _ _ z _ _=>h.block k (aA z)
theorem Wr.keep{base p bm:Nat}{w w':World}{v}{D:DataW Unit}{L}(h:Wr base p bm w v D L)(z:aC w.heap.size w w'):Wr base p bm w' v D L:=by
 refine⟨(z.block p (aA h.box)).trans h.box,h.pge,h.mge,Vy h.own (λk cs _ hk=>z.block k (aA hk)),?_,h.ism,h.names⟩;obtain⟨es,Q,h1,r⟩:=h.map;exact⟨es,Q,(z.block bm (aA h1)).trans h1,r⟩
theorem Wr.cell0{base p bm:Nat}{w:World}{v}{D:DataW Unit}{L}(h:Wr base p bm w v D L):w.cell? ⟨p,0,none⟩=some v/\w.cell? ⟨p,1,none⟩=some (.map (some bm))/\w.frozen? ⟨p,0,none⟩=false:=by
 refine⟨?_,?_,?_⟩
 ·simp[bF,h.box]
 ·simp[bF,h.box]
 ·simp[World.frozen?,h.box]
theorem Zgj{D:DataW Unit}{L:List ByteArray}{s:ByteArray}(z:IsMap D)(h:∀ s:ByteArray,D.atKey (Fg s) (Py 0)=Py (place s L:Nat))(hs:s∉L) :
  ∀ x:ByteArray,(D.put (Fg s) (Py ((L.length:Int)+1))).atKey (Fg x) (Py 0)=Py (place x (L++[s]):Nat):=by
 intro x;by_cases e:x=s
 ·subst e;rw[atKey_put_same z (by simp[WideAt.IsKeyLit]),Ky hs];simp
 ·have Q:Fg x≠Fg s:=by
   intro h2
   apply e
   have h3:x.data.toList=s.data.toList:=(by injection h2);have h4:x.data=s.data:=(by rw[<-Array.toList_inj];exact h3);cases x;cases s;simp_all
  rw[atKey_put_other Q,h x,Bi L e]
theorem Nb(w:World)(p:Nat)(x y v)(t:cR)(h:w.heap[p]? = some (cZ #[x,y] t (0,0))):(w.setCell ⟨p,0,none⟩ v).heap[p]? = some (cZ #[v,y] t (0,0)):=by
 rw[heap_setCell_same w p 0 #[x,y] t v h];rfl
structure Mid(base p bm:Nat)(X Y:World)(v:Value)(D:DataW Unit)(L:List ByteArray)(s:ByteArray):Prop where
 box:Y.heap[p]? = some (cZ #[v,.map (some bm)] 243 (0,0))
 own:Y.ownsRow base 9 1 v (L.length+1) ((L++[s]).map Value.string)
 map:Y.ownsMap aB 9 (plainElem (H:=Unit) aB 3) bm L.length D
 bel:aC base X Y
 far:Far X Y
theorem Wr.mid{base p bm:Nat}{X w3:World}{v v3:Value}{D:DataW Unit}{L:List ByteArray}{s:ByteArray}(h:Wr base p bm X v D L)
  (aj:w3.ownsRow base 9 1 v3 (L.length+1) (L.map Value.string++[.string s])) (hg:X.grownBy w3 v.ownBlock):Mid base p bm X (w3.setCell ⟨p,0,none⟩ v3) v3 D L s:=by
 have ak:=aA h.box;have ag:base<=X.heap.size:=aT h.pge (Nat.le_of_lt ak);have far:∀ (k:Nat) (cs:Array Value) (t:cR),X.heap[k]? = some (cZ cs t (0,0))->t≠9->w3.heap[k]? = X.heap[k]?:=λk cs t z ht=>Ge h.own hg k cs t z ht;have ab:w3.heap[p]? = some (cZ #[v,.map (some bm)] 243 (0,0)):=(far _ _ _ h.box (by decide)).trans h.box;have Q:∀ (k:Nat),k≠p->(w3.setCell ⟨p,0,none⟩ v3).heap[k]? = w3.heap[k]?:=λk z=>heap_setCell_other w3 ⟨p,0,none⟩ k v3 z;refine⟨Nb w3 p v _ v3 _ ab,?_,?_,?_,?_⟩
 ·rw[List.map_append];refine Vy aj (λk cs _ z=>Q k (λe=>?_));subst e;rw[ab] at z;injection z with z;injection z with _ z;exact absurd z (by decide)
 ·obtain⟨es,ad,h1,r⟩:=h.map
  have ah:some bm≠v.ownBlock:=by
   intro e;obtain⟨_,⟨rfl,_⟩|⟨g,cap,am,rfl,_,hh,_⟩⟩:=h.own
   ·cases e
   ·have e2:bm=g:=(by injection e);subst e2;rw[h1] at hh;cases hh
  have h3:w3.heap[bm]? = X.heap[bm]?:=hg.block bm (aA h1) ah
  have hp:bm≠p:=by
   intro e;subst e;rw[h.box] at h1;cases h1
  exact⟨es,ad,(Q bm hp).trans (h3.trans h1),r⟩
 ·exact ((Below.refl base X).grown hg ag (λk z=>Zjz h.own k z)).setCell h.pge _
 ·intro k cs t z h9 h50
  have hp:k≠p:=by
   intro e;subst e;rw[h.box] at z;injection z with z;injection z with _ z;exact h50 z.symm
  exact (Q k hp).trans (far k cs t z h9)
theorem Mid.wr{base p bm:Nat}{X Y w4:World}{v}{D:DataW Unit}{L:List ByteArray}{s:ByteArray}(h:Mid base p bm X Y v D L s)(hm:IsMap D)(hp:base<=p)(hb:base<=bm)(hs:s∉L)
  (names:∀ s:ByteArray,D.atKey (Fg s) (Py 0)=Py (place s L:Nat))
  (ag:w4.ownsMap aB 9 (plainElem (H:=Unit) aB 3) bm (L.length+1) (D.put (Fg s) (Py ((L.length:Int)+1)))) (Q:Y.grownBy w4 (some bm)) :
  Wr base p bm w4 v (D.put (Fg s) (Py ((L.length:Int)+1))) (L++[s])/\aC base X w4/\Far X w4:=by
 have kept:∀ (k:Nat) (cs:Array Value) (t:cR),Y.heap[k]? = some (cZ cs t (0,0))->w4.heap[k]? = Y.heap[k]?:=λk cs t z=>Q.block k (aA z) (λe=>by
  have e2:k=bm:=by injection e
  subst e2;obtain⟨es,aj,h1,_⟩:=h.map;rw[h1] at z;cases z)
 have hl:(L++[s]).length=L.length+1:=by simp
 have ae:base<=Y.heap.size:=aT hp (Nat.le_of_lt (aA h.box));refine⟨⟨(kept _ _ _ h.box).trans h.box,hp,hb,?_,?_,?_,Zgj hm names hs⟩,?_,?_⟩
 ·rw[hl];exact Vy h.own (λk cs _ z=>kept k cs _ z)
 ·rw[hl];exact ag
 ·obtain⟨es,rfl⟩:=hm;exact⟨_,rfl⟩
 ·exact h.bel.trans ((Below.refl base Y).grown Q ae (λk z=>by injection z with z;omega))
 ·exact λk cs t z h9 h50=>(kept k cs t ((h.far k cs t z h9 h50).trans z)).trans (h.far k cs t z h9 h50)
open Go.RowKit Go.Maps
theorem add_is(base p bm:Nat)(v)(D:DataW Unit)(L:List ByteArray)(s:ByteArray)(w)(Q:Wr base p bm w v D L)(hL:L.length<=120)(hs:s∉L)(hz:s.size<=4000) :
  Calls aB 195 #[.pointer (some ⟨p,0,none⟩),.string s] w λe w'=>e = dA (.int .i64 ((L.length:Int)+1))/\(∃ v' D',Wr base p bm w' v' D' (L++[s]))/\aC base w w'/\Far w w':=by
 obtain⟨i0,hi,bq,br,bs⟩:=info_parts Tryz.info9;have bo:=aA Q.box;have ar:base<=w.heap.size:=aT Q.pge (Nat.le_of_lt bo);obtain⟨X,hX⟩:=ZG (w.alloc (cZ #[.string s] 9));have ae:aC w.heap.size w X:=by rw[hX];exact Zh _ _
 have bj:X.heap.size=w.heap.size+1:=by rw[hX];simp
 have av:X.heap[w.heap.size]? = some (cZ #[.string s] 9 (0,0)):=by rw[hX];exact aH _ _
 have WX:=Q.keep ae;obtain⟨c0,c1,cf⟩:=Q.cell0;have bf:=Zd (World.news_of_block av);obtain⟨a,cap,rfl,-,-,-,-⟩:=Uh Q.own;obtain⟨bg,z,HL,HS,HZ,aj,HB,al⟩:=kh8 WX.own WX hL hs hz ae ar bj;clear WX ae av hL hs hz Q ar;subst hX;go_enter func195,ntmps195
 go_wp2_with (at_builtin;refine wpList_append_lies _ rfl _ _ 22 rfl base 9 i0 (.string ⟨#[]⟩) 1 16 underlying22 hi bq br bs rfl (by decide) _ _ _ rfl bg ⟨w.heap.size,0,none⟩ 1 1 [.string s] rfl rfl bf (λu hu=>by simp at hu;subst hu;rfl) (by decide) (by have:=Za HL;unfold cW;omega) (by have:=Za HL;omega) (by have:=Za HB;have:=Za al;omega) (w.heap.size+1) al ?_;intro g am w3 aw ag bk cc;have M:=z.mid aw ag;have af:=(Ge z.own ag p _ _ z.box (by decide)).trans z.box;have d0:w3.cell? ⟨p,0,none⟩=some (F a L.length cap):=(by simp[bF,af]);have df:w3.frozen? ⟨p,0,none⟩=false:=(by simp[World.frozen?,af]);have HM:=Zd M;clear M af aw ag bk)
 obtain⟨Y,hY⟩:=ZG (w3.setCell ⟨p,0,none⟩ (F (some ⟨g,0,none⟩) (L.length+1) am));rw[<-hY] at HM ⊢;have M:=Za HM;have e0:Y.cell? ⟨p,0,none⟩=some (F (some ⟨g,0,none⟩) (L.length+1) am):=by simp[bF,M.box]
 have e1:Y.cell? ⟨p,1,none⟩=some (.map (some bm)):=by simp[bF,M.box]
 have hD:Y.drew.ownsMap aB 9 (plainElem (H:=Unit) aB 3) bm L.length D:=M.map.drew;obtain⟨w4,cd,ax,aa⟩:=hD.update key9 underlying241 (by have:=Za HL;unfold cW;omega) (Go.WideMaps.keyOf_string_mk underlying9 (s:=s) (by have:=Za HZ;unfold cW;omega)) (plainElem_int (H:=Unit) bC (q:=.i64) (a:=(L.length:Int)+1) (by have:=Za HL;simp[Lit.wf,IntKind.min,IntKind.max,IntKind.signed,IntKind.bits];omega));have au:Y.grownBy w4 (some bm):=⟨aa.1,aa.2,aa.3,aa.4,aa.5⟩;have R:=Zd (M.wr z.ism z.pge z.mge HS z.names ax au);obtain⟨f0,f1,f2⟩:=R.1.cell0;clear hY M hD ax aa au d0 df
 go_region
 go_wp2;go_ret;exact⟨rfl,⟨_,_,R.1⟩,(aj.mono HB).trans R.2.1,(Zoz aj).trans R.2.2⟩
theorem Zoh{a b:Int}(h:Py a=Py b):a=b:=by
 injection h with h;injection h
theorem Wr.look{base p bm:Nat}{w v}{D:DataW Unit}{L}(h:Wr base p bm w v D L)(s:ByteArray)(hs:s.size<=4000) :
  Sem.run aB (Instr.lookup 241 (.map (some bm)) (.string s) false) w = .ok (.int .i64 (place s L:Nat)) w:=by
 obtain⟨c,Q,z,_⟩:=h.map.lookup_int key9 underlying241 bC (zero3 w) (Go.WideMaps.keyOf_string_mk underlying9 (s:=s) (by unfold cW;omega))
 have e:c=(place s L:Nat):=by
  have h2:=h.names s;rw[h2] at z;exact (Zoh z).symm
 subst e;exact Q
theorem Zoa(base p bm:Nat)(v)(D:DataW Unit)(L M:List ByteArray)(s:ByteArray)(n e:Int)(w)(hW:Wr base p bm w v D L)(hL:L.length<=120)(z:nm L s=(M,n,e)) :
  Calls aB 154 #[.pointer (some ⟨p,0,none⟩),.string s] w λx w'=>x = dA (.tuple #[.int .i64 n,.int .i64 e])/\(e=0->∃ v' D',Wr base p bm w' v' D' M)/\aC base w w'/\Far w w':=by
 obtain⟨c0,c1,cf⟩:=hW.cell0;have ag:=hW;obtain⟨a,cap,rfl,-,-,-,-⟩:=Uh hW.own;have HW:=Zd ag;clear hW ag;by_cases h1:4000<s.size
 ·have Q:nm L s=([],0,2):=by unfold nm;rw[if_pos h1]
  rw[Q] at z;obtain⟨rfl,aa⟩:=aN .. ▸ z;obtain⟨rfl,rfl⟩:=aN .. ▸ aa;have g:(4000:Int)<(s.size:Int):=by omega
  clear z aa Q h1;go_enter func154,ntmps154;go_wp2;go_ret2;exact⟨rfl,λh=>absurd h (by decide),Below.refl _ _,Far.refl _⟩
 ·have hz:s.size<=4000:=by omega
  have g:¬(4000:Int)<(s.size:Int):=by omega
  have ak:=HW.look s hz;by_cases h2:place s L≠0
  ·have Q:nm L s=(L,(place s L:Int),0):=(by unfold nm;rw[if_neg h1,if_pos h2]);rw[Q] at z;obtain⟨rfl,aa⟩:=aN .. ▸ z;obtain⟨rfl,rfl⟩:=aN .. ▸ aa;obtain⟨q,hq⟩:=ZF (place s L);rw[hq] at ak h2 ⊢;have g2:((q:Int) != 0)=true:=(by simp;omega);clear z aa Q h1 h2 hq;go_enter func154,ntmps154;go_wp2;go_ret2
   first|exact⟨rfl,λ_=>⟨_,_,Za HW⟩,Below.refl _ _,Far.refl _⟩|exact⟨rfl,⟨_,_,Za HW⟩,Below.refl _ _,Far.refl _⟩
  ·have h3:place s L=0:=(by omega);rw[h3] at ak;by_cases h4:120<=L.length
   ·have Q:nm L s=([],0,12):=(by unfold nm;rw[if_neg h1,if_neg h2,if_pos h4]);rw[Q] at z;obtain⟨rfl,aa⟩:=aN .. ▸ z;obtain⟨rfl,rfl⟩:=aN .. ▸ aa;have g2:((L.length:Int) == 120)=true:=(by simp;omega);clear z aa Q h1 h2 h3 h4;go_enter func154,ntmps154;go_wp2;go_ret2
    first|exact⟨rfl,λh=>absurd h (by decide),Below.refl _ _,Far.refl _⟩|exact⟨rfl,Below.refl _ _,Far.refl _⟩
   ·have Q:nm L s=(L++[s],(L.length:Int)+1,0):=(by unfold nm;rw[if_neg h1,if_neg h2,if_neg h4]);rw[Q] at z;obtain⟨rfl,aa⟩:=aN .. ▸ z;obtain⟨rfl,rfl⟩:=aN .. ▸ aa;have g2:((L.length:Int) == 120)=false:=(by simp;omega);have A:=Zd (add_is base p bm _ D L s w HW hL (place_zero.1 h3) hz);clear z aa Q h1 h2 h3 h4;go_enter func154,ntmps154;go_wp2_with fail;refine A.mono ?_;rintro x w2 ⟨rfl,al,ah,aj⟩;obtain⟨H2,ae,af⟩:=kh3 al ah aj;clear al ah aj;go_wp2;go_ret2
    first|exact⟨rfl,λ_=>Za H2,Za ae,Za af⟩|exact⟨rfl,Za H2,Za ae,Za af⟩
open Go.RowKit Go.Maps
theorem Lh(n:Int)(w:World):(Instr.makeMap 241 (some (E J n))).run aB w = .ok (.map (some w.heap.size)) (w.alloc (.map #[] 0)):=by kernel_rfl
theorem Zio(w:World)(base:Nat)(z:base<=w.heap.size):Wr base (w.heap.size+1) w.heap.size ((w.alloc (.map #[] 0)).alloc (cZ #[F none 0 0,.map (some w.heap.size)] 243)) (F none 0 0) (.map []) []:=by
 have e:(w.alloc (.map #[] 0)).heap.size=w.heap.size+1:=by simp
 refine⟨?_,by omega,z,⟨rfl,Or.inl ⟨rfl,rfl⟩⟩,?_,⟨[],rfl⟩,λs=>rfl⟩
 ·have:=aH (w.alloc (.map #[] 0)) (cZ #[F none 0 0,.map (some w.heap.size)] 243);rw[e] at this;exact this
 ·exact (World.ownsMap_made w aB 9 (plainElem (H:=Unit) aB 3)).alloc _
theorem Zgd(b off n c:Nat)(L:List ByteArray)(w:World)(hz:L.length=n)(h0:0<n)(h1:n<=120)(hb:b<w.heap.size)(hc:∀ i (h:i<L.length),w.cell? ⟨b,off+i,none⟩=some (.string L[i]))(x:Int)(hx:bkGo [] L=x) :
  Calls aB 133 #[.agg #[F (some ⟨b,off,none⟩) n c]] w λe w'=>∃ v,e = dA (dB #[v,E J x])/\(x=0->∃ p bm v' D',v = dC (some ⟨p,0,none⟩)/\Wr w.heap.size p bm w' v' D' L)/\aC w.heap.size w w':=by
 have aj:=Zh w (cZ #[F (some ⟨b,off,none⟩) n c] 24);have aq:(w.alloc (cZ #[F (some ⟨b,off,none⟩) n c] 24)).heap.size=w.heap.size+1:=by simp
 have W0:=Zio (w.alloc (cZ #[F (some ⟨b,off,none⟩) n c] 24)) w.heap.size (by omega);rw[aq] at W0;obtain⟨X,hX⟩:=ZG (((w.alloc (cZ #[F (some ⟨b,off,none⟩) n c] 24)).alloc (.map #[] 0)).alloc (cZ #[F none 0 0,.map (some (w.heap.size+1))] 243))
 have al:aC w.heap.size w X:=by
  rw[hX];exact Zf (Zf aj (Zh _ _)) (Zh _ _)
 have cX:X.cell? ⟨w.heap.size,0,none⟩=some (F (some ⟨b,off,none⟩) n c):=by
  rw[hX];exact Ze (Zf (Zh _ _) (Zh _ _)) (Rp w (F (some ⟨b,off,none⟩) n c) 24)
 rw[<-hX] at W0;obtain⟨bb,ax,HC,HZ,HX⟩:=kh5 W0 al hc hz hx;have br:=Lh;have g:¬(120:Int)<(n:Int):=by omega
 clear W0 al hc hz hx aj aq;go_enter func133,ntmps133;go_wp2;rw[<-hX];clear hX
 go_loopw [20] (λi wr=>∃ j:Nat,j<=n/\i = E J j/\aC w.heap.size w wr/\(∃ v D,Hid (Wr w.heap.size (w.heap.size+2) (w.heap.size+1) wr v D (L.take j)))/\Hid (bkGo (L.take j) (L.drop j)=x)) (λi _=>n - (cK i).toNat)
 case atStart=>exact⟨0,aL _,rfl,Za ax,⟨_,_,bb⟩,Za HX⟩
 case round=>
  obtain⟨j,hk,rfl,ab,⟨v,D,Q⟩,A⟩:=hrel;have z:=Zd ab;by_cases bg:j<n
  ·have ae:j<L.length:=(by rw[Za HZ];exact bg);have f:=(bU (ab.block b hb)).trans (HC j ae);have bq:b<wr.heap.size:=Nat.lt_of_lt_of_le hb ab.size;obtain⟨c0,c1,cf⟩:=Q.cell0;have S:=bk_at ae;rw[Za A] at S;have bo:(L.take j).length=j:=(by rw[List.length_take];omega);have TK:=Zd (aS ae);obtain⟨s,hs⟩:=ZF (L[j]);rw[hs] at f S TK;clear hs ab A;by_cases h2:4000<s.size
   ·rw[if_pos h2] at S;subst S;have g2:(4000:Int)<(s.size:Int):=(by omega);clear h2;go_wp2;go_ret2
    first|exact⟨_,rfl,λh=>absurd h (by decide),Za z⟩|exact⟨⟨_,rfl⟩,Za z⟩
   ·rw[if_neg h2] at S;have g2:¬(4000:Int)<(s.size:Int):=(by omega);have hz:s.size<=4000:=(by omega);have an:=Q.look s hz;by_cases h3:place s (L.take j)≠0
    ·rw[if_pos h3] at S;subst S;obtain⟨q,hq⟩:=ZF (place s (L.take j));rw[hq] at an h3;have g3:((q:Int) != 0)=true:=(by simp;omega);clear h2 h3 hq;go_wp2;go_ret2
     first|exact⟨_,rfl,λh=>absurd h (by decide),Za z⟩|exact⟨⟨_,rfl⟩,Za z⟩
    ·rw[if_neg h3] at S;have h4:place s (L.take j)=0:=(by omega);rw[h4] at an;have AD:=Zd (add_is w.heap.size (w.heap.size+2) (w.heap.size+1) v D (L.take j) s wr Q (by omega) (place_zero.1 h4) hz);have HS:Hid (bkGo (L.take (j+1)) (L.drop (j+1))=x):=S.symm;clear h2 h3 h4 S;go_wp2_with fail;refine AD.mono ?_;rintro e w2 ⟨rfl,ar,ak,bf⟩;obtain⟨H2,aw⟩:=kh2 ar (z.trans ak);clear ar ak bf;go_wp2;go_roundw
     case rel=>
      obtain⟨v',D',af⟩:=Za H2;exact⟨j+1,by omega,by go_num,Za aw,⟨v',D',by rw[Za TK];exact af⟩,HS⟩
     case measure=>simp[cK];omega
  ·have R:Hid (x=0):=(by show _=_;rw[<-Za A];exact Zsa (by rw[Za HZ];omega));have bd:Hid (∃ v' D',Wr w.heap.size (w.heap.size+2) (w.heap.size+1) wr v' D' L):=⟨v,D,by have:=Za Q;rw[List.take_of_length_le (by rw[Za HZ];omega)] at this;exact this⟩;clear A ab Q;go_wp2;go_ret2;refine⟨dC (some ⟨w.heap.size+2,0,none⟩),?_,λ_=>?_,Za z⟩
   ·rw[Za R];rfl
   ·obtain⟨v',D',af⟩:=Za bd;exact⟨_,_,v',D',rfl,af⟩
theorem D9(a n c L)(w:World)(h:TextsAt w a n L)(x:Int)(hx:bkChk L=x) :
  Calls aB 133 #[.agg #[F a n c]] w λe w'=>∃ v,e = dA (dB #[v,E J x])/\(x=0->∃ p bm v' D',v = dC (some ⟨p,0,none⟩)/\Wr w.heap.size p bm w' v' D' L)/\aC w.heap.size w w':=by
 have Q:=h.1;by_cases h1:120<n
 ·have e:x=2:=by rw[<-hx];unfold bkChk;rw[if_pos (by omega)]
  subst e;have g:(120:Int)<(n:Int):=by omega
  have z:=Zd (Zh w (cZ #[F a n c] 24));clear h hx h1 Q;go_enter func133,ntmps133;go_wp2;go_ret2
  first|exact⟨_,rfl,λh=>absurd h (by decide),Za z⟩|exact⟨⟨_,rfl⟩,Za z⟩
 ·have aa:bkGo [] L=x:=by rw[<-hx];unfold bkChk;rw[if_neg (by omega)]
  by_cases h0:n=0
  ·subst h0;have e:L=[]:=aP.1 Q;subst e;have e:x=0:=(by rw[<-aa];rfl);subst e;have ac:(w.alloc (cZ #[F a 0 c] 24)).heap.size=w.heap.size+1:=(by simp);have W0:=Zio (w.alloc (cZ #[F a 0 c] 24)) w.heap.size (by omega);rw[ac] at W0;obtain⟨ad,z⟩:=kh2 W0 (Zf (Zf (Zh w (cZ #[F a 0 c] 24)) (Zh _ (.map #[] 0))) (Zh _ (cZ #[F none 0 0,.map (some (w.heap.size+1))] 243)));have ae:=Lh;clear h hx h1 Q aa ac W0;go_enter func133,ntmps133;go_wp2;refine wp_loop_rounds 1 ?_;rw[rounds_succ];go_wp2;go_ret2;refine⟨_,rfl,λ_=>⟨_,_,_,_,rfl,Za ad⟩,Za z⟩
  ·obtain⟨b,off,rfl,hc⟩:=h.2 (by omega);exact Zgd b off n c L w Q (by omega) (by omega) (aE _ _ (hc 0 (by omega))) hc x aa
open Go.RowKit Go.Maps
def allR(L l:List ByteArray):List ByteArray×List Int×Int:=if bkChk L=0 then nmGo L [] l else ([],[],bkChk L)
def IntsAt(w:World)(a:Option Addr)(len:Nat)(Z:List Int):Prop:=
 Z.length=len/\(0<len->∃ b off,a=some ⟨b,off,none⟩/\∀ i (h:i<Z.length),w.cell? ⟨b,off+i,none⟩=some (E J Z[i]))
theorem IntsAt.later{w w':World}{a len Z}(h:IntsAt w a len Z)(z:aC w.heap.size w w'):IntsAt w' a len Z:=by
 refine⟨h.1,λh0=>?_⟩;obtain⟨b,off,e,Q⟩:=h.2 h0;exact⟨b,off,e,λi hi=>Ze z (Q i hi)⟩
theorem IntsAt.nil(w a):IntsAt w a 0 []:=⟨rfl,λh=>absurd h (by omega)⟩
def SlOk(a:Option Addr)(n c:Nat):Prop:=n<=c/\c<=cW/\(a=none->n=0/\c=0)
theorem SlOk.nil:SlOk none 0 0:=⟨aF _,by unfold cW;omega,λ_=>⟨rfl,rfl⟩⟩
theorem Wr.beside{base p bm g j:Nat}{w:World}{v u}{D:DataW Unit}{L}(h:Wr base p bm w v D L)(z:∃ cs,w.heap[g]? = some (cZ cs 3 (0,0))):Wr base p bm (w.setCell ⟨g,j,none⟩ u) v D L:=by
 obtain⟨cs,z⟩:=z;have far:∀ k,k≠g->(w.setCell ⟨g,j,none⟩ u).heap[k]? = w.heap[k]?:=λk Q=>heap_setCell_other w ⟨g,j,none⟩ k u Q;refine⟨?_,h.pge,h.mge,?_,?_,h.ism,h.names⟩
 ·rw[far p (λe=>?_)]
  ·exact h.box
  ·subst e;rw[h.box] at z;injection z with z;injection z with _ z;exact absurd z (by decide)
 ·refine Vy h.own (λk ac _ Q=>far k (λe=>?_));subst e;rw[Q] at z;injection z with z;injection z with _ z;exact absurd z (by decide)
 ·obtain⟨es,aa,h1,r⟩:=h.map;refine⟨es,aa,(far bm (λe=>?_)).trans h1,r⟩;subst e;rw[h1] at z;cases z
def Filled(base g n:Nat)(N:List Int)(w:World):Prop:=∃ xs:List Value,w.ownsRow base 3 1 (F (some ⟨g,0,none⟩) n n) n xs/\∀ j (h:j<N.length),xs[j]? = some (E J N[j])
theorem Filled.block{base g n:Nat}{N}{w:World}(h:Filled base g n N w):base<=g/\∃ cs,w.heap[g]? = some (cZ cs 3 (0,0)):=by
 obtain⟨xs,ho,_⟩:=h;obtain⟨_,⟨e,_⟩|⟨g',cap,z,e,Q,hh,_⟩⟩:=ho
 ·cases e
 ·cases e;exact⟨Q,z,hh⟩
theorem Filled.far{base g n:Nat}{N w w'}(h:Filled base g n N w)(z:Far w w'):Filled base g n N w':=by
 obtain⟨xs,ho,hx⟩:=h;exact⟨xs,Vy ho (λk cs _ Q=>z k cs _ Q (by decide) (by decide)),hx⟩
theorem Filled.old{base g n:Nat}{N}{w:World}(h:Filled base g n N w){k:Nat}(Q:k<n):(∃ v,w.cell? ⟨g,k,none⟩=some v)/\w.frozen? ⟨g,k,none⟩=false/\g<w.heap.size:=by
 obtain⟨xs,z,_⟩:=h;have hl:xs.length=n:=by simpa using z.1
 exact⟨⟨xs[k]'(by omega),by rw[z.cellAt k (by omega)];simp[hl,Q]⟩,z.frozenAt k,(z.lt g rfl).2⟩
theorem Filled.step{base g n:Nat}{N:List Int}{w:World}(h:Filled base g n N w)(hk:N.length<n)(x:Int):Filled base g n (N++[x]) (w.setCell ⟨g,N.length,none⟩ (E J x)):=by
 obtain⟨xs,Q,hx⟩:=h;have hl:xs.length=n:=by simpa using Q.1
 refine⟨xs.set N.length (E J x),(Q.stored N.length _).1,λj hj=>?_⟩;by_cases e:j=N.length
 ·subst e;simp[hl,hk]
 ·have z:j<N.length:=by simp at hj;omega
  rw[List.getElem?_set_ne (by omega),hx j z];simp[z]
theorem Filled.ints{base g n:Nat}{N:List Int}{w}(h:Filled base g n N w)(Q:N.length=n):IntsAt w (some ⟨g,0,none⟩) n N:=by
 obtain⟨xs,z,hx⟩:=h;have hl:xs.length=n:=by simpa using z.1
 refine⟨Q,λ_=>⟨g,0,rfl,λi hi=>?_⟩⟩;rw[Nat.zero_add,z.cellAt i (by omega),hx i hi]
theorem results_cell_tmp2{fn:Func}{p u v:Tmp}{ty:cR}(h:fn.results=#[.cell p ty,.tmp u,.tmp v])(tmps:Array Value)(P:Program)(w) :
  (results fn tmps).run P w =
   ((asAddr (tmps.getD p undef)).run P w).andThen λa z=>((loadVar ty a).run P z).andThen λx Q=>.ok (dB #[x,tmps.getD u undef,tmps.getD v undef]) Q:=by
 simp only[results,h];simp[Sem.run_bind,Result.andThen]
theorem Zew{w:World}{base n c:Nat}{a}{L:List ByteArray}(h:w.ownsRow base 9 1 (F a n c) n (L.map Value.string)):TextsAt w a n L:=by
 obtain⟨Q,c',e,_,_,_,z⟩:=Uh h;cases e;exact z
theorem Znz{l:List ByteArray}{j:Nat}(h:j<l.length)(L N):nmGo L N (l.drop j)=if (nm L l[j]).2.2=0 then nmGo (nm L l[j]).1 (N++[(nm L l[j]).2.1]) (l.drop (j+1)) else ([],[],(nm L l[j]).2.2):=by
 rw[aI h,nmGo]
theorem Zkm{l:List ByteArray}{j:Nat}(h:l.length<=j)(L N):nmGo L N (l.drop j)=(L,N,0):=by
 rw[bM h];rfl
theorem Zeo(a al n c nl cl L)(w:World)(h:TextsAt w a n L)(x:Int)(hx:bkChk L=x)(h0:x≠0) :
  ZH 86 #[.agg #[F a n c],F al nl cl] w (dB #[.agg #[F none 0 0],F none 0 0,E J x]):=by
 have aa:=Zh w (cZ #[F a n c] 24);have z:=Zh (w.alloc (cZ #[F a n c] 24)) (cZ #[F none 0 0] 24);have Q:=Zf aa z;have ab:(w.alloc (cZ #[F a n c] 24)).heap.size=w.heap.size+1:=by simp
 have c1:=aH (w.alloc (cZ #[F a n c] 24)) (cZ #[F none 0 0] 24);rw[ab] at c1;obtain⟨O,HB,C1⟩:=kh3 (D9 a n c L _ (h.later Q) x hx) Q c1;have g:(x != 0)=true:=by simp[h0]
 clear h hx Q aa z c1 ab;go_enter func86,ntmps86;go_wp2_with fail;refine O.mono ?_;rintro e w2 ⟨v,rfl,-,z⟩;have ad:=Zd (Zf HB z);have c1:=ZE z C1;have d0:w2.cell? ⟨w.heap.size+1,0,none⟩=some (F none 0 0):=by simp[bF,c1]
 have df:w2.frozen? ⟨w.heap.size+1,0,none⟩=false:=by simp[World.frozen?,c1]
 have aj:w.heap.size+1<w2.heap.size:=aA c1;clear z c1;go_wp2;(try simp only[Exit.inBlock,Exit.then]);refine aW (v:=dB #[.agg #[F none 0 0],F none 0 0,E J x]) ?_ rfl ⟨rfl,?_⟩
 ·rw[results_cell_tmp2 rfl];go_simp
 ·exact ad.setCell (Nat.le_succ _) _
theorem Mo(a al n c nl cl L l M N)(x:Int)(w:World)(h:TextsAt w a n L)(hl:TextsAt w al nl l)(dy:nl<=17592186044416)(hR:Right L)(hx:nmGo L [] l=(M,N,x)) :
  Calls aB 86 #[.agg #[F a n c],F al nl cl] w λe w'=>(∃ a' Q c' a2 n2 c2,e = dA (dB #[.agg #[F a' Q c'],F a2 n2 c2,E J x])/\(∀ w2,Gr w' w2 (λk=>k<w.heap.size)->TextsAt w2 a' Q M)/\SlOk a' Q c'/\IntsAt w' a2 n2 N/\n2<=nl/\n2<=c2)/\aC w.heap.size w w':=by
 obtain⟨i0,hi,ed,ee,ef⟩:=info_parts Tryz.infoInt;have cf:=Zh w (cZ #[F a n c] 24);have ag:=Zh (w.alloc (cZ #[F a n c] 24)) (cZ #[F none 0 0] 24);have hb:=Zf cf ag;have cz:(w.alloc (cZ #[F a n c] 24)).heap.size=w.heap.size+1:=by simp
 have da:((w.alloc (cZ #[F a n c] 24)).alloc (cZ #[F none 0 0] 24)).heap.size=w.heap.size+2:=by simp
 have c1:=aH (w.alloc (cZ #[F a n c] 24)) (cZ #[F none 0 0] 24);rw[cz] at c1;have O:=Zd (D9 a n c L _ (h.later hb) 0 ((right_iff L).2 hR));rw[da] at O;obtain⟨HB,C1,bs,bu,HR,HX⟩:=kh6 hb c1 hl dy hR hx;clear h hl hx hb cf ag c1 cz da hR;go_enter func86,ntmps86;go_wp2_with fail;refine O.mono ?_;rintro e w2 ⟨v,rfl,ab,ag⟩;obtain⟨p,bm,v0,D0,rfl,av⟩:=ab (by trivial);have ea:w.heap.size+2<=w2.heap.size:=aT av.pge (Nat.le_of_lt (aA av.box));have c1:=(ag.block _ (by omega)).trans C1;have bq:Hid (aC w.heap.size w w2):=HB.trans (ag.mono (by omega));obtain⟨HW,C2⟩:=kh2 av c1;clear av ab ag c1
 go_wp2_with (at_make;refine wpList_make_full _ rfl _ _ 25 rfl (w.heap.size+2) 3 i0 (E J 0) 1 underlying25 hi ed ee .i64 .i64 _ _ nl rfl rfl rfl rfl (by rw[ef];have:=Za bu;omega) (by have:=Za bu;unfold cW;omega) ea ?_;intro w3 cw cm)
 have aq:aC w2.heap.size w2 w3:=(Below.refl _ _).grown cm (aF _) (λk h=>by cases h);have dn:=Zd (HW.keep aq);have br:Hid (Filled (w.heap.size+2) w2.heap.size nl [] w3):=⟨_,cw,λj hj=>absurd hj (by simp)⟩;obtain⟨C3,dh⟩:=kh2 (ZE aq C2) (Zf bq aq);obtain⟨g,hg⟩:=ZF (w2.heap.size);rw[hg] at br ⊢;clear aq cw cm HW C2 bq hg
 go_loopw [26] (λi wr=>∃ (j:Nat) (L':List ByteArray) (N':List Int),j<=nl/\i = E J j/\aC w.heap.size w wr/\Hid (∃ v D,Wr (w.heap.size+2) p bm wr v D L')/\Hid (Filled (w.heap.size+2) g nl N' wr)/\Hid (N'.length=j/\Right L'/\nmGo L' N' (l.drop j)=(M,N,x))/\Hid (wr.heap[w.heap.size+1]? = some (cZ #[F none 0 0] 24 (0,0)))) (λi _=>nl - (cK i).toNat)
 case atStart=>exact⟨0,L,[],aL _,rfl,Za dh,⟨_,_,Za dn⟩,br,⟨rfl,Za HR,Za HX⟩,C3⟩
 case round=>
  obtain⟨j,L',N',hk,rfl,ar,bx,HF,HN,HC⟩:=hrel;have ay:=Zd ar;by_cases ct:j<nl
  ·obtain⟨hz,cj⟩:=Za bs;obtain⟨b,off,rfl,hc⟩:=cj (by omega);have cq:j<l.length:=(by omega);have f:=Ze ar (hc j cq);obtain⟨v,D,ab⟩:=Za bx;obtain⟨q1,q2,z⟩:=Za HN;rw[Znz cq] at z;obtain⟨s,hs⟩:=ZF (l[j]);rw[hs] at f z;obtain⟨r,hr⟩:=ZF (nm L' s);rw[hr] at z;obtain⟨M',Q,e'⟩:=r;simp only at z;have CN:=Zd (Zoa (w.heap.size+2) p bm v D L' M' s Q e' wr ab q2.1 hr)
   have NR:Hid (e'=0->Right M'):=λh=>by
    have:=nm_right (L:=L') (s:=s) q2;rw[hr] at this;exact this h
   clear ab hs hc cj ar hr;by_cases he:e'=0
   ·subst he;rw[if_pos rfl] at z;obtain⟨Q3,cx⟩:=kh2 z q1;clear z q2 q1;go_wp2_with fail;refine CN.mono ?_;rintro y w5 ⟨rfl,aw,af,an⟩;have F5:=HF.far an;obtain⟨⟨u,hu⟩,du,dw⟩:=F5.old ct;have ei:=Zd F5;have hq:N'.length=j:=Za cx;have ST:=Zd (F5.step (by omega) Q);rw[hq] at ST;have di:=Zd (ay.trans (af.mono (by omega)))
    have W5:Hid (∃ v D,Wr (w.heap.size+2) p bm (w5.setCell ⟨g,j,none⟩ (E J Q)) v D M'):=by
     obtain⟨v',D',h'⟩:=(by first|exact aw|exact aw rfl|exact aw (by trivial):∃ v' D',Wr (w.heap.size+2) p bm w5 v' D' M');exact⟨v',D',h'.beside F5.block.2⟩
    have C5:Hid ((w5.setCell ⟨g,j,none⟩ (E J Q)).heap[w.heap.size+1]? = some (cZ #[F none 0 0] 24 (0,0))):=by
     show _=_;rw[heap_setCell_other _ _ _ _ (by show w.heap.size+1≠g;have:=F5.block.1;omega),af.block _ (by omega)];exact Za HC
    have ak:=Zd (di.setCell (p:=⟨g,j,none⟩) (by show w.heap.size<=g;have:=F5.block.1;omega) (E J Q));clear aw af an F5;go_wp2;go_roundw
    case rel=>exact⟨j+1,M',N'++[Q],by omega,by go_num,Za ak,W5,ST,⟨by simp;exact Za cx,NR (by trivial),Za Q3⟩,C5⟩
    case measure=>simp[cK];omega
   ·rw[if_neg he] at z;have e1:M=[]:=(by injection z with z _;exact z.symm);have e2:N=[]:=(by injection z with _ z;injection z with z _;exact z.symm);have e3:x=e':=(by injection z with _ z;injection z with _ z;exact z.symm);subst e1 e2 e3;have g5:(x != 0)=true:=(by simp[he]);clear z q2 q1;go_wp2_with fail;refine CN.mono ?_;rintro y w5 ⟨rfl,-,af,an⟩;have F5:=HF.far an;obtain⟨⟨u,hu⟩,du,dw⟩:=F5.old ct;have en:w.heap.size+2<=g:=F5.block.1
    have c5:(w5.setCell ⟨g,j,none⟩ (E J Q)).heap[w.heap.size+1]? = some (cZ #[F none 0 0] 24 (0,0)):=by
     rw[heap_setCell_other _ _ _ _ (by show w.heap.size+1≠g;omega),af.block _ (by omega)];exact Za HC
    obtain⟨Z,hZ⟩:=ZG (w5.setCell ⟨g,j,none⟩ (E J Q));have ak:=Zd ((ay.trans (af.mono (by omega))).setCell (p:=⟨g,j,none⟩) (by show w.heap.size<=g;omega) (E J Q));rw[<-hZ] at c5 ak;have d0:Z.cell? ⟨w.heap.size+1,0,none⟩=some (F none 0 0):=(by simp[bF,c5]);have df:Z.frozen? ⟨w.heap.size+1,0,none⟩=false:=(by simp[World.frozen?,c5]);clear af an F5 c5;rw[hZ] at d0 df ak;clear hZ;go_wp2;(try simp only[Exit.inBlock,Exit.then]);refine aW (v:=dB #[.agg #[F none 0 0],F none 0 0,E J x]) ?_ rfl ⟨⟨_,_,_,_,_,_,rfl,λ_ _=>TextsAt.nil _ _,SlOk.nil,IntsAt.nil _ _,aL _,aF _⟩,?_⟩
    ·rw[results_cell_tmp2 rfl];go_simp
    ·exact ak.setCell (Nat.le_succ _) _
  ·have e:j=nl:=(by omega);subst e;obtain⟨q1,q2,z⟩:=Za HN;rw[Zkm (by rw[(Za bs).1];exact aF _)] at z;have e1:M=L':=(by injection z with z _;exact z.symm);have e2:N=N':=(by injection z with _ z;injection z with z _;exact z.symm);have e3:x=0:=(by injection z with _ z;injection z with _ z;exact z.symm);subst e1 e2 e3;obtain⟨v,D,ab⟩:=Za bx;obtain⟨d1,d2,-⟩:=ab.cell0;have ho:=ab.own;obtain⟨a',c',rfl,s1,s2,s3,s4⟩:=Uh ab.own;have dk:Hid (SlOk a' M.length c'):=⟨s1,s2,s3⟩;have HT:Hid (∀ u w2,Gr (wr.setCell ⟨w.heap.size+1,0,none⟩ u) w2 (λk=>k<w.heap.size)->TextsAt w2 a' M.length M):=λu w2 g2=>Zew (Vy ho (λk cs dv hk=>(g2.block k (by simpa[World.setCell] using aA hk) (by omega)).trans (heap_setCell_other _ _ _ _ (by show k≠w.heap.size+1;omega))))
   have HI:Hid (∀ u,IntsAt (wr.setCell ⟨w.heap.size+1,0,none⟩ u) (some ⟨g,0,none⟩) j N):=λu=>by
    obtain⟨xs,ec,eb⟩:=Za HF;exact Filled.ints ⟨xs,Vy ec (λk cs dv _=>heap_setCell_other _ _ _ _ (by show k≠w.heap.size+1;omega)),eb⟩ q1
   have c5:=Za HC;have d0:wr.cell? ⟨w.heap.size+1,0,none⟩=some (F none 0 0):=(by simp[bF,c5]);have df:wr.frozen? ⟨w.heap.size+1,0,none⟩=false:=(by simp[World.frozen?,c5]);have eo:w.heap.size+1≠p:=(by have:=ab.pge;omega);clear q1 q2 z ab ho s1 s2 s3 s4 c5 ar;go_wp2;(try simp only[Exit.inBlock,Exit.then]);refine aW (v:=dB #[.agg #[F a' M.length c'],F (some ⟨g,0,none⟩) j j,E J 0]) ?_ rfl ⟨⟨_,_,_,_,_,_,rfl,HT _,Za dk,HI _,aF _,aF _⟩,?_⟩
   ·rw[results_cell_tmp2 rfl];go_simp
   ·exact ay.setCell (Nat.le_succ _) _
theorem Zim(a al n c nl cl L l M N)(x:Int)(w:World)(h:TextsAt w a n L)(hl:TextsAt w al nl l)(ak:nl<=17592186044416)(hR:Right L)(hx:nmGo L [] l=(M,N,x)) :
  Calls aB 86 #[.agg #[F a n c],F al nl cl] w λe w'=>(∃ Q n' c' a2 z c2,e = dA (dB #[.agg #[F Q n' c'],F a2 z c2,E J x])/\TextsAt w' Q n' M/\SlOk Q n' c'/\IntsAt w' a2 z N/\z<=nl/\z<=c2)/\aC w.heap.size w w':=by
 refine (Mo a al n c nl cl L l M N x w h hl ak hR hx).mono ?_;rintro e w' ⟨⟨Q,n',c',a2,z,c2,h1,h2,h3⟩,hb⟩;exact⟨⟨Q,n',c',a2,z,c2,h1,h2 _ (Gr.refl _ _),h3⟩,hb⟩
open Go.RowKit Go.Maps
def nameR(L:List ByteArray)(s:ByteArray):List ByteArray×Int×Int:=if bkChk L=0 then nm L s else ([],0,bkChk L)
theorem Zkf(w:World)(s:ByteArray):TextsAt (w.alloc (cZ #[.string s] 9)) (some ⟨w.heap.size,0,none⟩) 1 [s]:=
 ⟨rfl,λ_=>⟨w.heap.size,0,rfl,λi hi=>by
  have e:i=0:=by simp at hi;omega
  subst e;exact Rp w (.string s) 9⟩⟩
theorem all_is(a z n c nl cl L l M N)(x:Int)(w:World)(h:TextsAt w a n L)(hl:TextsAt w z nl l)(am:nl<=17592186044416)(hx:allR L l=(M,N,x)) :
  Calls aB 86 #[.agg #[F a n c],F z nl cl] w λe w'=>(∃ a' n' c' a2 Q c2,e = dA (dB #[.agg #[F a' n' c'],F a2 Q c2,E J x])/\TextsAt w' a' n' M/\SlOk a' n' c'/\IntsAt w' a2 Q N/\Q<=nl/\Q<=c2)/\aC w.heap.size w w':=by
 unfold allR at hx;by_cases h0:bkChk L=0
 ·rw[if_pos h0] at hx;exact Zim a z n c nl cl L l M N x w h hl am ((right_iff L).1 h0) hx
 ·rw[if_neg h0] at hx;have e1:M=[]:=by injection hx with hx _;exact hx.symm
  have e2:N=[]:=by injection hx with _ hx;injection hx with hx _;exact hx.symm
  have e3:bkChk L=x:=by injection hx with _ hx;injection hx with _ hx
  subst e1 e2;refine (Zeo a z n c nl cl L w h x e3 (by rw[<-e3];exact h0)).mono ?_;rintro e w' ⟨rfl,hb⟩;exact⟨⟨_,_,_,_,_,_,rfl,TextsAt.nil _ _,SlOk.nil,IntsAt.nil _ _,aL _,aF _⟩,hb⟩
theorem Zpn(L)(s:ByteArray):allR L [s]=((nameR L s).1,(if (nameR L s).2.2=0 then [(nameR L s).2.1] else []),(nameR L s).2.2):=by
 unfold allR nameR;by_cases h0:bkChk L=0
 ·rw[if_pos h0,if_pos h0];simp only[nmGo,List.nil_append];by_cases h1:(nm L s).2.2=0
  ·rw[if_pos h1,if_pos h1];rw[h1]
  ·rw[if_neg h1,if_neg h1]
   have:(nm L s).1=[]:=by
    unfold nm at *;by_cases h2:4000<s.size
    ·rw[if_pos h2]
    ·rw[if_neg h2] at *;by_cases h3:place s L≠0
     ·rw[if_pos h3] at h1;exact absurd rfl h1
     ·rw[if_neg h3] at *;by_cases h4:120<=L.length
      ·rw[if_pos h4]
      ·rw[if_neg h4] at h1;exact absurd rfl h1
   rw[this]
 ·rw[if_neg h0,if_neg h0];simp[h0]
theorem Zkp{L}{s:ByteArray}(h:(nameR L s).2.2≠0):(nameR L s).1=[]/\(nameR L s).2.1=0:=by
 unfold nameR at *;by_cases h0:bkChk L=0
 ·rw[if_pos h0] at *;unfold nm at *;by_cases h2:4000<s.size
  ·rw[if_pos h2];exact⟨rfl,rfl⟩
  ·rw[if_neg h2] at *;by_cases h3:place s L≠0
   ·rw[if_pos h3] at h;exact absurd rfl h
   ·rw[if_neg h3] at *;by_cases h4:120<=L.length
    ·rw[if_pos h4];exact⟨rfl,rfl⟩
    ·rw[if_neg h4] at h;exact absurd rfl h
 ·rw[if_neg h0];exact⟨rfl,rfl⟩
