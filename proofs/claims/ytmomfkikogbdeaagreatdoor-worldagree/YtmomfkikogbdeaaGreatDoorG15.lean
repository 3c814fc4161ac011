import Derived.Test.YtmomfkikogbdeaaGreatDoorH
import Derived.Laws.AppendOwnNone
import Derived.Deep.AppendLies
import Derived.Test.YtmomfkikogbdeaaGreatDoorG5
open Go.Proofs.Tryz
open Go renaming TypeId->cF,lt_of_block->aA,maxLen->cK,DataW->cQ,heap_alloc_new->aG,bodyPost_ret->bB
open Go.Ending renaming returned->dF
open Go.IntKind renaming i64->J
open Go.Obj renaming cells->dE
open Go.Proofs.Tryz renaming prog->aB,underlying3->aP
open Go.RowKit renaming Below->aC
open Go.Value renaming string->dB,int->E,slice->F,tuple->dG,pointer->dH,bool->dI
open Go.World renaming block_lt_of_cell?->aE,cell?_of_block->cA,cell?->bH
open List renaming drop_eq_getElem_cons->aJ,take_succ_eq_append_getElem->bA,drop_of_length_le->bU,append_assoc->cS,length_eq_zero_iff->aL
open Nat renaming le_refl->aF,le_trans->aN,zero_le->aI,le_succ->dC
open Prod.mk renaming injEq->aU
set_option maxHeartbeats 3200000
set_option maxRecDepth 10000
namespace Go.Proofs.YtmomfkikogbdeaaGreatDoor.Bk
def place(s:ByteArray):List ByteArray->Nat
 | []=>0
 | x :: r=>if x=s then 1 else if place s r=0 then 0 else place s r+1
theorem place_zero{s:ByteArray}:∀ {L:List ByteArray},place s L=0↔s∉L
 | []=>by simp[place]
 | x :: r=>by
  unfold place;have ih:=place_zero (s:=s) (L:=r);by_cases h:x=s
  ·simp[h]
  ·have h':¬s=x:=λe=>h e.symm;rw[if_neg h];by_cases hr:place s r=0
   ·rw[if_pos hr];simp[h',ih.1 hr]
   ·rw[if_neg hr]
    have:s∈r:=by
     rcases Classical.em (s∈r) with m|m
     ·exact m
     ·exact absurd (ih.2 m) hr
    simp[this]
theorem place_le(s:ByteArray):∀ L:List ByteArray,place s L<=L.length
 | []=>by simp[place]
 | x :: r=>by
  unfold place;have:=place_le s r;split
  ·simp
  ·split
   ·simp
   ·simp;exact this
theorem Pd{s:ByteArray}:∀ {L:List ByteArray} {n:Nat},place s L=n+1->L[n]? = some s
 | [],n,h=>by simp[place] at h
 | x :: r,n,h=>by
  unfold place at h;by_cases hx:x=s
  ·rw[if_pos hx] at h;have:n=0:=(by omega);subst this;simp[hx]
  ·rw[if_neg hx] at h;by_cases hr:place s r=0
   ·rw[if_pos hr] at h;omega
   ·rw[if_neg hr] at h;obtain⟨m,hm⟩:∃ m,place s r=m+1:=⟨place s r - 1,by omega⟩;have e:n=m+1:=(by omega);subst e;simpa using Pd hm
theorem V6(s:ByteArray):∀ (L M:List ByteArray),place s (L++M)=if place s L=0 then (if place s M=0 then 0 else L.length+place s M) else place s L
 | [],M=>by
  have e:place s []=0:=rfl;rw[e,if_pos rfl,List.nil_append];by_cases hM:place s M=0
  ·rw[if_pos hM];exact hM
  ·rw[if_neg hM];simp
 | x :: r,M=>by
  have e1:place s (x :: r)=if x=s then 1 else if place s r=0 then 0 else place s r+1:=rfl
  have e2:place s ((x :: r)++M)=if x=s then 1 else if place s (r++M)=0 then 0 else place s (r++M)+1:=rfl
  rw[e2,V6 s r M];by_cases hx:x=s
  ·rw[if_pos hx] at *;rw[e1];simp
  ·rw[if_neg hx] at *;by_cases hr:place s r=0
   ·rw[if_pos hr] at e1;rw[e1,hr];by_cases hM:place s M=0
    ·simp[hM]
    ·simp only[hM,if_true,if_false,List.length_cons];rw[if_neg (by omega)];omega
   ·rw[if_neg hr] at e1;rw[e1,if_neg hr,if_neg hr,if_neg (by omega)]
theorem Kh{s:ByteArray}{L:List ByteArray}(h:s∉L):place s (L++[s])=L.length+1:=by
 rw[V6,if_pos (place_zero.2 h)];simp[place]
theorem Bq{s t:ByteArray}(L)(h:s≠t):place s (L++[t])=place s L:=by
 rw[V6];have e:place s [t]=0:=by rw[place_zero];simp[h]
 rw[e];split
 ·rw[if_pos rfl];rename_i e2;exact e2.symm
 ·rfl
def Sq(aa:List ByteArray):List ByteArray->Int
 | []=>0
 | s :: r=>if 4000<s.size then 2 else if place s aa≠0 then 6 else Sq (aa++[s]) r
def bkChk(L:List ByteArray):Int:=if 120<L.length then 2 else Sq [] L
theorem bk_at{L:List ByteArray}{k:Nat}(h:k<L.length):Sq (L.take k) (L.drop k)=if 4000<L[k].size then 2 else if place L[k] (L.take k)≠0 then 6 else Sq (L.take (k+1)) (L.drop (k+1)):=by
 rw[aJ h,Sq,bA h]
theorem Zrk{L:List ByteArray}{k:Nat}(h:L.length<=k):Sq (L.take k) (L.drop k)=0:=by
 rw[bU h];rfl
theorem Dq:∀ (L aa:List ByteArray),Sq aa L=0->aa.Nodup->(aa++L).Nodup/\∀ s∈L,s.size<=4000
 | [],aa,_,hs=>by simpa using hs
 | s :: r,aa,h,hs=>by
  unfold Sq at h;by_cases h1:4000<s.size
  ·rw[if_pos h1] at h;omega
  ·rw[if_neg h1] at h;by_cases h2:place s aa≠0
   ·rw[if_pos h2] at h;omega
   ·rw[if_neg h2] at h;have h3:s∉aa:=place_zero.1 (by omega)
    have hn:(aa++[s]).Nodup:=by
     rw[List.nodup_append];exact⟨hs,by simp,λa ha b hb=>by simp at hb;subst hb;exact λe=>h3 (e ▸ ha)⟩
    have ih:=Dq r (aa++[s]) h hn;rw[cS] at ih;refine⟨ih.1,λx hx=>?_⟩
    rcases List.mem_cons.1 hx with rfl|hx
    ·omega
    ·exact ih.2 x hx
theorem Mb:∀ (L aa:List ByteArray),(aa++L).Nodup->(∀ s∈L,s.size<=4000)->Sq aa L=0
 | [],_,_,_=>rfl
 | s :: r,aa,hn,hs=>by
  unfold Sq;have h1:¬4000<s.size:=by have:=hs s (by simp);omega
  have h2:s∉aa:=by
   intro hm;rw[List.nodup_append] at hn;exact hn.2.2 s hm s (by simp) rfl
  rw[if_neg h1,if_neg (by rw[place_zero.2 h2];decide)];refine Mb r (aa++[s]) (by rw[cS];exact hn) (λx hx=>hs x (by simp[hx]))
def Right(L:List ByteArray):Prop:=L.length<=120/\L.Nodup/\∀ s∈L,s.size<=4000
theorem right_iff(L):bkChk L=0↔Right L:=by
 unfold bkChk Right;by_cases h:120<L.length
 ·rw[if_pos h];constructor
  ·intro e;omega
  ·intro ⟨e,_⟩;omega
 ·rw[if_neg h];constructor
  ·intro e;have:=Dq L [] e List.nodup_nil;exact⟨by omega,this.1,this.2⟩
  ·intro ⟨_,h1,h2⟩;exact Mb L [] h1 h2
def nm(L:List ByteArray)(s:ByteArray):List ByteArray×Int×Int:=
 if 4000<s.size then ([],0,2) else if place s L≠0 then (L,(place s L:Int),0) else if 120<=L.length then ([],0,12) else (L++[s],L.length+1,0)
def nmGo(L:List ByteArray)(N:List Int):List ByteArray->List ByteArray×List Int×Int
 | []=>(L,N,0)
 | s :: r=>if (nm L s).2.2=0 then nmGo (nm L s).1 (N++[(nm L s).2.1]) r else ([],[],(nm L s).2.2)
theorem nm_right{L}{s:ByteArray}(h:Right L)(h0:(nm L s).2.2=0):Right (nm L s).1:=by
 unfold nm at *;by_cases h1:4000<s.size
 ·rw[if_pos h1] at h0;cases h0
 ·rw[if_neg h1] at *;by_cases h2:place s L≠0
  ·rw[if_pos h2] at *;exact h
  ·rw[if_neg h2] at *;by_cases h3:120<=L.length
   ·rw[if_pos h3] at h0;cases h0
   ·rw[if_neg h3] at *;have h4:s∉L:=place_zero.1 (by omega);refine⟨by simp;omega,?_,λx hx=>?_⟩
    ·rw[List.nodup_append];exact⟨h.2.1,by simp,λa ha b hb=>by simp at hb;subst hb;exact λe=>h4 (e ▸ ha)⟩
    ·rcases List.mem_append.1 hx with hx|hx
     ·exact h.2.2 x hx
     ·simp at hx;subst hx;omega
theorem nm_grows{L}{s:ByteArray}(h0:(nm L s).2.2=0):∃ M,(nm L s).1=L++M:=by
 unfold nm at *;by_cases h1:4000<s.size
 ·rw[if_pos h1] at h0;cases h0
 ·rw[if_neg h1] at *;by_cases h2:place s L≠0
  ·rw[if_pos h2];exact⟨[],by simp⟩
  ·rw[if_neg h2] at *;by_cases h3:120<=L.length
   ·rw[if_pos h3] at h0;cases h0
   ·rw[if_neg h3];exact⟨[s],rfl⟩
theorem nm_place{L}{s:ByteArray}(h0:(nm L s).2.2=0):(nm L s).2.1=(place s (nm L s).1:Int)/\0<place s (nm L s).1/\s.size<=4000:=by
 unfold nm at *;by_cases h1:4000<s.size
 ·rw[if_pos h1] at h0;cases h0
 ·rw[if_neg h1] at *;by_cases h2:place s L≠0
  ·rw[if_pos h2];exact⟨rfl,by show 0<place s L;omega,by omega⟩
  ·rw[if_neg h2] at *;by_cases h3:120<=L.length
   ·rw[if_pos h3] at h0;cases h0
   ·rw[if_neg h3];have h4:s∉L:=place_zero.1 (by omega);show (L.length:Int)+1=_/\_;simp only[Kh h4];exact⟨by simp,by omega,by omega⟩
theorem nm_there{L}{s:ByteArray}(hs:s.size<=4000)(h:0<place s L):nm L s=(L,(place s L:Int),0):=by
 unfold nm;rw[if_neg (by omega),if_pos (by omega)]
theorem nmGo_grows:∀ (l:List ByteArray) (L:List ByteArray) (N:List Int),(nmGo L N l).2.2=0->∃ M,(nmGo L N l).1=L++M
 | [],L,N,_=>⟨[],by simp[nmGo]⟩
 | s :: r,L,N,h=>by
  unfold nmGo at *;by_cases h0:(nm L s).2.2=0
  ·rw[if_pos h0] at *;obtain⟨M,hM⟩:=nm_grows h0;obtain⟨K,hK⟩:=nmGo_grows r _ _ h;exact⟨M++K,by rw[hK,hM,cS]⟩
  ·rw[if_neg h0] at *;exact absurd h h0
theorem nmGo_right:∀ (l:List ByteArray) (L:List ByteArray) (N:List Int),Right L->(nmGo L N l).2.2=0->Right (nmGo L N l).1
 | [],L,N,hR,_=>hR
 | s :: r,L,N,hR,h=>by
  unfold nmGo at *;by_cases h0:(nm L s).2.2=0
  ·rw[if_pos h0] at *;exact nmGo_right r _ _ (nm_right hR h0) h
  ·rw[if_neg h0] at *;exact absurd h h0
theorem place_stays{s:ByteArray}{L}(M)(h:0<place s L):place s (L++M)=place s L:=by
 rw[V6,if_neg (by omega)]
theorem place_one{s t:ByteArray}{L}(h:0<place s L)(e:place s L=place t L):s=t:=by
 obtain⟨n,hn⟩:∃ n,place s L=n+1:=⟨place s L - 1,by omega⟩;have h1:=Pd hn;have h2:=Pd (e ▸ hn);rw[h1] at h2;exact Option.some.inj h2
open Go.RowKit Go.Maps
theorem Zd{p:Prop}(h:p):Hid p:=h
theorem Za{p:Prop}(h:Hid p):p:=h
theorem Zf{w w1 w2:World}(h1:aC w.heap.size w w1)(h2:aC w1.heap.size w1 w2):aC w.heap.size w w2:=h1.trans (h2.mono h1.size)
theorem Zh(w:World)(o:Obj):aC w.heap.size w (w.alloc o):=(Below.refl _ _).alloc (aF _) _
theorem Qm(w:World)(n:Nat):aC w.heap.size w (w.drewN n):=⟨rfl,rfl,rfl,aF _,λ_ _=>rfl⟩
theorem Ze{w w':World}{p v}(hb:aC w.heap.size w w')(h:w.cell? p=some v):w'.cell? p=some v:=by
 rw[hb.cell (p:=p) (aE _ _ h)];exact h
theorem Rc(w:World)(x)(t:cF):(w.alloc (dE #[x] t)).cell? ⟨w.heap.size,0,none⟩=some x:=by
 rw[World.cell?_alloc_at _ _ _ _ rfl];rfl
def TextsAt(w:World)(a:Option Addr)(len:Nat)(L:List ByteArray):Prop:=
 L.length=len/\(0<len->∃ b off,a=some ⟨b,off,none⟩/\∀ i (h:i<L.length),w.cell? ⟨b,off+i,none⟩=some (.string L[i]))
theorem TextsAt.later{w w':World}{a len L}(h:TextsAt w a len L)(hb:aC w.heap.size w w'):TextsAt w' a len L:=by
 refine⟨h.1,λh0=>?_⟩;obtain⟨b,off,e,hc⟩:=h.2 h0;exact⟨b,off,e,λi hi=>Ze hb (hc i hi)⟩
theorem TextsAt.still{B:Nat}{w w' a len L}(h:TextsAt w a len L)(hl:∀ x,a=some x->0<len->x.block<B)(hb:aC B w w'):TextsAt w' a len L:=by
 refine⟨h.1,λh0=>?_⟩;obtain⟨b,off,e,hc⟩:=h.2 h0;refine⟨b,off,e,λi hi=>?_⟩;rw[cA (hb.block b (hl _ e h0))];exact hc i hi
theorem TextsAt.nil(w a):TextsAt w a 0 []:=⟨rfl,λh=>absurd h (by omega)⟩
theorem TextsAt.lt{w:World}{a len L}(h:TextsAt w a len L)(x:Addr)(hx:a=some x)(h0:0<len):x.block<w.heap.size:=by
 obtain⟨b,off,e,hc⟩:=h.2 h0;have hz:=h.1;rw[hx] at e;cases e;exact aE _ _ (hc 0 (by omega))
theorem Zjo{w:World}{base:Nat}{e:cF}{size:Nat}{v:Value}{n:Nat}{xs}(h:w.ownsRow base e size v n xs)(k:Nat)(hk:v.ownBlock=some k):base<=k:=by
 rcases h.2 with ⟨rfl,_⟩|⟨g,cap,ac,rfl,hg,_⟩
 ·cases hk
 ·cases hk;exact hg
theorem Vo{w w':World}{base:Nat}{e:cF}{size:Nat}{v}{n:Nat}{xs}(h:w.ownsRow base e size v n xs)(hk:∀ (k:Nat) (cs:Array Value),base<=k->w.heap[k]? = some (dE cs e (0,0))->w'.heap[k]? = w.heap[k]?):w'.ownsRow base e size v n xs:=by
 obtain⟨hl,h0|⟨g,cap,aa,hv,hg,hh,r⟩⟩:=h
 ·exact⟨hl,.inl h0⟩
 ·exact⟨hl,.inr ⟨g,cap,aa,hv,hg,(hk g aa hg hh).trans hh,r⟩⟩
theorem Pm{w w':World}{base:Nat}{e:cF}{size:Nat}{v:Value}{n:Nat}{xs}(h:w.ownsRow base e size v n xs)(hg:w.grownBy w' v.ownBlock)(k:Nat)(cs)(t:cF)(hk:w.heap[k]? = some (dE cs t (0,0)))(ht:t≠e):w'.heap[k]? = w.heap[k]?:=by
 refine hg.block k (aA hk) (λe1=>?_);obtain⟨_,⟨rfl,_⟩|⟨g,cap,ag,rfl,_,hh,_⟩⟩:=h
 ·cases e1
 ·have e2:k=g:=by injection e1
  subst e2;rw[hk] at hh;injection hh with hh;injection hh with _ hh;exact ht hh
theorem V5{w:World}{base:Nat}{v}{n:Nat}{L:List ByteArray}(h:w.ownsRow base 9 1 v n (L.map dB)):∃ a cap,v = F a n cap/\n<=cap/\cap<=cK/\(a=none->n=0/\cap=0)/\TextsAt w a n L:=by
 have hl:L.length=n:=by have:=h.1;simpa using this
 rcases h.2 with ⟨rfl,rfl⟩|⟨g,cap,ab,rfl,_,_,h1,h2,_,_⟩
 ·have e:L=[]:=aL.1 hl;subst e;exact⟨none,0,rfl,aF _,by unfold cK;omega,λ_=>⟨rfl,rfl⟩,TextsAt.nil _ _⟩
 ·refine⟨_,cap,rfl,h1,h2,λe=>(by cases e),hl,λ_=>⟨g,0,rfl,λi hi=>?_⟩⟩;rw[Nat.zero_add,World.ownsRow.cellAt h i (by omega)];simp[hi]
theorem Yr(n lo hi:Int)(b:Bool)(w)(hb:b=(decide (lo<=n) && decide (n<=hi))) :
  Calls aB 103 #[E J n,E J lo,E J hi] w λe w'=>e = dF (dI b)/\w=w':=by
 by_cases h1:lo<=n
 ·by_cases h2:n<=hi
  ·have e:b=true:=(by rw[hb];simp[h1,h2]);subst e;clear hb;go_enter func103,ntmps103;go_wp2;go_ret;exact⟨rfl,rfl⟩
  ·have e:b=false:=(by rw[hb];simp[h2]);have h4:decide (n<=hi)=false:=(by simp;omega);have h5:hi<n:=(by omega);subst e;clear hb h2;go_enter func103,ntmps103;go_wp2;go_ret;exact⟨rfl,rfl⟩
 ·have e:b=false:=by rw[hb];simp[h1]
  have h5:n<lo:=by omega
  subst e;clear hb h1;go_enter func103,ntmps103;go_wp2;go_ret;exact⟨rfl,rfl⟩
theorem Tryz.info9:(Tryz.prog.info? 9).map (λi=>(i.zero,i.size,i.bytes))=some (some (.string ⟨#[]⟩),1,16):=by kernel_rfl
theorem Tryz.infoInt:(Tryz.prog.info? 3).map (λi=>(i.zero,i.size,i.bytes))=some (some (E J 0),1,8):=by kernel_rfl
theorem key9:Keyed aB 9:=string_keyed underlying9
theorem zero3(w):(zeroValue 3).run aB w = .ok (E J 0) w:=by kernel_rfl
open Go.RowKit Go.Maps
abbrev Fk(s:ByteArray):Lit:=.string s.data.toList
abbrev Pi(n:Int):cQ Unit:=.lit (.int .i64 n)
structure Wr(base p bm:Nat)(wr:World)(v:Value)(D:cQ Unit)(L:List ByteArray):Prop where
 box:wr.heap[p]? = some (dE #[v,.map (some bm)] 243 (0,0))
 pge:base<=p
 mge:base<=bm
 own:wr.ownsRow base 9 1 v L.length (L.map dB)
 map:wr.ownsMap aB 9 (plainElem (H:=Unit) aB 3) bm L.length D
 ism:IsMap D
 names:∀ s:ByteArray,D.atKey (Fk s) (Pi 0)=Pi (place s L:Nat)
def Far(w w':World):Prop:=∀ (k:Nat) (cs:Array Value) (t:cF),w.heap[k]? = some (dE cs t (0,0))->t≠9->t≠243->w'.heap[k]? = w.heap[k]?
theorem Far.refl(w):Far w w:=λ_ _ _ _ _ _=>rfl
theorem Far.trans{a b c}(h:Far a b)(g:Far b c):Far a c:=λk cs t hk h1 h2=>(g k cs t ((h k cs t hk h1 h2).trans hk) h1 h2).trans (h k cs t hk h1 h2)
theorem Zoo{w w':World}(h:aC w.heap.size w w'):Far w w':=λk _ _ hk _ _=>h.block k (aA hk)
theorem Wr.keep{base p bm:Nat}{w w':World}{v}{D:cQ Unit}{L}(h:Wr base p bm w v D L)(hb:aC w.heap.size w w'):Wr base p bm w' v D L:=by
 refine⟨(hb.block p (aA h.box)).trans h.box,h.pge,h.mge,Vo h.own (λk cs _ hk=>hb.block k (aA hk)),?_,h.ism,h.names⟩;obtain⟨es,ab,h1,r⟩:=h.map;exact⟨es,ab,(hb.block bm (aA h1)).trans h1,r⟩
theorem Wr.cell0{base p bm:Nat}{w:World}{v}{D:cQ Unit}{L}(h:Wr base p bm w v D L):w.cell? ⟨p,0,none⟩=some v/\w.cell? ⟨p,1,none⟩=some (.map (some bm))/\w.frozen? ⟨p,0,none⟩=false:=by
 refine⟨?_,?_,?_⟩
 ·simp[bH,h.box]
 ·simp[bH,h.box]
 ·simp[World.frozen?,h.box]
theorem Zga{D:cQ Unit}{L:List ByteArray}{s:ByteArray}(hm:IsMap D)(h:∀ s:ByteArray,D.atKey (Fk s) (Pi 0)=Pi (place s L:Nat))(hs:s∉L) :
  ∀ x:ByteArray,(D.put (Fk s) (Pi ((L.length:Int)+1))).atKey (Fk x) (Pi 0)=Pi (place x (L++[s]):Nat):=by
 intro x;by_cases e:x=s
 ·subst e;rw[atKey_put_same hm (by simp[WideAt.IsKeyLit]),Kh hs];simp
 ·have ab:Fk x≠Fk s:=by
   intro h2
   apply e
   have h3:x.data.toList=s.data.toList:=(by injection h2);have h4:x.data=s.data:=(by rw[<-Array.toList_inj];exact h3);cases x;cases s;simp_all
  rw[atKey_put_other ab,h x,Bq L e]
theorem Mz(w:World)(p:Nat)(x y v)(t:cF)(h:w.heap[p]? = some (dE #[x,y] t (0,0))):(w.setCell ⟨p,0,none⟩ v).heap[p]? = some (dE #[v,y] t (0,0)):=by
 rw[heap_setCell_same w p 0 #[x,y] t v h];rfl
structure Mid(base p bm:Nat)(X Y:World)(v:Value)(D:cQ Unit)(L:List ByteArray)(s:ByteArray):Prop where
 box:Y.heap[p]? = some (dE #[v,.map (some bm)] 243 (0,0))
 own:Y.ownsRow base 9 1 v (L.length+1) ((L++[s]).map dB)
 map:Y.ownsMap aB 9 (plainElem (H:=Unit) aB 3) bm L.length D
 bel:aC base X Y
 far:Far X Y
theorem Wr.mid{base p bm:Nat}{X w3:World}{v v3:Value}{D:cQ Unit}{L:List ByteArray}{s:ByteArray}(h:Wr base p bm X v D L)
  (am:w3.ownsRow base 9 1 v3 (L.length+1) (L.map dB++[.string s])) (hg:X.grownBy w3 v.ownBlock):Mid base p bm X (w3.setCell ⟨p,0,none⟩ v3) v3 D L s:=by
 have an:=aA h.box;have aj:base<=X.heap.size:=aN h.pge (Nat.le_of_lt an);have far:∀ (k:Nat) (cs:Array Value) (t:cF),X.heap[k]? = some (dE cs t (0,0))->t≠9->w3.heap[k]? = X.heap[k]?:=λk cs t hk ht=>Pm h.own hg k cs t hk ht;have ad:w3.heap[p]? = some (dE #[v,.map (some bm)] 243 (0,0)):=(far _ _ _ h.box (by decide)).trans h.box;have ab:∀ (k:Nat),k≠p->(w3.setCell ⟨p,0,none⟩ v3).heap[k]? = w3.heap[k]?:=λk hk=>heap_setCell_other w3 ⟨p,0,none⟩ k v3 hk;refine⟨Mz w3 p v _ v3 _ ad,?_,?_,?_,?_⟩
 ·rw[List.map_append];refine Vo am (λk cs _ hk=>ab k (λe=>?_));subst e;rw[ad] at hk;injection hk with hk;injection hk with _ hk;exact absurd hk (by decide)
 ·obtain⟨es,af,h1,r⟩:=h.map
  have ak:some bm≠v.ownBlock:=by
   intro e;obtain⟨_,⟨rfl,_⟩|⟨g,cap,aq,rfl,_,hh,_⟩⟩:=h.own
   ·cases e
   ·have e2:bm=g:=(by injection e);subst e2;rw[h1] at hh;cases hh
  have h3:w3.heap[bm]? = X.heap[bm]?:=hg.block bm (aA h1) ak
  have hp:bm≠p:=by
   intro e;subst e;rw[h.box] at h1;cases h1
  exact⟨es,af,(ab bm hp).trans (h3.trans h1),r⟩
 ·exact ((Below.refl base X).grown hg aj (λk hk=>Zjo h.own k hk)).setCell h.pge _
 ·intro k cs t hk h9 h50
  have hp:k≠p:=by
   intro e;subst e;rw[h.box] at hk;injection hk with hk;injection hk with _ hk;exact h50 hk.symm
  exact (ab k hp).trans (far k cs t hk h9)
theorem Mid.wr{base p bm:Nat}{X Y w4:World}{v}{D:cQ Unit}{L:List ByteArray}{s:ByteArray}(h:Mid base p bm X Y v D L s)(hm:IsMap D)(hp:base<=p)(hb:base<=bm)(hs:s∉L)
  (names:∀ s:ByteArray,D.atKey (Fk s) (Pi 0)=Pi (place s L:Nat))
  (aj:w4.ownsMap aB 9 (plainElem (H:=Unit) aB 3) bm (L.length+1) (D.put (Fk s) (Pi ((L.length:Int)+1)))) (hg:Y.grownBy w4 (some bm)) :
  Wr base p bm w4 v (D.put (Fk s) (Pi ((L.length:Int)+1))) (L++[s])/\aC base X w4/\Far X w4:=by
 have kept:∀ (k:Nat) (cs:Array Value) (t:cF),Y.heap[k]? = some (dE cs t (0,0))->w4.heap[k]? = Y.heap[k]?:=λk cs t hk=>hg.block k (aA hk) (λe=>by
  have e2:k=bm:=by injection e
  subst e2;obtain⟨es,am,h1,_⟩:=h.map;rw[h1] at hk;cases hk)
 have hl:(L++[s]).length=L.length+1:=by simp
 have ag:base<=Y.heap.size:=aN hp (Nat.le_of_lt (aA h.box));refine⟨⟨(kept _ _ _ h.box).trans h.box,hp,hb,?_,?_,?_,Zga hm names hs⟩,?_,?_⟩
 ·rw[hl];exact Vo h.own (λk cs _ hk=>kept k cs _ hk)
 ·rw[hl];exact aj
 ·obtain⟨es,rfl⟩:=hm;exact⟨_,rfl⟩
 ·exact h.bel.trans ((Below.refl base Y).grown hg ag (λk hk=>by injection hk with hk;omega))
 ·exact λk cs t hk h9 h50=>(kept k cs t ((h.far k cs t hk h9 h50).trans hk)).trans (h.far k cs t hk h9 h50)
open Go.RowKit Go.Maps
theorem add_is(base p bm:Nat)(v)(D:cQ Unit)(L:List ByteArray)(s:ByteArray)(w)(hW:Wr base p bm w v D L)(hL:L.length<=120)(hs:s∉L)(hz:s.size<=4000) :
  Calls aB 195 #[.pointer (some ⟨p,0,none⟩),.string s] w λe w'=>e = dF (.int .i64 ((L.length:Int)+1))/\(∃ v' D',Wr base p bm w' v' D' (L++[s]))/\aC base w w'/\Far w w':=by
 obtain⟨i0,hi,bt,bu,bv⟩:=info_parts Tryz.info9;have bs:=aA hW.box;have aw:base<=w.heap.size:=aN hW.pge (Nat.le_of_lt bs);obtain⟨X,hX⟩:=ZG (w.alloc (dE #[.string s] 9));have ag:aC w.heap.size w X:=by rw[hX];exact Zh _ _
 have bq:X.heap.size=w.heap.size+1:=by rw[hX];simp
 have ay:X.heap[w.heap.size]? = some (dE #[.string s] 9 (0,0)):=by rw[hX];exact aG _ _
 have WX:=hW.keep ag;obtain⟨c0,c1,cj⟩:=hW.cell0;have bi:=Zd (World.news_of_block ay);obtain⟨a,cap,rfl,-,-,-,-⟩:=V5 hW.own;obtain⟨bj,HW,HL,HS,HZ,am,HB,ap⟩:=kh8 WX.own WX hL hs hz ag aw bq;clear WX ag ay hL hs hz hW aw;subst hX;go_enter func195,ntmps195
 go_wp2_with (at_builtin;refine wpList_append_lies _ rfl _ _ 22 rfl base 9 i0 (.string ⟨#[]⟩) 1 16 underlying22 hi bt bu bv rfl (by decide) _ _ _ rfl bj ⟨w.heap.size,0,none⟩ 1 1 [.string s] rfl rfl bi (λu hu=>by simp at hu;subst hu;rfl) (by decide) (by have:=Za HL;unfold cK;omega) (by have:=Za HL;omega) (by have:=Za HB;have:=Za ap;omega) (w.heap.size+1) ap ?_;intro g aq w3 az aj br cf;have M:=HW.mid az aj;have ah:=(Pm HW.own aj p _ _ HW.box (by decide)).trans HW.box;have d0:w3.cell? ⟨p,0,none⟩=some (F a L.length cap):=(by simp[bH,ah]);have df:w3.frozen? ⟨p,0,none⟩=false:=(by simp[World.frozen?,ah]);have HM:=Zd M;clear M ah az aj br)
 obtain⟨Y,hY⟩:=ZG (w3.setCell ⟨p,0,none⟩ (F (some ⟨g,0,none⟩) (L.length+1) aq));rw[<-hY] at HM ⊢;have M:=Za HM;have e0:Y.cell? ⟨p,0,none⟩=some (F (some ⟨g,0,none⟩) (L.length+1) aq):=by simp[bH,M.box]
 have e1:Y.cell? ⟨p,1,none⟩=some (.map (some bm)):=by simp[bH,M.box]
 have hD:Y.drew.ownsMap aB 9 (plainElem (H:=Unit) aB 3) bm L.length D:=M.map.drew;obtain⟨w4,cg,bb,ac⟩:=hD.update key9 underlying241 (by have:=Za HL;unfold cK;omega) (Go.WideMaps.keyOf_string_mk underlying9 (s:=s) (by have:=Za HZ;unfold cK;omega)) (plainElem_int (H:=Unit) aP (q:=.i64) (a:=(L.length:Int)+1) (by have:=Za HL;simp[Lit.wf,IntKind.min,IntKind.max,IntKind.signed,IntKind.bits];omega));have ax:Y.grownBy w4 (some bm):=⟨ac.1,ac.2,ac.3,ac.4,ac.5⟩;have R:=Zd (M.wr HW.ism HW.pge HW.mge HS HW.names bb ax);obtain⟨f0,f1,f2⟩:=R.1.cell0;clear hY M hD bb ac ax d0 df
 go_region
 go_wp2;go_ret;exact⟨rfl,⟨_,_,R.1⟩,(am.mono HB).trans R.2.1,(Zoo am).trans R.2.2⟩
theorem Zny{a b:Int}(h:Pi a=Pi b):a=b:=by
 injection h with h;injection h
theorem Wr.look{base p bm:Nat}{w v}{D:cQ Unit}{L}(h:Wr base p bm w v D L)(s:ByteArray)(hs:s.size<=4000) :
  Sem.run aB (Instr.lookup 241 (.map (some bm)) (.string s) false) w = .ok (.int .i64 (place s L:Nat)) w:=by
 obtain⟨c,ab,aa,_⟩:=h.map.lookup_int key9 underlying241 aP (zero3 w) (Go.WideMaps.keyOf_string_mk underlying9 (s:=s) (by unfold cK;omega))
 have e:c=(place s L:Nat):=by
  have h2:=h.names s;rw[h2] at aa;exact (Zny aa).symm
 subst e;exact ab
theorem Znp(base p bm:Nat)(v)(D:cQ Unit)(L M:List ByteArray)(s:ByteArray)(n e:Int)(w)(hW:Wr base p bm w v D L)(hL:L.length<=120)(hn:nm L s=(M,n,e)) :
  Calls aB 154 #[.pointer (some ⟨p,0,none⟩),.string s] w λx w'=>x = dF (.tuple #[.int .i64 n,.int .i64 e])/\(e=0->∃ v' D',Wr base p bm w' v' D' M)/\aC base w w'/\Far w w':=by
 obtain⟨c0,c1,cf⟩:=hW.cell0;have aj:=hW;obtain⟨a,cap,rfl,-,-,-,-⟩:=V5 hW.own;have HW:=Zd aj;clear hW aj;by_cases h1:4000<s.size
 ·have e1:nm L s=([],0,2):=by unfold nm;rw[if_pos h1]
  rw[e1] at hn;obtain⟨rfl,ac⟩:=aU .. ▸ hn;obtain⟨rfl,rfl⟩:=aU .. ▸ ac;have g:(4000:Int)<(s.size:Int):=by omega
  clear hn ac e1 h1;go_enter func154,ntmps154;go_wp2;go_ret2;exact⟨rfl,λh=>absurd h (by decide),Below.refl _ _,Far.refl _⟩
 ·have hz:s.size<=4000:=by omega
  have g:¬(4000:Int)<(s.size:Int):=by omega
  have an:=HW.look s hz;by_cases h2:place s L≠0
  ·have e1:nm L s=(L,(place s L:Int),0):=(by unfold nm;rw[if_neg h1,if_pos h2]);rw[e1] at hn;obtain⟨rfl,ac⟩:=aU .. ▸ hn;obtain⟨rfl,rfl⟩:=aU .. ▸ ac;obtain⟨q,hq⟩:=ZF (place s L);rw[hq] at an h2 ⊢;have g2:((q:Int) != 0)=true:=(by simp;omega);clear hn ac e1 h1 h2 hq;go_enter func154,ntmps154;go_wp2;go_ret2
   first|exact⟨rfl,λ_=>⟨_,_,Za HW⟩,Below.refl _ _,Far.refl _⟩|exact⟨rfl,⟨_,_,Za HW⟩,Below.refl _ _,Far.refl _⟩
  ·have h3:place s L=0:=(by omega);rw[h3] at an;by_cases h4:120<=L.length
   ·have e1:nm L s=([],0,12):=(by unfold nm;rw[if_neg h1,if_neg h2,if_pos h4]);rw[e1] at hn;obtain⟨rfl,ac⟩:=aU .. ▸ hn;obtain⟨rfl,rfl⟩:=aU .. ▸ ac;have g2:((L.length:Int) == 120)=true:=(by simp;omega);clear hn ac e1 h1 h2 h3 h4;go_enter func154,ntmps154;go_wp2;go_ret2
    first|exact⟨rfl,λh=>absurd h (by decide),Below.refl _ _,Far.refl _⟩|exact⟨rfl,Below.refl _ _,Far.refl _⟩
   ·have e1:nm L s=(L++[s],(L.length:Int)+1,0):=(by unfold nm;rw[if_neg h1,if_neg h2,if_neg h4]);rw[e1] at hn;obtain⟨rfl,ac⟩:=aU .. ▸ hn;obtain⟨rfl,rfl⟩:=aU .. ▸ ac;have g2:((L.length:Int) == 120)=false:=(by simp;omega);have A:=Zd (add_is base p bm _ D L s w HW hL (place_zero.1 h3) hz);clear hn ac e1 h1 h2 h3 h4;go_enter func154,ntmps154;go_wp2_with fail;refine A.mono ?_;rintro x w2 ⟨rfl,ap,ak,am⟩;obtain⟨H2,ag,ah⟩:=kh3 ap ak am;clear ap ak am;go_wp2;go_ret2
    first|exact⟨rfl,λ_=>Za H2,Za ag,Za ah⟩|exact⟨rfl,Za H2,Za ag,Za ah⟩
open Go.RowKit Go.Maps
theorem Kz(n:Int)(w:World):(Instr.makeMap 241 (some (E J n))).run aB w = .ok (.map (some w.heap.size)) (w.alloc (.map #[] 0)):=by kernel_rfl
theorem Zhy(w:World)(base:Nat)(hb:base<=w.heap.size):Wr base (w.heap.size+1) w.heap.size ((w.alloc (.map #[] 0)).alloc (dE #[F none 0 0,.map (some w.heap.size)] 243)) (F none 0 0) (.map []) []:=by
 have e:(w.alloc (.map #[] 0)).heap.size=w.heap.size+1:=by simp
 refine⟨?_,by omega,hb,⟨rfl,Or.inl ⟨rfl,rfl⟩⟩,?_,⟨[],rfl⟩,λs=>rfl⟩
 ·have:=aG (w.alloc (.map #[] 0)) (dE #[F none 0 0,.map (some w.heap.size)] 243);rw[e] at this;exact this
 ·exact (World.ownsMap_made w aB 9 (plainElem (H:=Unit) aB 3)).alloc _
theorem Zfv(b off n c:Nat)(L:List ByteArray)(w:World)(hz:L.length=n)(h0:0<n)(h1:n<=120)(hb:b<w.heap.size)(hc:∀ i (h:i<L.length),w.cell? ⟨b,off+i,none⟩=some (.string L[i]))(x:Int)(hx:Sq [] L=x) :
  Calls aB 133 #[.agg #[F (some ⟨b,off,none⟩) n c]] w λe w'=>∃ v,e = dF (dG #[v,E J x])/\(x=0->∃ p bm v' D',v = dH (some ⟨p,0,none⟩)/\Wr w.heap.size p bm w' v' D' L)/\aC w.heap.size w w':=by
 have am:=Zh w (dE #[F (some ⟨b,off,none⟩) n c] 24);have av:(w.alloc (dE #[F (some ⟨b,off,none⟩) n c] 24)).heap.size=w.heap.size+1:=by simp
 have W0:=Zhy (w.alloc (dE #[F (some ⟨b,off,none⟩) n c] 24)) w.heap.size (by omega);rw[av] at W0;obtain⟨X,hX⟩:=ZG (((w.alloc (dE #[F (some ⟨b,off,none⟩) n c] 24)).alloc (.map #[] 0)).alloc (dE #[F none 0 0,.map (some (w.heap.size+1))] 243))
 have ap:aC w.heap.size w X:=by
  rw[hX];exact Zf (Zf am (Zh _ _)) (Zh _ _)
 have cX:X.cell? ⟨w.heap.size,0,none⟩=some (F (some ⟨b,off,none⟩) n c):=by
  rw[hX];exact Ze (Zf (Zh _ _) (Zh _ _)) (Rc w (F (some ⟨b,off,none⟩) n c) 24)
 rw[<-hX] at W0;obtain⟨bf,bb,HC,HZ,HX⟩:=kh5 W0 ap hc hz hx;have bu:=Kz;have g:¬(120:Int)<(n:Int):=by omega
 clear W0 ap hc hz hx am av;go_enter func133,ntmps133;go_wp2;rw[<-hX];clear hX
 go_loopw [20] (λi wr=>∃ j:Nat,j<=n/\i = E J j/\aC w.heap.size w wr/\(∃ v D,Hid (Wr w.heap.size (w.heap.size+2) (w.heap.size+1) wr v D (L.take j)))/\Hid (Sq (L.take j) (L.drop j)=x)) (λi _=>n - (intOf i).toNat)
 case atStart=>exact⟨0,aI _,rfl,Za bb,⟨_,_,bf⟩,Za HX⟩
 case round=>
  obtain⟨j,hk,rfl,ad,⟨v,D,HW⟩,A⟩:=hrel;have HB:=Zd ad;by_cases bj:j<n
  ·have ag:j<L.length:=(by rw[Za HZ];exact bj);have f:=(cA (ad.block b hb)).trans (HC j ag);have bt:b<wr.heap.size:=Nat.lt_of_lt_of_le hb ad.size;obtain⟨c0,c1,cf⟩:=HW.cell0;have S:=bk_at ag;rw[Za A] at S;have bs:(L.take j).length=j:=(by rw[List.length_take];omega);have TK:=Zd (bA ag);obtain⟨s,hs⟩:=ZF (L[j]);rw[hs] at f S TK;clear hs ad A;by_cases h2:4000<s.size
   ·rw[if_pos h2] at S;subst S;have g2:(4000:Int)<(s.size:Int):=(by omega);clear h2;go_wp2;go_ret2
    first|exact⟨_,rfl,λh=>absurd h (by decide),Za HB⟩|exact⟨⟨_,rfl⟩,Za HB⟩
   ·rw[if_neg h2] at S;have g2:¬(4000:Int)<(s.size:Int):=(by omega);have hz:s.size<=4000:=(by omega);have ar:=HW.look s hz;by_cases h3:place s (L.take j)≠0
    ·rw[if_pos h3] at S;subst S;obtain⟨q,hq⟩:=ZF (place s (L.take j));rw[hq] at ar h3;have g3:((q:Int) != 0)=true:=(by simp;omega);clear h2 h3 hq;go_wp2;go_ret2
     first|exact⟨_,rfl,λh=>absurd h (by decide),Za HB⟩|exact⟨⟨_,rfl⟩,Za HB⟩
    ·rw[if_neg h3] at S;have h4:place s (L.take j)=0:=(by omega);rw[h4] at ar;have AD:=Zd (add_is w.heap.size (w.heap.size+2) (w.heap.size+1) v D (L.take j) s wr HW (by omega) (place_zero.1 h4) hz);have HS:Hid (Sq (L.take (j+1)) (L.drop (j+1))=x):=S.symm;clear h2 h3 h4 S;go_wp2_with fail;refine AD.mono ?_;rintro e w2 ⟨rfl,aw,an,bi⟩;obtain⟨H2,az⟩:=kh2 aw (HB.trans an);clear aw an bi;go_wp2;go_roundw
     case rel=>
      obtain⟨v',D',ah⟩:=Za H2;exact⟨j+1,by omega,by go_num,Za az,⟨v',D',by rw[Za TK];exact ah⟩,HS⟩
     case measure=>simp[intOf];omega
  ·have R:Hid (x=0):=(by show _=_;rw[<-Za A];exact Zrk (by rw[Za HZ];omega));have bg:Hid (∃ v' D',Wr w.heap.size (w.heap.size+2) (w.heap.size+1) wr v' D' L):=⟨v,D,by have:=Za HW;rw[List.take_of_length_le (by rw[Za HZ];omega)] at this;exact this⟩;clear A ad HW;go_wp2;go_ret2;refine⟨dH (some ⟨w.heap.size+2,0,none⟩),?_,λ_=>?_,Za HB⟩
   ·rw[Za R];rfl
   ·obtain⟨v',D',ah⟩:=Za bg;exact⟨_,_,v',D',rfl,ah⟩
theorem Fc(a n c L)(w:World)(h:TextsAt w a n L)(x:Int)(hx:bkChk L=x) :
  Calls aB 133 #[.agg #[F a n c]] w λe w'=>∃ v,e = dF (dG #[v,E J x])/\(x=0->∃ p bm v' D',v = dH (some ⟨p,0,none⟩)/\Wr w.heap.size p bm w' v' D' L)/\aC w.heap.size w w':=by
 have hz:=h.1;by_cases h1:120<n
 ·have e:x=2:=by rw[<-hx];unfold bkChk;rw[if_pos (by omega)]
  subst e;have g:(120:Int)<(n:Int):=by omega
  have HB:=Zd (Zh w (dE #[F a n c] 24));clear h hx h1 hz;go_enter func133,ntmps133;go_wp2;go_ret2
  first|exact⟨_,rfl,λh=>absurd h (by decide),Za HB⟩|exact⟨⟨_,rfl⟩,Za HB⟩
 ·have ac:Sq [] L=x:=by rw[<-hx];unfold bkChk;rw[if_neg (by omega)]
  by_cases h0:n=0
  ·subst h0;have e:L=[]:=aL.1 hz;subst e;have e:x=0:=(by rw[<-ac];rfl);subst e;have ae:(w.alloc (dE #[F a 0 c] 24)).heap.size=w.heap.size+1:=(by simp);have W0:=Zhy (w.alloc (dE #[F a 0 c] 24)) w.heap.size (by omega);rw[ae] at W0;obtain⟨af,HB⟩:=kh2 W0 (Zf (Zf (Zh w (dE #[F a 0 c] 24)) (Zh _ (.map #[] 0))) (Zh _ (dE #[F none 0 0,.map (some (w.heap.size+1))] 243)));have ag:=Kz;clear h hx h1 hz ac ae W0;go_enter func133,ntmps133;go_wp2;refine wp_loop_rounds 1 ?_;rw[rounds_succ];go_wp2;go_ret2;refine⟨_,rfl,λ_=>⟨_,_,_,_,rfl,Za af⟩,Za HB⟩
  ·obtain⟨b,off,rfl,hc⟩:=h.2 (by omega);exact Zfv b off n c L w hz (by omega) (by omega) (aE _ _ (hc 0 (by omega))) hc x ac
open Go.RowKit Go.Maps
def allR(L l:List ByteArray):List ByteArray×List Int×Int:=if bkChk L=0 then nmGo L [] l else ([],[],bkChk L)
def IntsAt(w:World)(a:Option Addr)(len:Nat)(Z:List Int):Prop:=
 Z.length=len/\(0<len->∃ b off,a=some ⟨b,off,none⟩/\∀ i (h:i<Z.length),w.cell? ⟨b,off+i,none⟩=some (E J Z[i]))
theorem IntsAt.later{w w':World}{a len Z}(h:IntsAt w a len Z)(hb:aC w.heap.size w w'):IntsAt w' a len Z:=by
 refine⟨h.1,λh0=>?_⟩;obtain⟨b,off,e,hc⟩:=h.2 h0;exact⟨b,off,e,λi hi=>Ze hb (hc i hi)⟩
theorem IntsAt.nil(w a):IntsAt w a 0 []:=⟨rfl,λh=>absurd h (by omega)⟩
def SlOk(a:Option Addr)(n c:Nat):Prop:=n<=c/\c<=cK/\(a=none->n=0/\c=0)
theorem SlOk.nil:SlOk none 0 0:=⟨aF _,by unfold cK;omega,λ_=>⟨rfl,rfl⟩⟩
theorem Wr.beside{base p bm g j:Nat}{w:World}{v u}{D:cQ Unit}{L}(h:Wr base p bm w v D L)(hg:∃ cs,w.heap[g]? = some (dE cs 3 (0,0))):Wr base p bm (w.setCell ⟨g,j,none⟩ u) v D L:=by
 obtain⟨cs,hg⟩:=hg;have far:∀ k,k≠g->(w.setCell ⟨g,j,none⟩ u).heap[k]? = w.heap[k]?:=λk hk=>heap_setCell_other w ⟨g,j,none⟩ k u hk;refine⟨?_,h.pge,h.mge,?_,?_,h.ism,h.names⟩
 ·rw[far p (λe=>?_)]
  ·exact h.box
  ·subst e;rw[h.box] at hg;injection hg with hg;injection hg with _ hg;exact absurd hg (by decide)
 ·refine Vo h.own (λk ae _ hk=>far k (λe=>?_));subst e;rw[hk] at hg;injection hg with hg;injection hg with _ hg;exact absurd hg (by decide)
 ·obtain⟨es,ac,h1,r⟩:=h.map;refine⟨es,ac,(far bm (λe=>?_)).trans h1,r⟩;subst e;rw[h1] at hg;cases hg
def Filled(base g n:Nat)(N:List Int)(w:World):Prop:=∃ xs:List Value,w.ownsRow base 3 1 (F (some ⟨g,0,none⟩) n n) n xs/\∀ j (h:j<N.length),xs[j]? = some (E J N[j])
theorem Filled.block{base g n:Nat}{N}{w:World}(h:Filled base g n N w):base<=g/\∃ cs,w.heap[g]? = some (dE cs 3 (0,0)):=by
 obtain⟨xs,ho,_⟩:=h;obtain⟨_,⟨e,_⟩|⟨g',cap,aa,e,hg,hh,_⟩⟩:=ho
 ·cases e
 ·cases e;exact⟨hg,aa,hh⟩
theorem Filled.far{base g n:Nat}{N w w'}(h:Filled base g n N w)(hf:Far w w'):Filled base g n N w':=by
 obtain⟨xs,ho,hx⟩:=h;exact⟨xs,Vo ho (λk cs _ hk=>hf k cs _ hk (by decide) (by decide)),hx⟩
theorem Filled.old{base g n:Nat}{N}{w:World}(h:Filled base g n N w){k:Nat}(hk:k<n):(∃ v,w.cell? ⟨g,k,none⟩=some v)/\w.frozen? ⟨g,k,none⟩=false/\g<w.heap.size:=by
 obtain⟨xs,ho,_⟩:=h;have hl:xs.length=n:=by simpa using ho.1
 exact⟨⟨xs[k]'(by omega),by rw[ho.cellAt k (by omega)];simp[hl,hk]⟩,ho.frozenAt k,(ho.lt g rfl).2⟩
theorem Filled.step{base g n:Nat}{N:List Int}{w:World}(h:Filled base g n N w)(hk:N.length<n)(x:Int):Filled base g n (N++[x]) (w.setCell ⟨g,N.length,none⟩ (E J x)):=by
 obtain⟨xs,ho,hx⟩:=h;have hl:xs.length=n:=by simpa using ho.1
 refine⟨xs.set N.length (E J x),(ho.stored N.length _).1,λj hj=>?_⟩;by_cases e:j=N.length
 ·subst e;simp[hl,hk]
 ·have aa:j<N.length:=by simp at hj;omega
  rw[List.getElem?_set_ne (by omega),hx j aa];simp[aa]
theorem Filled.ints{base g n:Nat}{N:List Int}{w}(h:Filled base g n N w)(hn:N.length=n):IntsAt w (some ⟨g,0,none⟩) n N:=by
 obtain⟨xs,ho,hx⟩:=h;have hl:xs.length=n:=by simpa using ho.1
 refine⟨hn,λ_=>⟨g,0,rfl,λi hi=>?_⟩⟩;rw[Nat.zero_add,ho.cellAt i (by omega),hx i hi]
theorem results_cell_tmp2{fn:Func}{p u v:Tmp}{ty:cF}(h:fn.results=#[.cell p ty,.tmp u,.tmp v])(tmps:Array Value)(P:Program)(w) :
  (results fn tmps).run P w =
   ((asAddr (tmps.getD p undef)).run P w).andThen λa w₁=>((loadVar ty a).run P w₁).andThen λx w₂=>.ok (dG #[x,tmps.getD u undef,tmps.getD v undef]) w₂:=by
 simp only[results,h];simp[Sem.run_bind,Result.andThen]
theorem Zes{w:World}{base n c:Nat}{a}{L:List ByteArray}(h:w.ownsRow base 9 1 (F a n c) n (L.map dB)):TextsAt w a n L:=by
 obtain⟨a',c',e,_,_,_,ht⟩:=V5 h;cases e;exact ht
theorem Zno{l:List ByteArray}{j:Nat}(h:j<l.length)(L N):nmGo L N (l.drop j)=if (nm L l[j]).2.2=0 then nmGo (nm L l[j]).1 (N++[(nm L l[j]).2.1]) (l.drop (j+1)) else ([],[],(nm L l[j]).2.2):=by
 rw[aJ h,nmGo]
theorem Zjz{l:List ByteArray}{j:Nat}(h:l.length<=j)(L N):nmGo L N (l.drop j)=(L,N,0):=by
 rw[bU h];rfl
theorem Zem(a al n c nl cl L)(w:World)(h:TextsAt w a n L)(x:Int)(hx:bkChk L=x)(h0:x≠0) :
  ZH 86 #[.agg #[F a n c],F al nl cl] w (dG #[.agg #[F none 0 0],F none 0 0,E J x]):=by
 have ac:=Zh w (dE #[F a n c] 24);have aa:=Zh (w.alloc (dE #[F a n c] 24)) (dE #[F none 0 0] 24);have hb:=Zf ac aa;have ad:(w.alloc (dE #[F a n c] 24)).heap.size=w.heap.size+1:=by simp
 have c1:=aG (w.alloc (dE #[F a n c] 24)) (dE #[F none 0 0] 24);rw[ad] at c1;obtain⟨O,HB,C1⟩:=kh3 (Fc a n c L _ (h.later hb) x hx) hb c1;have g:(x != 0)=true:=by simp[h0]
 clear h hx hb ac aa c1 ad;go_enter func86,ntmps86;go_wp2_with fail;refine O.mono ?_;rintro e w2 ⟨v,rfl,-,aa⟩;have af:=Zd (Zf HB aa);have c1:=ZE aa C1;have d0:w2.cell? ⟨w.heap.size+1,0,none⟩=some (F none 0 0):=by simp[bH,c1]
 have df:w2.frozen? ⟨w.heap.size+1,0,none⟩=false:=by simp[World.frozen?,c1]
 have ak:w.heap.size+1<w2.heap.size:=aA c1;clear aa c1;go_wp2;(try simp only[Exit.inBlock,Exit.then]);refine bB (v:=dG #[.agg #[F none 0 0],F none 0 0,E J x]) ?_ rfl ⟨rfl,?_⟩
 ·rw[results_cell_tmp2 rfl];go_simp
 ·exact af.setCell (dC _) _
theorem Me(a al n c nl cl L l M N)(x:Int)(w:World)(h:TextsAt w a n L)(hl:TextsAt w al nl l)(ea:nl<=17592186044416)(hR:Right L)(hx:nmGo L [] l=(M,N,x)) :
  Calls aB 86 #[.agg #[F a n c],F al nl cl] w λe w'=>(∃ a' n' c' a2 n2 c2,e = dF (dG #[.agg #[F a' n' c'],F a2 n2 c2,E J x])/\(∀ w2,Gr w' w2 (λk=>k<w.heap.size)->TextsAt w2 a' n' M)/\SlOk a' n' c'/\IntsAt w' a2 n2 N/\n2<=nl/\n2<=c2)/\aC w.heap.size w w':=by
 obtain⟨i0,hi,ef,eg,eh⟩:=info_parts Tryz.infoInt;have cj:=Zh w (dE #[F a n c] 24);have aj:=Zh (w.alloc (dE #[F a n c] 24)) (dE #[F none 0 0] 24);have hb:=Zf cj aj;have db:(w.alloc (dE #[F a n c] 24)).heap.size=w.heap.size+1:=by simp
 have dc:((w.alloc (dE #[F a n c] 24)).alloc (dE #[F none 0 0] 24)).heap.size=w.heap.size+2:=by simp
 have c1:=aG (w.alloc (dE #[F a n c] 24)) (dE #[F none 0 0] 24);rw[db] at c1;have O:=Zd (Fc a n c L _ (h.later hb) 0 ((right_iff L).2 hR));rw[dc] at O;obtain⟨HB,C1,bv,bz,HR,HX⟩:=kh6 hb c1 hl ea hR hx;clear h hl hx hb cj aj c1 db dc hR;go_enter func86,ntmps86;go_wp2_with fail;refine O.mono ?_;rintro e w2 ⟨v,rfl,ad,aj⟩;obtain⟨p,bm,v0,D0,rfl,ay⟩:=ad (by trivial);have ec:w.heap.size+2<=w2.heap.size:=aN ay.pge (Nat.le_of_lt (aA ay.box));have c1:=(aj.block _ (by omega)).trans C1;have bt:Hid (aC w.heap.size w w2):=HB.trans (aj.mono (by omega));obtain⟨HW,C2⟩:=kh2 ay c1;clear ay ad aj c1
 go_wp2_with (at_make;refine wpList_make_full _ rfl _ _ 25 rfl (w.heap.size+2) 3 i0 (E J 0) 1 underlying25 hi ef eg .i64 .i64 _ _ nl rfl rfl rfl rfl (by rw[eh];have:=Za bz;omega) (by have:=Za bz;unfold cK;omega) ec ?_;intro w3 cy cp)
 have av:aC w2.heap.size w2 w3:=(Below.refl _ _).grown cp (aF _) (λk h=>by cases h);have dq:=Zd (HW.keep av);have bu:Hid (Filled (w.heap.size+2) w2.heap.size nl [] w3):=⟨_,cy,λj hj=>absurd hj (by simp)⟩;obtain⟨C3,dj⟩:=kh2 (ZE av C2) (Zf bt av);obtain⟨g,hg⟩:=ZF (w2.heap.size);rw[hg] at bu ⊢;clear av cy cp HW C2 bt hg
 go_loopw [26] (λi wr=>∃ (j:Nat) (L':List ByteArray) (N':List Int),j<=nl/\i = E J j/\aC w.heap.size w wr/\Hid (∃ v D,Wr (w.heap.size+2) p bm wr v D L')/\Hid (Filled (w.heap.size+2) g nl N' wr)/\Hid (N'.length=j/\Right L'/\nmGo L' N' (l.drop j)=(M,N,x))/\Hid (wr.heap[w.heap.size+1]? = some (dE #[F none 0 0] 24 (0,0)))) (λi _=>nl - (intOf i).toNat)
 case atStart=>exact⟨0,L,[],aI _,rfl,Za dj,⟨_,_,Za dq⟩,bu,⟨rfl,Za HR,Za HX⟩,C3⟩
 case round=>
  obtain⟨j,L',N',hk,rfl,aw,cb,HF,HN,HC⟩:=hrel;have bd:=Zd aw;by_cases cw:j<nl
  ·obtain⟨hz,cm⟩:=Za bv;obtain⟨b,off,rfl,hc⟩:=cm (by omega);have cu:j<l.length:=(by omega);have f:=Ze aw (hc j cu);obtain⟨v,D,ad⟩:=Za cb;obtain⟨q1,q2,q3⟩:=Za HN;rw[Zno cu] at q3;obtain⟨s,hs⟩:=ZF (l[j]);rw[hs] at f q3;obtain⟨r,hr⟩:=ZF (nm L' s);rw[hr] at q3;obtain⟨M',n',e'⟩:=r;simp only at q3;have CN:=Zd (Znp (w.heap.size+2) p bm v D L' M' s n' e' wr ad q2.1 hr)
   have NR:Hid (e'=0->Right M'):=λh=>by
    have:=nm_right (L:=L') (s:=s) q2;rw[hr] at this;exact this h
   clear ad hs hc cm aw hr;by_cases he:e'=0
   ·subst he;rw[if_pos rfl] at q3;obtain⟨Q3,cz⟩:=kh2 q3 q1;clear q3 q2 q1;go_wp2_with fail;refine CN.mono ?_;rintro y w5 ⟨rfl,az,ah,ar⟩;have F5:=HF.far ar;obtain⟨⟨u,hu⟩,dw,dy⟩:=F5.old cw;have ek:=Zd F5;have hq:N'.length=j:=Za cz;have ST:=Zd (F5.step (by omega) n');rw[hq] at ST;have dk:=Zd (bd.trans (ah.mono (by omega)))
    have W5:Hid (∃ v D,Wr (w.heap.size+2) p bm (w5.setCell ⟨g,j,none⟩ (E J n')) v D M'):=by
     obtain⟨v',D',h'⟩:=(by first|exact az|exact az rfl|exact az (by trivial):∃ v' D',Wr (w.heap.size+2) p bm w5 v' D' M');exact⟨v',D',h'.beside F5.block.2⟩
    have C5:Hid ((w5.setCell ⟨g,j,none⟩ (E J n')).heap[w.heap.size+1]? = some (dE #[F none 0 0] 24 (0,0))):=by
     show _=_;rw[heap_setCell_other _ _ _ _ (by show w.heap.size+1≠g;have:=F5.block.1;omega),ah.block _ (by omega)];exact Za HC
    have an:=Zd (dk.setCell (p:=⟨g,j,none⟩) (by show w.heap.size<=g;have:=F5.block.1;omega) (E J n'));clear az ah ar F5;go_wp2;go_roundw
    case rel=>exact⟨j+1,M',N'++[n'],by omega,by go_num,Za an,W5,ST,⟨by simp;exact Za cz,NR (by trivial),Za Q3⟩,C5⟩
    case measure=>simp[intOf];omega
   ·rw[if_neg he] at q3;have e1:M=[]:=(by injection q3 with q3 _;exact q3.symm);have e2:N=[]:=(by injection q3 with _ q3;injection q3 with q3 _;exact q3.symm);have e3:x=e':=(by injection q3 with _ q3;injection q3 with _ q3;exact q3.symm);subst e1 e2 e3;have g5:(x != 0)=true:=(by simp[he]);clear q3 q2 q1;go_wp2_with fail;refine CN.mono ?_;rintro y w5 ⟨rfl,-,ah,ar⟩;have F5:=HF.far ar;obtain⟨⟨u,hu⟩,dw,dy⟩:=F5.old cw;have ep:w.heap.size+2<=g:=F5.block.1
    have c5:(w5.setCell ⟨g,j,none⟩ (E J n')).heap[w.heap.size+1]? = some (dE #[F none 0 0] 24 (0,0)):=by
     rw[heap_setCell_other _ _ _ _ (by show w.heap.size+1≠g;omega),ah.block _ (by omega)];exact Za HC
    obtain⟨Z,hZ⟩:=ZG (w5.setCell ⟨g,j,none⟩ (E J n'));have an:=Zd ((bd.trans (ah.mono (by omega))).setCell (p:=⟨g,j,none⟩) (by show w.heap.size<=g;omega) (E J n'));rw[<-hZ] at c5 an;have d0:Z.cell? ⟨w.heap.size+1,0,none⟩=some (F none 0 0):=(by simp[bH,c5]);have df:Z.frozen? ⟨w.heap.size+1,0,none⟩=false:=(by simp[World.frozen?,c5]);clear ah ar F5 c5;rw[hZ] at d0 df an;clear hZ;go_wp2;(try simp only[Exit.inBlock,Exit.then]);refine bB (v:=dG #[.agg #[F none 0 0],F none 0 0,E J x]) ?_ rfl ⟨⟨_,_,_,_,_,_,rfl,λ_ _=>TextsAt.nil _ _,SlOk.nil,IntsAt.nil _ _,aI _,aF _⟩,?_⟩
    ·rw[results_cell_tmp2 rfl];go_simp
    ·exact an.setCell (dC _) _
  ·have e:j=nl:=(by omega);subst e;obtain⟨q1,q2,q3⟩:=Za HN;rw[Zjz (by rw[(Za bv).1];exact aF _)] at q3;have e1:M=L':=(by injection q3 with q3 _;exact q3.symm);have e2:N=N':=(by injection q3 with _ q3;injection q3 with q3 _;exact q3.symm);have e3:x=0:=(by injection q3 with _ q3;injection q3 with _ q3;exact q3.symm);subst e1 e2 e3;obtain⟨v,D,ad⟩:=Za cb;obtain⟨d1,d2,-⟩:=ad.cell0;have ho:=ad.own;obtain⟨a',c',rfl,s1,s2,s3,s4⟩:=V5 ad.own;have dm:Hid (SlOk a' M.length c'):=⟨s1,s2,s3⟩;have HT:Hid (∀ u w2,Gr (wr.setCell ⟨w.heap.size+1,0,none⟩ u) w2 (λk=>k<w.heap.size)->TextsAt w2 a' M.length M):=λu w2 g2=>Zes (Vo ho (λk cs dx hk=>(g2.block k (by simpa[World.setCell] using aA hk) (by omega)).trans (heap_setCell_other _ _ _ _ (by show k≠w.heap.size+1;omega))))
   have HI:Hid (∀ u,IntsAt (wr.setCell ⟨w.heap.size+1,0,none⟩ u) (some ⟨g,0,none⟩) j N):=λu=>by
    obtain⟨xs,ee,ed⟩:=Za HF;exact Filled.ints ⟨xs,Vo ee (λk cs dx _=>heap_setCell_other _ _ _ _ (by show k≠w.heap.size+1;omega)),ed⟩ q1
   have c5:=Za HC;have d0:wr.cell? ⟨w.heap.size+1,0,none⟩=some (F none 0 0):=(by simp[bH,c5]);have df:wr.frozen? ⟨w.heap.size+1,0,none⟩=false:=(by simp[World.frozen?,c5]);have er:w.heap.size+1≠p:=(by have:=ad.pge;omega);clear q1 q2 q3 ad ho s1 s2 s3 s4 c5 aw;go_wp2;(try simp only[Exit.inBlock,Exit.then]);refine bB (v:=dG #[.agg #[F a' M.length c'],F (some ⟨g,0,none⟩) j j,E J 0]) ?_ rfl ⟨⟨_,_,_,_,_,_,rfl,HT _,Za dm,HI _,aF _,aF _⟩,?_⟩
   ·rw[results_cell_tmp2 rfl];go_simp
   ·exact bd.setCell (dC _) _
theorem Zhv(a al n c nl cl L l M N)(x:Int)(w:World)(h:TextsAt w a n L)(hl:TextsAt w al nl l)(am:nl<=17592186044416)(hR:Right L)(hx:nmGo L [] l=(M,N,x)) :
  Calls aB 86 #[.agg #[F a n c],F al nl cl] w λe w'=>(∃ a' n' c' a2 n2 c2,e = dF (dG #[.agg #[F a' n' c'],F a2 n2 c2,E J x])/\TextsAt w' a' n' M/\SlOk a' n' c'/\IntsAt w' a2 n2 N/\n2<=nl/\n2<=c2)/\aC w.heap.size w w':=by
 refine (Me a al n c nl cl L l M N x w h hl am hR hx).mono ?_;rintro e w' ⟨⟨a',n',c',a2,n2,c2,h1,h2,h3⟩,hb⟩;exact⟨⟨a',n',c',a2,n2,c2,h1,h2 _ (Gr.refl _ _),h3⟩,hb⟩
open Go.RowKit Go.Maps
def nameR(L:List ByteArray)(s:ByteArray):List ByteArray×Int×Int:=if bkChk L=0 then nm L s else ([],0,bkChk L)
theorem Zju(w:World)(s:ByteArray):TextsAt (w.alloc (dE #[.string s] 9)) (some ⟨w.heap.size,0,none⟩) 1 [s]:=
 ⟨rfl,λ_=>⟨w.heap.size,0,rfl,λi hi=>by
  have e:i=0:=by simp at hi;omega
  subst e;exact Rc w (.string s) 9⟩⟩
theorem all_is(a al n c nl cl L l M N)(x:Int)(w:World)(h:TextsAt w a n L)(hl:TextsAt w al nl l)(ap:nl<=17592186044416)(hx:allR L l=(M,N,x)) :
  Calls aB 86 #[.agg #[F a n c],F al nl cl] w λe w'=>(∃ a' n' c' a2 n2 c2,e = dF (dG #[.agg #[F a' n' c'],F a2 n2 c2,E J x])/\TextsAt w' a' n' M/\SlOk a' n' c'/\IntsAt w' a2 n2 N/\n2<=nl/\n2<=c2)/\aC w.heap.size w w':=by
 unfold allR at hx;by_cases h0:bkChk L=0
 ·rw[if_pos h0] at hx;exact Zhv a al n c nl cl L l M N x w h hl ap ((right_iff L).1 h0) hx
 ·rw[if_neg h0] at hx;have e1:M=[]:=by injection hx with hx _;exact hx.symm
  have e2:N=[]:=by injection hx with _ hx;injection hx with hx _;exact hx.symm
  have e3:bkChk L=x:=by injection hx with _ hx;injection hx with _ hx
  subst e1 e2;refine (Zem a al n c nl cl L w h x e3 (by rw[<-e3];exact h0)).mono ?_;rintro e w' ⟨rfl,hb⟩;exact⟨⟨_,_,_,_,_,_,rfl,TextsAt.nil _ _,SlOk.nil,IntsAt.nil _ _,aI _,aF _⟩,hb⟩
theorem Zpb(L)(s:ByteArray):allR L [s]=((nameR L s).1,(if (nameR L s).2.2=0 then [(nameR L s).2.1] else []),(nameR L s).2.2):=by
 unfold allR nameR;by_cases h0:bkChk L=0
 ·rw[if_pos h0,if_pos h0];simp only[nmGo,List.nil_append];by_cases h1:(nm L s).2.2=0
  ·rw[if_pos h1,if_pos h1];rw[h1]
  ·rw[if_neg h1,if_neg h1]
   have:(nm L s).1=[]:=by
    unfold nm at *;by_cases h2:4000<s.size
    ·rw[if_pos h2]
    ·rw[if_neg h2] at *;by_cases h3:place s L≠0
     ·rw[if_pos h3] at h1;exact absurd rfl h1
     ·rw[if_neg h3] at *;by_cases h4:120<=L.length
      ·rw[if_pos h4]
      ·rw[if_neg h4] at h1;exact absurd rfl h1
   rw[this]
 ·rw[if_neg h0,if_neg h0];simp[h0]
theorem Zkc{L}{s:ByteArray}(h:(nameR L s).2.2≠0):(nameR L s).1=[]/\(nameR L s).2.1=0:=by
 unfold nameR at *;by_cases h0:bkChk L=0
 ·rw[if_pos h0] at *;unfold nm at *;by_cases h2:4000<s.size
  ·rw[if_pos h2];exact⟨rfl,rfl⟩
  ·rw[if_neg h2] at *;by_cases h3:place s L≠0
   ·rw[if_pos h3] at h;exact absurd rfl h
   ·rw[if_neg h3] at *;by_cases h4:120<=L.length
    ·rw[if_pos h4];exact⟨rfl,rfl⟩
    ·rw[if_neg h4] at h;exact absurd rfl h
 ·rw[if_neg h0];exact⟨rfl,rfl⟩
