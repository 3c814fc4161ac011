import Derived.Test.YtpikejjiignchaaGreatDoorH
import Derived.Test.YtpikejjiignchaaGreatDoorG24
import Derived.Sort.AssemblyPlain
open Go.Proofs.Tryz
open Decidable renaming not_not->cC
open Go renaming TypeId->bO,lt_of_block->aA,heap_alloc_new->aK,bodyPost_ret->aR
open Go.Ending renaming returned->dX
open Go.IntKind renaming i64->J
open Go.Obj renaming cells->dW
open Go.Value renaming int->E,slice->F,tuple->dY,pointer->dZ,bool->eA
open Go.World renaming block_lt_of_cell?->aC,cell?_of_block->cR,cell?_alloc_at->cH
open List renaming replicate->aF,mem_append->cI,mem_singleton->dN,mem_filter->dO,getElem?_eq_getElem->aS,drop_of_length_le->cB,drop_eq_getElem_cons->aN,mem_cons->bU,take_of_length_le->aY,getElem_mem->bK,take_succ_eq_append_getElem->aM,nil_append->dL,take_succ_cons->dK,map_append->bW,length_take->bG,length_append->bB
open Nat renaming lt_of_lt_of_le->aI,le_refl->aE,zero_le->aP
open Prod.mk renaming injEq->cJ,inj->aX
set_option maxHeartbeats 6400000
set_option maxRecDepth 10000
namespace Go.Proofs.YtpikejjiignchaaGreatDoor
open Go.RowKit
theorem Zgw{P:Program}{w:World}{ops}{o:Oper}{a:Act}{K:Act->World->Prop}{Q:Exit->Act->World->Prop}{ab:Prop}
  (hg:o.guard=none) (l c:Operand) (t:bO) (am:o.op=Op.makeSlice t l c)
  (base:Nat) (e:bO) (i:TypeInfo) (z:Value) (size:Nat) (h1:P.underlying t=some (.slice e)) (h2:P.info? e=some i) (h3:i.zero=some z) (h4:i.size=size)
  (kl O:IntKind) (L C:Int) (n:Nat) (hl:a.eval l = .int kl L) (hc:a.eval c = .int O C) (hL:L=(n:Int)) (hC:C=(n:Int)) (b2:i.bytes*n<=281474976710656) (b3:n<=maxLen) (b4:base<=w.heap.size) (H:Nat) (hH:w.heap.size=H)
  (hK:∀ w',w'.ownsRow base e size (F (some ⟨H,0,none⟩) n n) n (madeCells z.cells (n*size)).toList->w.grownBy w' none->K (a.put o.dst (F (some ⟨H,0,none⟩) n n)) w') :
  if Region.wanted o (yielded ops a.tmps)=true then Oper.wp P o a w K Q else ab:=by
 rw[if_pos (by simp[Region.wanted,hg])];subst hH;obtain⟨w',an,r1,r2⟩:=run_make_full (P:=P) w base t e i z size h1 h2 h3 h4 kl O n b2 b3 b4;subst hL;subst hC;unfold Oper.wp;simp[execOp,am,hl,hc,an,Result.andThen];exact hK w' r1 r2
def Ut:TxD:=(0,[],[])
def W6(h r:Int)(T:List TxD)(N:List Int):Nat->Nat->List Zf->List (List Zf)->Int×List Zf×List (List Zf)
 | 0,_,C,S=>(0,C,S)
 | q+1,k,C,S=>
  if (k+1) % T.length=0/\Xk r T S T.length<0 then (9,[],[])
  else if (apD C (T.getD ((k+1) % T.length) Ut) (N.getD ((k+1) % T.length) 0) h).1≠0 then ((apD C (T.getD ((k+1) % T.length) Ut) (N.getD ((k+1) % T.length) 0) h).1,[],[])
  else W6 h r T N q (k+1) (apD C (T.getD ((k+1) % T.length) Ut) (N.getD ((k+1) % T.length) 0) h).2.1 (S.set ((k+1) % T.length) (apD C (T.getD ((k+1) % T.length) Ut) (N.getD ((k+1) % T.length) 0) h).2.2)
def Ym(K:List ByteArray)(C:List Zf)(b:Zj):Int×List Zf×List (List Zf):=
 if (nfD K C b).2≠0 then ((nfD K C b).2,[],[]) else W6 b.2.1 (rwD b.2.1).1 b.2.2.2.2 (nfD K C b).1 b.2.2.2.2.length 0 C (aF b.2.2.2.2.length [])
theorem Dj{h r:Int}{T:List TxD}{N:List Int}{q k i:Nat}{C}{S:List (List Zf)}(hi:(k+1) % T.length=i){t}(ht:T.getD i Ut=t){nm:Int}(O:N.getD i 0=nm){y:Int}{M s}(z:apD C t nm h=(y,M,s)) :
  W6 h r T N (q+1) k C S=if i=0/\Xk r T S T.length<0 then (9,[],[]) else if y≠0 then (y,[],[]) else W6 h r T N q (k+1) M (S.set i s):=by
 rw[W6,hi,ht,O,z]
theorem F3(h:Int):∀ (I:List InD) (S L z M:List Zf),Zp h I S L=(0,z,M)->z.length=S.length+I.length/\∀ c∈z,c∈S\/c∈L
 | [],S,L,z,M,e=>by
  simp only[Zp,cJ] at e;obtain⟨_,rfl,rfl⟩:=e;exact⟨by simp,λc O=>.inl O⟩
 | x :: I,S,L,z,M,e=>by
  rw[Zp] at e;split at e
  ·simp at e
  ·next c L' hT=>
   split at e
   ·simp at e
   ·split at e
    ·simp at e
    ·obtain⟨h1,h2⟩:=F3 h I (S++[c]) L' z M e;refine⟨by rw[h1];simp;omega,λae hz=>?_⟩;obtain⟨q1,_,q2⟩:=Pb hT
     rcases h2 ae hz with q|q
     ·rcases cI.1 q with q|q
      ·exact .inl q
      ·rw[dN.1 q];exact .inr q1
     ·rw[q2] at q;exact .inr (dO.1 q).1
theorem Eb{L t}{name h:Int}{M S:List Zf}(e:apD L t name h=(0,M,S)):S.length<=6/\∀ c∈S,0<=cv c/\cv c<=1000000000:=by
 unfold apD at e;split at e
 ·next q=>simp at e;exact absurd e.1 q
 ·next q=>
  split at e
  ·next q=>simp at e;exact absurd e.1 q
  ·next z=>
   split at e
   ·next q=>simp at e;exact absurd e.1 q
   ·split at e
    ·next q=>simp at e;exact absurd e.1 q
    ·split at e
     ·next q=>simp at e;exact absurd e.1 q
     ·have q:=cC.1 q;have z:=cC.1 z;obtain⟨hR,hT,_⟩:=Uf q;simp only[cJ] at e;obtain⟨_,_,rfl⟩:=e;obtain⟨x,S',O,hs⟩:∃ x S' O,Zp h t.2.1 [] L=(x,S',O):=⟨_,_,_,rfl⟩;rw[hs] at z ⊢;simp only at z;subst z;obtain⟨h1,h2⟩:=F3 h t.2.1 [] L S' O hs;have h6:=(Y9 hT).1;refine⟨by simp at h1;simp only;omega,λc hc=>?_⟩
      rcases h2 c hc with q|q
      ·cases q
      ·have:=Wp (hR.one c q);omega
theorem Mh{w:World}{b:Nat}{X:List Value}{t:bO}(h:w.heap[b]? = some (dW X.toArray t (0,0)))(j:Nat)(u):(w.setCell ⟨b,j,none⟩ u).heap[b]? = some (dW (X.set j u).toArray t (0,0)):=by
 rw[setCell_eq_setRow w b j X.toArray t (0,0) u h];have:=setRow_heap w b _ (X.toArray.setIfInBounds j u) t _ h;simpa using this
def UsOk(ty:bO)(g m:Nat)(w:World):Prop:=∃ cs:List Value,w.heap[g]? = some (dW cs.toArray ty (0,0))/\cs.length=m/\∀ v∈cs,∃ a n c,v = F a n c
def UsAt(ty:bO)(g:Nat)(S:List (List Zf))(w:World):Prop:=∃ cs:List Value,w.heap[g]? = some (dW cs.toArray ty (0,0))/\cs.length=S.length/\∀ i (h:i<S.length),∃ a n c,cs[i]? = some (F a n c)/\CoinsAt w a n S[i]/\SlOk a n c
section
variable {ty : TypeId} {g m : Nat} {w w' : World} {S : List (List Zf)}
theorem UsAt.ok(h:UsAt ty g S w):UsOk ty g S.length w:=by
 obtain⟨cs,h1,h2,h3⟩:=h;refine⟨cs,h1,h2,λv z=>?_⟩;obtain⟨i,hi,rfl⟩:=List.getElem_of_mem z;obtain⟨a,n,c,h4,_⟩:=h3 i (by omega);rw[aS hi] at h4;exact⟨a,n,c,Option.some.inj h4⟩
theorem UsOk.lt(h:UsOk ty g m w):g<w.heap.size:=by obtain⟨cs,h1,_⟩:=h;exact aA h1
theorem UsOk.later(h:UsOk ty g m w)(z:ZD w w'):UsOk ty g m w':=by
 obtain⟨cs,h1,h2,h3⟩:=h;exact⟨cs,(z.block g (aA h1)).trans h1,h2,h3⟩
theorem UsOk.cell(h:UsOk ty g m w){i:Nat}(hi:i<m):∃ z,w.cell? ⟨g,i,none⟩=some z:=by
 obtain⟨cs,h1,h2,_⟩:=h;exact⟨cs[i]'(by omega),Zd h1 i _ (aS (by omega))⟩
theorem UsOk.free(h:UsOk ty g m w)(i:Nat):w.frozen? ⟨g,i,none⟩=false:=by
 obtain⟨cs,h1,_⟩:=h;exact Zi h1 i
theorem UsOk.put(h:UsOk ty g m w)(i:Nat)(a)(n c):UsOk ty g m (w.setCell ⟨g,i,none⟩ (F a n c)):=by
 obtain⟨cs,h1,h2,h3⟩:=h;refine⟨cs.set i (F a n c),Mh h1 i _,by simpa using h2,λv z=>?_⟩
 rcases List.mem_or_eq_of_mem_set z with q|rfl
 ·exact h3 v q
 ·exact⟨a,n,c,rfl⟩
theorem UsOk.other(h:UsOk ty g m w){b o:Nat}{k:IntKind}{x:Int}(z:w.cell? ⟨b,o,none⟩=some (.int k x)):b≠g:=by
 rintro rfl;obtain⟨cs,h1,_,h3⟩:=h
 have:cs[o]? = some (.int k x):=by
  rw[cell_of_row w b o cs.toArray ty (0,0) h1] at z;simpa using z
 obtain⟨a,n,c,e⟩:=h3 _ (List.mem_of_getElem? this);cases e
theorem Zqf{a n l}(h:OpsAt w a n l)(ho:UsOk ty g m w)(hg:Gr w w' (λq=>q=g)):OpsAt w' a n l:=by
 refine⟨h.1,λh0=>?_⟩;obtain⟨b,off,rfl,O⟩:=h.2 h0;refine⟨b,off,rfl,λi hi=>?_⟩;obtain⟨c0,c1⟩:=O i hi;have z:=hg.block b (aC _ _ c0) (ho.other c0);exact⟨(cR (a:=⟨b,off+i*2,none⟩) z).trans c0,(cR (a:=⟨b,off+i*2+1,none⟩) z).trans c1⟩
theorem W7{a n L}(h:CoinsAt w a n L)(ho:UsOk ty g m w)(z:Gr w w' (λq=>q=g)):CoinsAt w' a n L:=by
 refine⟨h.1,λh0=>?_⟩;obtain⟨b,off,rfl,O,hc⟩:=h.2 h0;refine⟨b,off,rfl,aI O z.size,λi hi=>?_⟩;obtain⟨c0,c1,c2,⟨la,ln,lc,c3,h5,h6⟩,c4,c5⟩:=hc i hi;have hb:=z.block b O (ho.other c0);have k:=λ(o:Nat)=>cR (a:=⟨b,o,none⟩) hb;exact⟨(k _).trans c0,(k _).trans c1,(k _).trans c2,⟨la,ln,lc,(k _).trans c3,Zqf h5 ho z,h6⟩,(k _).trans c4,(k _).trans c5⟩
theorem UsAt.later(h:UsAt ty g S w)(z:ZD w w'):UsAt ty g S w':=by
 obtain⟨cs,h1,h2,h3⟩:=h;refine⟨cs,(z.block g (aA h1)).trans h1,h2,λi hi=>?_⟩;obtain⟨a,n,c,O,q2,q3⟩:=h3 i hi;exact⟨a,n,c,O,q2.later z,q3⟩
theorem UsAt.put(h:UsAt ty g S w)(i:Nat){a n c s}(hs:CoinsAt w a n s)(sl:SlOk a n c):UsAt ty g (S.set i s) (w.setCell ⟨g,i,none⟩ (F a n c)):=by
 have O:=h.ok;have z:=(Gr.refl w (λq=>q=g)).one g i (.inl rfl) (F a n c);obtain⟨cs,h1,h2,h3⟩:=h;refine⟨cs.set i (F a n c),Mh h1 i _,by simpa using h2,λj hj=>?_⟩;have ac:j<S.length:=by simpa using hj
 by_cases e:i=j
 ·subst e;refine⟨a,n,c,by rw[List.getElem?_set_self (by omega)],?_,sl⟩;rw[List.getElem_set_self];exact W7 hs O z
 ·obtain⟨a',n',c',q1,q2,q3⟩:=h3 j ac;refine⟨a',n',c',by rw[List.getElem?_set_ne e];exact q1,?_,q3⟩;rw[List.getElem_set_ne e];exact W7 q2 O z
theorem UsAt.undo(h:UsAt ty g S w)(i:Nat)(hi:i<S.length):UndoAt w g (0+i) S[i]:=by
 obtain⟨cs,h1,h2,h3⟩:=h;obtain⟨a,n,c,z,O,q3⟩:=h3 i hi;exact⟨a,n,c,by rw[Nat.zero_add];exact Zd h1 i _ z,O,q3⟩
theorem Zjl{base:Nat}(h:w.ownsRow base ty 1 (F (some ⟨g,0,none⟩) m m) m (aF m (F none 0 0))):UsAt ty g (aF m []) w:=by
 rcases h.2 with ⟨e,_⟩|⟨g',ab,z,e,hg,O,h1,h2,h3,h4⟩
 ·cases e
 ·cases e;refine⟨z.toList,by simpa using O,?_,λi hi=>?_⟩
  ·simp;omega
  ·have aa:i<m:=(by simpa using hi);refine⟨none,0,0,?_,?_,Wd⟩
   ·have h5:(z.toList.take (m*1))[i]? = (aF m (Value.slice none 0 0))[i]?:=(by rw[h4]);rw[List.getElem?_take,if_pos (by omega)] at h5;rw[h5];simp[aa]
   ·rw[List.getElem_replicate];exact⟨rfl,λh=>absurd h (by omega)⟩
end
def UndosAt(w:World)(a:Option Addr)(n:Nat)(S:List (List Zf)):Prop:=S.length=n/\(0<n->∃ b off,a=some ⟨b,off,none⟩/\b<w.heap.size/\∀ i (h:i<S.length),UndoAt w b (off+i) S[i])
theorem UndosAt.later{w w':World}{a n S}(h:UndosAt w a n S)(z:ZD w w'):UndosAt w' a n S:=by
 refine⟨h.1,λh0=>?_⟩;obtain⟨b,off,e,hl,O⟩:=h.2 h0;exact⟨b,off,e,aI hl z.size,λi hi=>(O i hi).kept z⟩
theorem UsAt.undos{ty:bO}{g}{S:List (List Zf)}{w}(h:UsAt ty g S w):UndosAt w (some ⟨g,0,none⟩) S.length S:=⟨rfl,λ_=>⟨g,0,rfl,h.ok.lt,λi hi=>h.undo i hi⟩⟩
def Znn(w w':World)(x:Int)(C:List Zf)(S:List (List Zf))(e:Ending):Prop:=
 ∃ a n c z O uc,e = dX (dY #[F a n c,F z O uc,E J x])/\CoinsAt w' a n C/\SlOk a n c/\UndosAt w' z O S/\SlOk z O uc/\ZD w w'/\∀ ad,z=some ad->w.heap.size<=ad.block
theorem Rx{w w':World}{x y:Int}{C S}(h:((y:Int),([]:List Zf),([]:List (List Zf)))=(x,C,S))(z:ZD w w'):Znn w w' x C S (dX (dY #[F none 0 0,F none 0 0,E J y])):=by
 injection h with h1 h2;injection h2 with h2 h3;subst h1 h2 h3;exact⟨none,0,0,none,0,0,rfl,⟨rfl,λh=>absurd h (by omega)⟩,Wd,⟨rfl,λh=>absurd h (by omega)⟩,Wd,z,λO e=>by cases e⟩
theorem hasP_no{p:PtD}{L}:Xp p L=false↔∀ c∈L,pt c≠p:=by
 rw[<-Bool.not_eq_true,Ud];exact⟨λh c z e=>h ⟨c,z,e⟩,λh ⟨c,z,e⟩=>h c z e⟩
theorem Fa{L M S}{t:TxD}{name h:Int}(e:apD L t name h=(0,M,S)):Wb L t name h=0/\∃ z,Zp h t.2.1 [] L=(0,S,z)/\Di S t=0/\Yh name h (isR t) 0 t.2.2 z=(0,M)/\Zo M=0:=by
 obtain⟨x1,h1⟩:=ZF (Wb L t name h);obtain⟨⟨x2,S2,z⟩,h2⟩:=ZF (Zp h t.2.1 [] L);obtain⟨x3,h3⟩:=ZF (Di S2 t);obtain⟨⟨x4,O⟩,h4⟩:=ZF (Yh name h (isR t) 0 t.2.2 z);obtain⟨x5,h5⟩:=ZF (Zo O);rw[Ec h1 h2 h3 h4 h5] at e;split at e
 ·rename_i q;injection e with e _;exact absurd e q
 rename_i q1;split at e
 ·rename_i q;injection e with e _;exact absurd e q
 rename_i q2;split at e
 ·rename_i q;injection e with e _;exact absurd e q
 rename_i q3;split at e
 ·rename_i q;injection e with e _;exact absurd e q
 rename_i q4;split at e
 ·rename_i q;injection e with e _;exact absurd e q
 rename_i q5;have e1:x1=0:=by omega
 have e2:x2=0:=by omega
 have e3:x3=0:=by omega
 have e4:x4=0:=by omega
 have e5:x5=0:=by omega
 injection e with _ e;injection e with ea eb;subst e1 e2 e3 e4 e5 ea eb;exact⟨h1,z,h2,h3,h4,h5⟩
theorem Dc(name h:Int)(r:Bool):∀ (O:List Ya) (i:Nat) (L M:List Zf),Srt L->Yh name h r i O L=(0,M) ->
  Srt M/\(∀ x,x∈M↔x∈L\/∃ j,∃ z:j<O.length,x=Rn name (i+j) O[j] h r)/\(∀ j,j<O.length->Xp (name,((i+j:Nat):Int)) L=false)
 | [],i,L,M,hs,e=>by
  unfold Yh at e;injection e with _ e;subst e;exact⟨hs,λx=>⟨.inl,λq=>q.elim id λ⟨j,z,_⟩=>absurd z (by simp)⟩,λj z=>absurd z (by simp)⟩
 | o :: q,i,L,M,hs,e=>by
  unfold Yh at e;split at e
  ·injection e with e _;cases e
  ·rename_i hf;have aa:Xp (pt (Rn name i o h r)) L=false:=(by simpa[Rn,pt] using hf);obtain⟨h1,h2,h3⟩:=Dc name h r q (i+1) _ M (Ux hs) e;refine⟨h1,λx=>?_,λj z=>?_⟩
   ·rw[h2 x,Nu aa];constructor
    ·rintro ((rfl|g)|⟨j,z,rfl⟩)
     ·exact .inr ⟨0,by simp,by simp⟩
     ·exact .inl g
     ·exact .inr ⟨j+1,by simpa using z,by simp[Nat.add_assoc,Nat.add_comm 1 j]⟩
    ·rintro (g|⟨j,z,rfl⟩)
     ·exact .inl (.inr g)
     ·cases j with
      | zero=>exact .inl (.inl (by simp))
      | succ j=>exact .inr ⟨j,by simpa using z,by simp[Nat.add_assoc,Nat.add_comm 1 j]⟩
   ·cases j with
    | zero=>simpa[Rn,pt] using aa
    | succ j=>
     have:=h3 j (by simpa using z);rw[show i+1+j=i+(j+1) by omega] at this;refine hasP_no.2 λc hc=>(hasP_no.1 this) c ((Nu aa).2 (.inr hc))
theorem Zcn(name h:Int)(r:Bool)(ai:List Ya)(L)(hL:Srt L)(ac:∀ j,j<ai.length->Xp (name,((j:Nat):Int)) L=false):∀ (m k:Nat) (N:List Zf),m+k=ai.length->Srt N->(∀ x,x∈N↔x∈L\/∃ j,∃ O:j<ai.length,k<=j/\x=Rn name j ai[j] h r)->Yq name k (ai.drop k) N=(0,L)
 | 0,k,N,hm,hN,hx=>by
  rw[cB (by omega),Yq]
  rw[Srt.ext hN hL λx=>by
   rw[hx x];exact⟨λq=>q.elim id λ⟨j,O,hk,_⟩=>absurd O (by omega),.inl⟩]
 | m+1,k,N,hm,hN,hx=>by
  have hk:k<ai.length:=by omega
  have ae:Rn name k ai[k] h r∈N:=(hx _).2 (.inr ⟨k,hk,aE _,rfl⟩);have ht:=Fz (p:=(name,(k:Int))) hN ae rfl;rw[aN hk,Yq,ht];simp only;rw[if_pos (by rfl)];refine Zcn name h r ai L hL ac m (k+1) _ (by omega) (hN.filter _) λx=>?_;rw[dO,hx x,decide_eq_true_eq];constructor
  ·rintro ⟨g|⟨j,O,ad,rfl⟩,af⟩
   ·exact .inl g
   ·refine .inr ⟨j,O,?_,rfl⟩
    rcases Nat.lt_or_ge k j with q|q
    ·exact q
    ·obtain rfl:j=k:=(by omega);exact absurd rfl af
  ·rintro (g|⟨j,O,ad,rfl⟩)
   ·exact⟨.inl g,(hasP_no.1 (ac k hk)) x g⟩
   ·refine⟨.inr ⟨j,O,by omega,rfl⟩,λq=>?_⟩;have q2:((j:Nat):Int)=((k:Nat):Int):=congrArg Prod.snd q;omega
theorem Er{p:PtD}{c:Zf}:∀ {L:List Zf},Srt L->c∈L->pt c=p->Yg L=cv c+Yg (L.filter λd=>decide (pt d≠p))
 | [],_,z,_=>by cases z
 | d :: r,hs,z,e=>by
  rw[Vb]
  rcases bU.1 z with rfl|z
  ·rw[List.filter_cons_of_neg (by simp[e])]
   have:r.filter (λd=>decide (pt d≠p))=r:=by
    rw[List.filter_eq_self];intro y hy;exact decide_eq_true (λq=>R7 (hs.head y hy) (by rw[e,q]))
   rw[this]
  ·have O:pt d≠p:=λq=>R7 (hs.head c z) (by rw[e,q]);rw[List.filter_cons_of_pos (by simp[O]),Vb,Er hs.tail z e];omega
theorem Td(h:Int):∀ (I:List InD) (S0 L S M:List Zf),Srt L->Zp h I S0 L=(0,S,M) ->
  Srt M/\∃ T,S=S0++T/\T.length=I.length/\(∀ j (h1:j<T.length) (h2:j<I.length),pt T[j]=(I[j].1,I[j].2.1))/\(∀ x,x∈L↔x∈M\/x∈T)/\(∀ x∈T,Xp (pt x) M=false)/\T.Pairwise (λa b=>pt a≠pt b)/\Yg L=Yg M+Yg T
 | [],S0,L,S,M,hs,e=>by
  unfold Zp at e;injection e with _ e;injection e with e1 e2;subst e1 e2;exact⟨hs,[],by simp,rfl,λj h1=>absurd h1 (by simp),λx=>by simp,λx hx=>(by cases hx),List.Pairwise.nil,by simp[Yg]⟩
 | x :: r,S0,L,S,M,hs,e=>by
  unfold Zp at e;split at e
  ·injection e with e _;cases e
  ·rename_i c L' ht;split at e
   ·injection e with e _;cases e
   ·split at e
    ·injection e with e _;cases e
    ·obtain⟨t1,t2,t3⟩:=Pb ht;obtain⟨h1,T,h2,h3,h4,h5,h6,h7,h8⟩:=Td h r _ L' S M (by rw[t3];exact hs.filter _) e;have O:∀ y,y∈L'↔y∈L/\pt y≠(x.1,x.2.1):=λy=>by rw[t3,dO,decide_eq_true_eq]
     refine⟨h1,c :: T,by rw[h2,List.append_assoc];rfl,by simp[h3],λj h1 h2=>?_,λy=>?_,λy z=>?_,?_,?_⟩
     ·cases j with
      | zero=>exact t2
      | succ j=>exact h4 j (by simpa using h1) (by simpa using h2)
     ·constructor
      ·intro z;by_cases q:pt y=(x.1,x.2.1)
       ·exact .inr (by rw[hs.inj z t1 (by rw[q,t2])];exact List.mem_cons_self ..)
       ·rcases (h5 y).1 ((O y).2 ⟨z,q⟩) with g|g
        ·exact .inl g
        ·exact .inr (List.mem_cons_of_mem _ g)
      ·rintro (g|g)
       ·exact ((O y).1 ((h5 y).2 (.inl g))).1
       ·rcases bU.1 g with rfl|g
        ·exact t1
        ·exact ((O y).1 ((h5 y).2 (.inr g))).1
     ·rcases bU.1 z with rfl|z
      ·refine hasP_no.2 λd hd e=>?_;exact ((O d).1 ((h5 d).2 (.inl hd))).2 (by rw[e,t2])
      ·exact h6 y z
     ·refine List.pairwise_cons.2 ⟨λy z e=>?_,h7⟩;exact ((O y).1 ((h5 y).2 (.inr z))).2 (by rw[<-e,t2])
     ·have h9:=Er hs t1 t2;rw[<-t3] at h9;rw[h9,h8,Vb];omega
theorem Zar(I:List InD)(S O L:List Zf)(aj:S.length=I.length)(hL:Srt L)(af:∀ j (h1:j<S.length) (h2:j<I.length),pt S[j]=(I[j].1,I[j].2.1))(ad:∀ x,x∈L↔x∈O\/x∈S)(ab:∀ x∈S,Xp (pt x) O=false)(ag:S.Pairwise (λa b=>pt a≠pt b)) :
  ∀ (m k:Nat) (N:List Zf),m+k=S.length->Srt N->(∀ x,x∈N↔x∈O\/x∈S.take k)->Yy (I.drop k) (S.drop k) N=(0,L)
 | 0,k,N,hm,hN,hx=>by
  rw[cB (by omega),cB (by omega),Yy]
  ·rw[Srt.ext hN hL λx=>by rw[hx x,ad x,aY (by omega)]]
  ·intro _ _ _ _ h;cases h
 | m+1,k,N,hm,hN,hx=>by
  have z:k<S.length:=by omega
  have ac:k<I.length:=by omega
  have ae:Xp (pt S[k]) N=false:=hasP_no.2 λc hc e=>by
   rcases (hx c).1 hc with g|g
   ·exact (hasP_no.1 (ab _ (bK z))) c g e
   ·obtain⟨j,hj,rfl⟩:=List.mem_take_iff_getElem.1 g;have ai:j<k:=(by omega);exact (List.pairwise_iff_getElem.1 ag j k (by omega) z ai) e
  rw[aN z,aN ac,Yy,if_neg (by
   rintro (q|q)
   ·exact q (af k z ac)
   ·rw[ae] at q;cases q)]
  refine Zar I S O L aj hL af ad ab ag m (k+1) _ (by omega) (Ux hN) λx=>?_;rw[Nu ae,hx x,aM z,cI,dN];constructor
  ·rintro (rfl|g|g)
   ·exact .inr (.inr rfl)
   ·exact .inl g
   ·exact .inr (.inl g)
  ·rintro (g|g|rfl)
   ·exact .inr (.inl g)
   ·exact .inr (.inr g)
   ·exact .inl rfl
theorem Zpn{L M S t}{name h:Int}(e:apD L t name h=(0,M,S)):rvD M t name S=(0,L):=by
 obtain⟨h1,z,h2,h3,h4,h5⟩:=Fa e;obtain⟨hR,hT,_,_,_⟩:=Uf h1;obtain⟨s1,T,s2,s3,s4,s5,s6,s7,s8⟩:=Td h _ _ _ _ _ hR.srt h2;rw[dL] at s2;subst s2;obtain⟨g1,g2,g3⟩:=Dc name h _ _ _ _ _ s1 h4
 have hb:Yq name 0 t.2.2 M=(0,z):=by
  have:=Zcn name h (isR t) t.2.2 z s1 (λj O=>by have:=g3 j O;rwa [Nat.zero_add] at this) t.2.2.length 0 M (by omega) g1 (λx=>by
   rw[g2 x];constructor
   ·rintro (q|⟨j,O,rfl⟩)
    ·exact .inl q
    ·exact .inr ⟨j,O,aP _,by rw[Nat.zero_add]⟩
   ·rintro (q|⟨j,O,_,rfl⟩)
    ·exact .inl q
    ·exact .inr ⟨j,O,by rw[Nat.zero_add]⟩)
  simpa using this
 have hp:Yy t.2.1 S z=(0,L):=by
  have:=Zar t.2.1 S z L s3 hR.srt s4 s5 s6 s7 S.length 0 z (by omega) s1 (λx=>by simp);simpa using this
 have hc:Zo L=0:=(Z6 L).2 hR;have ah:Wm M t=0:=by unfold Wm;rw[if_neg (by rw[h5];decide)];exact hT
 rw[Zdb ah hb hp hc,if_neg (by decide),if_neg (by rw[s3];simp),if_neg (by decide),if_neg (by decide),if_neg (by decide)]
theorem Znt{c:Zf}{L}(O:Srt L)(z:Xp (pt c) L=false):Yg (Uj c L)=cv c+Yg L:=by
 rw[Zfl O z,Vq,Vb];have:Yg L=Yg (L.take (pos (pt c) L))+Yg (L.drop (pos (pt c) L)):=by rw[<-Vq,List.take_append_drop]
 omega
theorem Db(name h:Int)(r:Bool):∀ (ab:List Ya) (i:Nat) (L M:List Zf),Srt L->Yh name h r i ab L=(0,M)->Yg M=Yg L+Ys ab
 | [],i,L,M,hs,e=>by
  unfold Yh at e;injection e with _ e;subst e;simp[Ys]
 | o :: q,i,L,M,hs,e=>by
  unfold Yh at e;split at e
  ·injection e with e _;cases e
  ·rename_i O;have aa:Xp (pt (Rn name i o h r)) L=false:=(by simpa[Rn,pt] using O);have h1:=Db name h r q (i+1) _ M (Ux hs) e;rw[Znt hs aa] at h1;have h2:cv (Rn name i o h r)=o.1:=rfl;have h3:Ys (o :: q)=o.1+Ys q:=(by simp[Ys]);rw[h1,h2,h3];omega
theorem Jq{L M S}{t:TxD}{name h:Int}(e:apD L t name h=(0,M,S)):Yg M=Yg L - Yg S+Ys t.2.2/\0<=Yg S:=by
 obtain⟨h1,M2,h2,h3,h4,h5⟩:=Fa e;obtain⟨z,hT,_,_,_⟩:=Uf h1;obtain⟨s1,T,O,s3,s4,s5,s6,s7,s8⟩:=Td h _ _ _ _ _ z.srt h2;rw[dL] at O;subst O;have hg:=Db name h _ _ _ _ _ s1 h4;refine⟨by omega,Tb S λc hc=>?_⟩;have:=Wp (z.one c ((s5 c).2 (.inr hc)));omega
theorem D9{L M S t}{name h:Int}(e:apD L t name h=(0,M,S)):Zy L/\Zy M/\Zr t=0:=by
 obtain⟨h1,M2,h2,h3,h4,h5⟩:=Fa e;obtain⟨z,O,_,_,_⟩:=Uf h1;exact⟨z,(Z6 M).1 h5,O⟩
def Jh(T:List TxD)(N:List Int)(S:List (List Zf)):Nat->List Zf->Int×List Zf
 | 0,C=>(0,C)
 | q+1,C=>
  if (rvD C (T.getD ((q+1) % T.length) Ut) (N.getD ((q+1) % T.length) 0) (S.getD ((q+1) % T.length) [])).1≠0 then ((rvD C (T.getD ((q+1) % T.length) Ut) (N.getD ((q+1) % T.length) 0) (S.getD ((q+1) % T.length) [])).1,[])
  else Jh T N S q (rvD C (T.getD ((q+1) % T.length) Ut) (N.getD ((q+1) % T.length) 0) (S.getD ((q+1) % T.length) [])).2
theorem Zbx{T:List TxD}{N:List Int}{S:List (List Zf)}{q i:Nat}{C}(hi:(q+1) % T.length=i){t}(ht:T.getD i Ut=t){nm:Int}(O:N.getD i 0=nm){s}(hs:S.getD i []=s){y:Int}{M}(z:rvD C t nm s=(y,M)) :
  Jh T N S (q+1) C=if y≠0 then (y,[]) else Jh T N S q M:=by
 rw[Jh,hi,ht,O,hs,z]
theorem Znr{m j k:Nat}(z:j<k)(O:k<m):(j+1) % m≠(k+1) % m:=by
 rw[Nat.mod_eq_of_lt (show j+1<m by omega)];by_cases e:k+1=m
 ·rw[e,Nat.mod_self];omega
 ·rw[Nat.mod_eq_of_lt (show k+1<m by omega)];omega
theorem Fh{α : Type}(l:List α)(i:Nat)(x d : α)(h:i<l.length):(l.set i x).getD i d=x:=by simp[List.getD,h]
theorem Zbq{α : Type}(l:List α){i j:Nat}(x d : α)(h:i≠j):(l.set i x).getD j d=l.getD j d:=by simp[List.getD,List.getElem?_set_ne h]
theorem Xg{h r:Int}{T:List TxD}{N:List Int}{q k:Nat}{C M}{S S':List (List Zf)}(e:W6 h r T N (q+1) k C S=(0,M,S')) :
  ¬((k+1) % T.length=0/\Xk r T S T.length<0)/\∃ O s,apD C (T.getD ((k+1) % T.length) Ut) (N.getD ((k+1) % T.length) 0) h=(0,O,s)/\W6 h r T N q (k+1) O (S.set ((k+1) % T.length) s)=(0,M,S'):=by
 obtain⟨⟨y,O,s⟩,ha⟩:=ZF (apD C (T.getD ((k+1) % T.length) Ut) (N.getD ((k+1) % T.length) 0) h);rw[Dj rfl rfl rfl ha] at e;split at e
 ·injection e with e1 _;exact absurd e1 (by decide)
 ·rename_i hc;split at e
  ·rename_i z;injection e with e1 _;exact absurd e1 z
  ·rename_i z;have z:y=0:=cC.1 z;subst z;exact⟨hc,O,s,ha,e⟩
theorem Zca{h r:Int}{T:List TxD}{N}:∀ (q k:Nat) (C M:List Zf) (S z:List (List Zf)),W6 h r T N q k C S=(0,M,z)->q+k=T.length->S.length=T.length ->
  z.length=T.length/\(∀ j,j<k->z.getD ((j+1) % T.length) []=S.getD ((j+1) % T.length) [])/\Jh T N z T.length M=Jh T N z k C
 | 0,k,C,M,S,z,e,hk,hS=>by
  rw[W6] at e;injection e with _ e;injection e with e1 e2;subst e1 e2;have:k=T.length:=by omega
  subst this;exact⟨hS,λ_ _=>rfl,rfl⟩
 | q+1,k,C,M,S,z,e,hk,hS=>by
  obtain⟨_,C1,s,ha,e⟩:=Xg e;obtain⟨i1,O,i3⟩:=Zca q (k+1) C1 M _ z e (by omega) (by simpa using hS);have hm:(k+1) % T.length<S.length:=by rw[hS];exact Nat.mod_lt _ (by omega)
  refine⟨i1,λj hj=>?_,?_⟩
  ·rw[O j (by omega)];exact Zbq S s [] (λe=>Znr hj (show k<T.length by omega) e.symm)
  ·rw[i3]
   have hs:z.getD ((k+1) % T.length) []=s:=by
    rw[O k (Nat.lt_succ_self k)];exact Fh S _ s [] hm
   rw[Zbx rfl rfl rfl hs (Zpn ha),if_neg (by decide)]
theorem Hy{h r:Int}{T}{N}:∀ (q k:Nat) (C M:List Zf) (S z:List (List Zf)),W6 h r T N q k C S=(0,M,z)->Zy C->Zy M
 | 0,k,C,M,S,z,e,hC=>by
  rw[W6] at e;injection e with _ e;injection e with e1 e2;subst e1;exact hC
 | q+1,k,C,M,S,z,e,hC=>by
  obtain⟨_,O,s,ha,e⟩:=Xg e;exact Hy q (k+1) O M _ z e (D9 ha).2.1
theorem Zpf{h r:Int}{T:List TxD}{N C M S'}(h0:0<T.length)(h4:T.length<=4)(e:W6 h r T N T.length 0 C (aF T.length [])=(0,M,S')):Yg M<=Yg C+r:=by
 match T,h0,h4,e with
 | [t0],_,_,e=>
  obtain⟨c0,C1,s0,z,e⟩:=Xg (q:=0) e;rw[W6] at e;injection e with _ e;injection e with e _;subst e;have i0:(0+1) % [t0].length=0:=by simp
  rw[i0] at z;have z:apD C t0 (N.getD 0 0) h=(0,C1,s0):=z;obtain⟨b0,d0⟩:=Jq z;have c0:¬(Xk r [t0] [[]] 1<0):=λq=>c0 ⟨i0,q⟩;simp only[Xk,dK,List.take_zero,List.map_cons,List.map_nil,List.flatten_cons,List.flatten_nil,List.append_nil,Et] at c0;omega
 | [t0,t1],_,_,e=>
  obtain⟨_,C1,s1,O,e⟩:=Xg (q:=1) e;obtain⟨c0,C2,s0,z,e⟩:=Xg (q:=0) e;rw[W6] at e;injection e with _ e;injection e with e _;subst e;have O:apD C t1 (N.getD 1 0) h=(0,C1,s1):=O;have i0:(0+1+1) % [t0,t1].length=0:=by simp
  rw[i0] at z;have z:apD C1 t0 (N.getD 0 0) h=(0,C2,s0):=z;obtain⟨b1,d1⟩:=Jq O;obtain⟨b0,d0⟩:=Jq z;have c0:¬(Xk r [t0,t1] [[],s1] 2<0):=λq=>c0 ⟨i0,q⟩;simp only[Xk,dK,List.take_zero,List.map_cons,List.map_nil,List.flatten_cons,List.flatten_nil,List.append_nil,dL,Jc] at c0;omega
 | [t0,t1,t2],_,_,e=>
  obtain⟨_,C1,s1,O,e⟩:=Xg (q:=2) e;obtain⟨_,C2,s2,a2,e⟩:=Xg (q:=1) e;obtain⟨c0,C3,s0,z,e⟩:=Xg (q:=0) e;rw[W6] at e;injection e with _ e;injection e with e _;subst e;have O:apD C t1 (N.getD 1 0) h=(0,C1,s1):=O;have a2:apD C1 t2 (N.getD 2 0) h=(0,C2,s2):=a2;have i0:(0+1+1+1) % [t0,t1,t2].length=0:=by simp
  rw[i0] at z;have z:apD C2 t0 (N.getD 0 0) h=(0,C3,s0):=z;obtain⟨b1,d1⟩:=Jq O;obtain⟨b2,d2⟩:=Jq a2;obtain⟨b0,d0⟩:=Jq z;have c0:¬(Xk r [t0,t1,t2] [[],s1,s2] 3<0):=λq=>c0 ⟨i0,q⟩;simp only[Xk,dK,List.take_zero,List.map_cons,List.map_nil,List.flatten_cons,List.flatten_nil,List.append_nil,dL,Jc,Vq] at c0;omega
 | [t0,t1,t2,t3],_,_,e=>
  obtain⟨_,C1,s1,O,e⟩:=Xg (q:=3) e;obtain⟨_,C2,s2,a2,e⟩:=Xg (q:=2) e;obtain⟨_,C3,s3,a3,e⟩:=Xg (q:=1) e;obtain⟨c0,C4,s0,z,e⟩:=Xg (q:=0) e;rw[W6] at e;injection e with _ e;injection e with e _;subst e;have O:apD C t1 (N.getD 1 0) h=(0,C1,s1):=O;have a2:apD C1 t2 (N.getD 2 0) h=(0,C2,s2):=a2;have a3:apD C2 t3 (N.getD 3 0) h=(0,C3,s3):=a3;have i0:(0+1+1+1+1) % [t0,t1,t2,t3].length=0:=by simp
  rw[i0] at z;have z:apD C3 t0 (N.getD 0 0) h=(0,C4,s0):=z;obtain⟨b1,d1⟩:=Jq O;obtain⟨b2,d2⟩:=Jq a2;obtain⟨b3,d3⟩:=Jq a3;obtain⟨b0,d0⟩:=Jq z;have c0:¬(Xk r [t0,t1,t2,t3] [[],s1,s2,s3] 4<0):=λq=>c0 ⟨i0,q⟩;simp only[Xk,dK,List.take_zero,List.map_cons,List.map_nil,List.flatten_cons,List.flatten_nil,List.append_nil,dL,Jc,Vq] at c0;omega
def Q0(K:List ByteArray)(C:List Zf)(b:Zj)(S:List (List Zf)):Int×List Zf:=
 if (nfD K C b).2≠0 then ((nfD K C b).2,[]) else if S.length≠b.2.2.2.2.length then (4,[]) else Jh b.2.2.2.2 (nfD K C b).1 S b.2.2.2.2.length C
theorem Ra{b:Zj}(h:Xo b=0):0<b.2.2.2.2.length/\b.2.2.2.2.length<=4/\1<=b.2.1/\b.2.1<=1000:=by
 unfold Xo at h;split at h
 ·cases h
 rename_i h1;split at h
 ·cases h
 split at h
 ·cases h
 unfold Wj at h1;simp only[Bool.not_eq_false,Bool.and_eq_true,decide_eq_true_eq] at h1;omega
theorem Nq{K C}{b:Zj}(h:(nfD K C b).2=0):Zy C/\Xo b=0/\∃ X n N,Q7 K b=(X,n,N,0)/\(nfD K C b).1=N:=by
 unfold nfD at h ⊢;split at h
 ·rename_i q;exact absurd h q
 rename_i q;obtain⟨⟨X,n,N,x⟩,z⟩:=ZF (Q7 K b);rw[z] at h;have h:x=0:=h;subst h;rw[if_neg q,z];exact⟨(Z6 C).1 (cC.1 q),(Qt z).1,X,n,N,rfl,rfl⟩
theorem Zqp{K C}{b:Zj}{X}{n:Int}{N}(z:Zy C)(h:Q7 K b=(X,n,N,0)):nfD K C b=(N,0):=by
 unfold nfD;rw[(Z6 C).2 z,if_neg (by decide),h]
theorem Zpg{K C M}{b:Zj}{S:List (List Zf)}(e:Ym K C b=(0,M,S)) :
  Zy C/\Zy M/\Xo b=0/\S.length=b.2.2.2.2.length/\Q0 K M b S=(0,C)/\Yg M<=Yg C+(rwD b.2.1).1/\(rwD b.2.1).2=0:=by
 unfold Ym at e;split at e
 ·rename_i q;injection e with e _;exact absurd e q
 rename_i q;obtain⟨O,hb,X,n,N,hN,ae⟩:=Nq (cC.1 q);rw[ae] at e;obtain⟨h0,h4,h1,h2⟩:=Ra hb;have hM:=Hy _ _ _ _ _ _ e O;obtain⟨z,b2,b3⟩:=Zca _ _ _ _ _ _ e (by omega) (by simp);refine⟨O,hM,hb,z,?_,Zpf h0 h4 e,?_⟩
 ·unfold Q0;rw[Zqp hM hN,if_neg (λq=>q rfl),if_neg (λq=>q z)];exact b3
 ·unfold rwD;rw[if_pos (by simp only[Bool.and_eq_true,decide_eq_true_eq];omega)]
def RnR(w w':World)(M:List ByteArray)(nm:Int)(N:List Int)(x:Int)(e:Ending):Prop:=
 ∃ a' z c' O n2 c2,e = dX (dY #[F a' z c',E J nm,F O n2 c2,E J x])/\Bk.TextsAt w' a' z M/\Bk.SlOk a' z c'/\Bk.IntsAt w' O n2 N/\ZD w w'
theorem Zks{w w':World}{x:Int}(z:ZD w w'):RnR w w' [] 0 [] x (dX (dY #[F none 0 0,E J 0,F none 0 0,E J x])):=
 ⟨none,0,0,none,0,0,rfl,Bk.TextsAt.nil _ _,Bk.SlOk.nil,Bk.IntsAt.nil _ _,z⟩
theorem Zif{K}{b:Zj}(z:Bk.Right K):Bk.allR K (Xz b)=Bk.nmGo K [] (Xz b):=by
 unfold Bk.allR;rw[if_pos ((Bk.right_iff K).2 z)]
theorem Zgp(T:List TxD)(k:Nat)(h:k<T.length):(T.take (k+1)).map Ye=(T.take k).map Ye++[Ye T[k]]:=by
 rw[aM h,bW];rfl
theorem Jz(ka kn kc K)(p h k n:Int)(a m c T M)(nm:Int)(N)(x:Int)(w)(hE:EnvF w)(hK:Bk.TextsAt w ka kn K)(sK:Bk.SlOk ka kn kc)(hR:Bk.Right K)(hT:TxsAt w a m T)(hx:Q7 K (p,h,k,n,T)=(M,nm,N,x)) :
  Calls Tryz.prog 85 #[F ka kn kc,.agg #[E J p,E J h,E J k,E J n,F a m c]] w λe w'=>RnR w w' M nm N x e:=by
 obtain⟨X,hX⟩:=ZG (w.alloc (dW #[E J p,E J h,E J k,E J n,F a m c] 68));have ai:ZD w X:=by rw[hX];exact Zg _ _
 have aa:X.heap[w.heap.size]? = some (dW [E J p,E J h,E J k,E J n,F a m c].toArray 68 (0,0)):=by rw[hX];exact Z8 _ _ _ _ _ _ _
 obtain⟨gu,hz⟩:=ZF (Xo (p,h,k,n,T));have CK:=Zb (Sm p h k n a m c T gu X (hT.later ai) hz);have x0:=Zd aa 0 _ rfl;have x1:=Zd aa 1 _ rfl;have x2:=Zd aa 2 _ rfl;have x3:=Zd aa 3 _ rfl;have x4:=Zd aa 4 _ rfl;have xl:=aA aa;have dm:=Zb ai;have fd:=Zb aa;by_cases cy:gu=0
 ·subst cy;obtain⟨i0,hi,ei,ej,ek⟩:=info_parts Tryz.info9;have h4:=(Ra hz).2.1;have zT:T.length=m:=hT.1;have gi:m<=4:=by rw[<-zT];exact h4
  have dy:=hE.later ai;have dn:=Zb dy;have dq:=Zb (hT.later ai);have fa:=Zb (hK.later ai);have ew:Hid (∀ t∈T,Zr t=0):=(Uo hz).2.2.2.2;have HZ:=Zb hz;have bd:=Zb zT;have HX:=Zb hx;have OW:Hid (∀ W:World,W.ownsRow X.heap.size 9 1 (F none 0 0) ([]:List ByteArray).length (([]:List ByteArray).map Value.string)):=λ_=>⟨rfl,.inl ⟨rfl,rfl⟩⟩;clear hE dy hK hT ai aa hz zT hx h4;go_enter func85,ntmps85;go_wp2_with fail;rw[<-hX];clear hX;(try go_wp2_with fail);refine CK.mono ?_;rintro e w1 ⟨rfl,an⟩;have bs:=Zb an;have y4:=Zc an x4;have yl:=aC _ _ y4;clear an x0 x1 x2 x3 x4 xl;go_wp2
  go_loopw [9,21] (λlv i wr=>∃ (j:Nat) (L:List ByteArray),j<=m/\i = E J j/\Hid (L=(T.take j).map Ye)/\Hid (wr.ownsRow X.heap.size 9 1 lv L.length (L.map Value.string))/\Hid (ZD X wr)) (λ_ i _=>m - (intOf i).toNat)
  case atStart=>exact⟨0,[],aP _,rfl,rfl,OW _,bs⟩
  case round=>
   clear y4 yl;obtain⟨j,L,hj,rfl,HL,HO,HB⟩:=hrel
   have ea:L.length=j:=by
    rw[Za HL,List.length_map,bG,Za bd];omega
   have al:=Zb ea;clear ea;obtain⟨av,cw,rfl,sv,-⟩:=Nf HO;by_cases ef:j<m
   ·have cq:j<T.length:=(by rw[Za bd];exact ef);obtain⟨tb,gs,rfl,_,eh⟩:=dq.2 (by omega);have ep:=eh j cq;have L2:Hid (L++[Ye T[j]]=(T.take (j+1)).map Ye):=(by show _=_;rw[Zgp T j cq,Za HL]);have co:=ew T[j] (bK cq);obtain⟨t,ht⟩:=ZF (T[j]);rw[ht] at ep L2 co;obtain⟨t1,⟨gv,ni,gw,t2,cd,gn⟩,ao,eo,gx,t3,cg,gp⟩:=ep;obtain⟨th,ti,er⟩:=t;simp only at t1 t2 t3 cd cg;have u1:=Zc HB t1;have u2:=Zc HB t2;have u3:=Zc HB t3;have ul:=aC _ _ u1;obtain⟨W1,cj⟩:=ZG (wr.alloc (dW #[E J th,F gv ni gw,F ao eo gx] 52));have cn:ZD wr W1:=(by rw[cj];exact Zg _ _);have ax:=Ze HB cn;have TX:=Zb (Fv th gv ao ni gw eo gx ti er W1 (dn.later ax) (cd.later ax) (cg.later ax) co);have ev:=Zb ax;have fb:=Zb ((Gr.of (S:=λ_=>False) cn).own HO (λ_ _ q=>q));obtain⟨s,hs⟩:=ZF (Ye (th,ti,er));rw[hs] at TX L2;clear eh t1 t2 t3 cd cg cn ax co ht hs;go_wp2_with fail;rw[<-cj];clear cj;(try go_wp2_with fail);refine TX.mono ?_;rintro e W2 ⟨rfl,ah⟩;have bt:=Zb (Ze ev ah);have aq:=(Gr.of (S:=λ_=>False) ah).own fb (λ_ _ q=>q);have aj:=Zg W2 (dW #[.string s] 9);have ar:=Zb ((Gr.of (S:=λ_=>False) aj).own aq (λ_ _ q=>q));have ca:=Zb (World.news_of_block (aK W2 (dW #[.string s] 9)));have ae:=Zb (Ze bt aj);clear aj ah aq u1 u2 u3 ul
    go_wp2_with (at_builtin;refine wpList_append_lies _ rfl _ _ 22 rfl X.heap.size 9 i0 (.string ⟨#[]⟩) 1 16 underlying22 hi ei ej ek rfl (by decide) _ _ _ rfl ar ⟨W2.heap.size,0,none⟩ 1 1 [.string s] rfl rfl ca (λu hu=>by simp at hu;subst hu;rfl) (by decide) (by have:=Za al;unfold maxLen;omega) (by have:=Za al;omega) ae.size _ rfl ?_;intro g7 bf w7 az ay cu _)
    have fg:Hid (w7.ownsRow X.heap.size 9 1 (F (some ⟨g7,0,none⟩) (L.length+1) bf) (L++[s]).length ((L++[s]).map Value.string)):=by
     show World.ownsRow _ _ _ _ _ _ _;rw[bB,bW];exact az
    have bc:=Zb (ae.grown ay ae.size (λk hk=>(ar.lt k hk).1));clear az ay cu;go_wp2;go_roundw
    case rel=>exact⟨j+1,L++[s],by omega,by go_num,L2,fg,bc⟩
    case measure=>simp[intOf];omega
   ·obtain rfl:j=m:=(by omega);have dz:L=T.map Ye:=(by rw[Za HL,aY (by rw[Za bd];exact aE _)]);obtain⟨⟨M',N',x'⟩,ed⟩:=ZF (Bk.nmGo K [] (Xz (p,h,k,n,T)));have b5:=ZE HB fd;have y0:=Zd b5 0 _ rfl;have y1:=Zd b5 1 _ rfl;have y2:=Zd b5 2 _ rfl;have y3:=Zd b5 3 _ rfl;have y4:=Zd b5 4 _ rfl;have yl:=aA b5;have BT:=Zb (Zam p h k n a j c T wr (dn.later HB) (dq.later HB) HZ);obtain⟨s,hs⟩:=ZF (Qe (p,h,k,n,T));rw[hs] at BT;have bv:=Zb ed;have dp:Hid (L++[s]=Xz (p,h,k,n,T)):=(by show _=_;rw[dz,<-hs];rfl);have fh:Hid ((L++[s]).length=j+1):=(by show _=_;rw[bB,Za al];rfl);clear ed hs b5 dz ef;go_wp2_with fail;refine BT.mono ?_;rintro e W2 ⟨rfl,ah⟩;have bt:=Zb (Ze HB ah);have aq:=(Gr.of (S:=λ_=>False) ah).own HO (λ_ _ q=>q);have aj:=Zg W2 (dW #[.string s] 9);have ar:=Zb ((Gr.of (S:=λ_=>False) aj).own aq (λ_ _ q=>q));have ca:=Zb (World.news_of_block (aK W2 (dW #[.string s] 9)));have ae:=Zb (Ze bt aj);clear aj ah aq y0 y1 y2 y3 y4 yl
    go_wp2_with (at_builtin;refine wpList_append_lies _ rfl _ _ 22 rfl X.heap.size 9 i0 (.string ⟨#[]⟩) 1 16 underlying22 hi ei ej ek rfl (by decide) _ _ _ rfl ar ⟨W2.heap.size,0,none⟩ 1 1 [.string s] rfl rfl ca (λu hu=>by simp at hu;subst hu;rfl) (by decide) (by have:=Za al;unfold maxLen;omega) (by have:=Za al;omega) ae.size _ rfl ?_;intro g7 bf w7 az ay cu _)
    have ec:Bk.TextsAt w7 (some ⟨g7,0,none⟩) (L.length+1) (Xz (p,h,k,n,T)):=by
     rw[<-Za dp];refine Bk.texts_own (base:=X.heap.size) (c:=bf) ?_;rw[bW];exact az
    have bc:=Zb (ae.grown ay ae.size (λk hk=>(ar.lt k hk).1));have NA:=Zb (Bk.namedAll_is ka (some ⟨g7,0,none⟩) kn kc (L.length+1) bf K (Xz (p,h,k,n,T)) M' N' x' w7 hR (fa.later bc) sK ec (by have:=Za al;omega) bv);clear az ay cu ec;go_wp2_with fail;refine NA.mono ?_;rintro e w8 ⟨⟨a',n',c',a2,n2,c2,rfl,ci,s8,bh,gj,gc⟩,cl⟩;have dl:=Zb (Ze dm (Ze bc cl));have ad:=Za HX;unfold Q7 at ad;rw[Za HZ,if_neg (by decide),Zif hR,Za bv] at ad;by_cases cx:x'=0
    ·subst cx;rw[if_neg (λq=>q rfl)] at ad
     have cf:N'.length=j+1:=by
      have e:=Np _ _ _ _ _ bv;rw[e];show 0+(Xz (p,h,k,n,T)).length=j+1;rw[<-Za dp,Za fh];omega
     have fi:n2=j+1:=(by rw[<-bh.1];exact cf);subst fi;obtain⟨ib,io,rfl,cp⟩:=bh.2 (by omega);have ee:=cp j (by omega);obtain⟨v,hv⟩:=ZF (N'[j]'(by omega));rw[hv] at ee;have gm:=aC _ _ ee
     have ey:Hid (∀ W,ZD w8 W->RnR w W M nm N x (dX (dY #[F a' n' c',E J v,F (some ⟨ib,io,none⟩) j c2,E J 0]))):=by
      intro W cm
      have fj:(M',N'.getD j 0,N'.take j,(0:Int))=(M,nm,N,x):=by
       rw[<-ad];show _=(M',N'.getD T.length 0,N'.take T.length,(0:Int));rw[Za bd]
      obtain⟨e1,z⟩:=aX fj;obtain⟨z,O⟩:=aX z;obtain⟨O,e4⟩:=aX O;rw[<-e1,<-z,<-O,<-e4];refine⟨a',n',c',some ⟨ib,io,none⟩,j,c2,?_,ci.later cm,s8,⟨by rw[bG];omega,λ_=>⟨ib,io,rfl,λi hi=>?_⟩⟩,Ze dl cm⟩
      ·have:N'.getD j 0=v:=(by rw[<-hv];simp[List.getD,cf]);rw[this]
      ·rw[List.getElem_take];exact Zc cm (cp i (by rw[bG] at hi;omega))
     have gh:j<=c2:=(by omega);have gl:IntKind.i64.wrap (((j+1:Nat):Int) - 1)=(j:Int):=(by rw[IntKind.wrap_i64];omega);have gg:((j+1:Nat):Int) - 1=(j:Int):=(by omega);clear ci s8 bh cp ad cl cf hv;go_wp2_with fail
     go_quiet (fail)
     go_wp2;(try simp only[Exit.inBlock,Exit.then]);refine aR (v:=dY #[F a' n' c',E J v,F (some ⟨ib,io,none⟩) j c2,E J 0]) ?_ rfl (ey _ ⟨rfl,rfl,rfl,aE _,λ_ _=>rfl⟩);simp[results,Tryz.f85,go_sem]
    ·rw[if_pos cx] at ad;have g:(x' != 0)=true:=by simp[cx]
     have bu:Hid (RnR w w8 M nm N x (dX (dY #[F none 0 0,E J 0,F none 0 0,E J x']))):=by
      obtain⟨e1,z⟩:=aX ad;obtain⟨z,O⟩:=aX z;obtain⟨O,e4⟩:=aX O;rw[<-e1,<-z,<-O,<-e4];exact Zks dl
     clear ci s8 bh ad cl;go_wp2;(try simp only[Exit.inBlock,Exit.then]);refine aR (v:=dY #[F none 0 0,E J 0,F none 0 0,E J x']) ?_ rfl bu;simp[results,Tryz.f85,go_sem]
 ·have HF:Hid ((M,nm,N,x)=(([]:List ByteArray),(0:Int),([]:List Int),gu)):=by
   show _=_;rw[<-hx];unfold Q7;rw[hz,if_pos cy]
  have g:(gu != 0)=true:=by simp[cy]
  clear hE hK hT ai aa hx hz;go_enter func85,ntmps85;go_wp2_with fail;rw[<-hX];clear hX;(try go_wp2_with fail);refine CK.mono ?_;rintro e w1 ⟨rfl,an⟩;have bs:=Zb (Ze dm an)
  have bu:Hid (RnR w w1 M nm N x (dX (dY #[F none 0 0,E J 0,F none 0 0,E J gu]))):=by
   obtain⟨e1,z⟩:=aX HF;obtain⟨z,O⟩:=aX z;obtain⟨O,e4⟩:=aX O;rw[e1,z,O,e4];exact Zks bs
  clear an;go_wp2;(try simp only[Exit.inBlock,Exit.then]);refine aR (v:=dY #[F none 0 0,E J 0,F none 0 0,E J gu]) ?_ rfl bu;simp[results,Tryz.f85,go_sem]
def plc(p:PtD):List Zf->Nat->Int
 | [],_=>-1
 | y :: r,k=>if pt y=p then k else plc p r (k+1)
theorem Zla(p:PtD)(l:List Zf)(k:Nat)(h:k<l.length):plc p (l.drop k) k=if pt l[k]=p then (k:Int) else plc p (l.drop (k+1)) (k+1):=by
 rw[aN h];rfl
theorem Zdd(x:Zf)(a)(n c:Nat)(q:PtD)(p:Nat)(o:Bool)(w:World)(h1:w.cell? ⟨p,0,none⟩=some (E J q.1))(h2:w.cell? ⟨p,1,none⟩=some (E J q.2))(ho:decide (pt x=q)=o) :
  ZH 150 #[cnV x a n c,dZ (some ⟨p,0,none⟩)] w (eA o):=by
 subst ho;obtain⟨x1,x2,v,lk,hh,rr⟩:=x;obtain⟨q1,q2⟩:=q;have hp:=aC _ _ h1;unfold cnV pt cv ch cr;simp only at h1 h2 ⊢;have z:=Zb (Zg w (dW #[E J x1,E J x2,E J v,F a n c,E J hh,eA rr] 103));by_cases O:x1=q1
 ·subst O;by_cases hy:x2=q2
  ·subst hy;rw[decide_eq_true rfl];go_enter func150,ntmps150;go_wp2;go_ret;exact⟨rfl,Za z⟩
  ·rw[decide_eq_false (λe=>hy (aX e).2)];go_enter func150,ntmps150;go_wp2;go_ret;exact⟨rfl,Za z⟩
 ·rw[decide_eq_false (λe=>O (aX e).1)];go_enter func150,ntmps150;go_wp2;go_ret;exact⟨rfl,Za z⟩
theorem N6(b off n c:Nat)(l:List Zf)(q:PtD)(p:Nat)(w:World)(hz:l.length=n)(hn:n<=4096)(hc:∀ i (h:i<l.length),CoinAt w b (off+i*6) l[i])
  (h1:w.cell? ⟨p,0,none⟩=some (E J q.1)) (h2:w.cell? ⟨p,1,none⟩=some (E J q.2)) :
  ZH 149 #[F (some ⟨b,off,none⟩) n c,.func (.func 150) #[] #[dZ (some ⟨p,0,none⟩)]] w (E J (plc q l 0)):=by
 have HC:=Zb hc;have HZ:=Zb hz;have H1:=Zb h1;have H2:=Zb h2;clear hc hz h1 h2;go_enter func149,ntmps149;go_wp2
 go_loopw [5,8] (λ_ i wr=>∃ k:Nat,k<=n/\i = E J k/\Hid (plc q l 0=plc q (l.drop k) k)/\ZD w wr) (λ_ i _=>n - (intOf i).toNat)
 case atStart=>exact⟨0,aP _,rfl,rfl,Below.refl _ _⟩
 case round=>
  obtain⟨k,hk,rfl,A,z⟩:=hrel;have HB:=Zb z;by_cases au:k<n
  ·have ak:k<l.length:=(by rw[Za HZ];exact au);have aj:=CoinAt.kept _ _ _ _ _ z (HC k ak);have S:=Zb (Zla q l k ak);obtain⟨y,hy⟩:=ZF (l[k]);rw[hy] at aj S;obtain⟨ka,kn,kc,g1,g2,g3,g4,g5,g6,_,_⟩:=aj.val
   have C1:Hid (∀ o,decide (pt y=q)=o->Calls Tryz.prog 150 #[cnV y ka kn kc,dZ (some ⟨p,0,none⟩)] wr λe w'=>e = dX (eA o)/\ZD wr w'):=
    λo ho=>Zdd y ka kn kc q p o wr (Zc z H1) (Zc z H2) ho
   unfold cnV at C1;by_cases O:pt y=q
   ·have S2:Hid (plc q l 0=k):=(by show _=_;rw[Za A,Za S,if_pos O]);have C2:=Zb (C1 true (decide_eq_true O));clear A O z hy;go_wp2_with fail;refine C2.mono ?_;rintro e w' ⟨rfl,ab⟩;have af:=Zb (Ze HB ab);clear ab;go_wp2;go_ret;exact⟨by rw[Za S2];rfl,Za af⟩
   ·have S2:Hid (plc q l 0=plc q (l.drop (k+1)) (k+1)):=(by show _=_;rw[Za A,Za S,if_neg O]);have C2:=Zb (C1 false (decide_eq_false O));clear A O z hy;go_wp2_with fail;refine C2.mono ?_;rintro e w' ⟨rfl,ab⟩;have af:=Zb (Ze HB ab);clear ab;go_wp2;go_roundw
    case rel=>exact⟨k+1,by omega,by go_num,S2,Za af⟩
    case measure=>simp[intOf];omega
  ·have S2:Hid (plc q l 0 = -1):=by
    show _=_;rw[Za A,cB (by rw[Za HZ];omega)];rfl
   clear A z;go_wp2;go_ret;exact⟨by rw[Za S2];rfl,Za HB⟩
theorem N7(a c v)(w) :
  Calls Tryz.prog 149 #[F a 0 c,v] w λe w'=>e = dX (E J (-1))/\w=w':=by
 go_enter func149,ntmps149;go_wp2;refine wp_loop_rounds 1 ?_;rw[rounds_succ];go_wp2;go_ret;exact⟨rfl,rfl⟩
theorem Fg(a)(n c:Nat)(l)(q:PtD)(p:Nat)(w:World)(hn:n<=4096)(h:CoinsAt w a n l)
  (h1:w.cell? ⟨p,0,none⟩=some (E J q.1)) (h2:w.cell? ⟨p,1,none⟩=some (E J q.2)) :
  ZH 149 #[F a n c,.func (.func 150) #[] #[dZ (some ⟨p,0,none⟩)]] w (E J (plc q l 0)):=by
 obtain⟨z,O⟩:=h;by_cases h0:n=0
 ·subst h0;have e:l=[]:=List.length_eq_zero_iff.1 z;subst e;exact (N7 a c _ w).mono λe w' ⟨q1,q2⟩=>⟨q1,q2 ▸ Below.refl _ _⟩
 ·obtain⟨b,off,rfl,_,aa⟩:=O (by omega);exact N6 b off n c l q p w z hn aa h1 h2
theorem Qo(a)(n c:Nat)(l)(q:PtD)(af:Int)(w:World)(hn:n<=4096)(h:CoinsAt w a n l)(hz:plc q l 0=af) :
  ZH 110 #[F a n c,.agg #[E J q.1,E J q.2]] w (E J af):=by
 subst hz;have z:=Zg w (dW #[E J q.1,E J q.2] 99);obtain⟨n0,n1⟩:=Yo w (E J q.1) (E J q.2) 99;have C:=Zb (Fg a n c l q w.heap.size _ hn (h.later z) n0 n1);have HB:=Zb z;clear h z n0 n1;go_enter func110,ntmps110;go_wp2_with fail;refine C.mono ?_;rintro e w2 ⟨rfl,O⟩;have ac:=Zb (Ze HB O);clear O;go_wp2;go_ret;exact⟨rfl,Za ac⟩
structure Kp(B:Nat)(w w':World):Prop where
 size:w.heap.size<=w'.heap.size
 same:∀ b,B<=b->b<w.heap.size->w'.heap[b]? = w.heap[b]?
theorem Kp.refl(B:Nat)(w):Kp B w w:=⟨aE _,λ_ _ _=>rfl⟩
theorem Kp.trans{B:Nat}{w1 w2 w3}(h:Kp B w1 w2)(k:Kp B w2 w3):Kp B w1 w3:=
 ⟨Nat.le_trans h.size k.size,λb z O=>(k.same b z (aI O h.size)).trans (h.same b z O)⟩
theorem Kp.alloc(B:Nat)(w:World)(o:Obj):Kp B w (w.alloc o):=
 ⟨((Below.refl _ _).alloc (aE _) o:ZD w (w.alloc o)).size,λb _ z=>((Below.refl _ _).alloc (aE _) o:ZD w (w.alloc o)).block b z⟩
theorem Kp.cell{B:Nat}{w w':World}(h:Kp B w w'){p:Addr}{v}(O:B<=p.block)(z:w.cell? p=some v):w'.cell? p=some v:=by
 have hl:=aC w p z;have e:=h.same p.block O hl;simp only[World.cell?] at z ⊢;rw[e];exact z
structure Sr{α : Type}[Inhabited α](P:Program)(g:Nat)(lb:Array Value)(sf:Nat)(sb:Array Value)(lt : α -> α->Bool)(n B:Nat)(St:World->Array α->Prop):Prop where
 order:Sort.SWO lt
 small:n<=4096
 enters:∀ args w,(callFunc g args).run P w = .ok (.enter g args) w
 less:∀ w d (i j:Nat),St w d->i<n->j<n->Calls P g (#[E J i,E J j]++lb) w λe w'=>e = dX (eA (lt d[i]! d[j]!))/\St w' d/\Kp B w w'
 swap:∀ w d (i j:Nat),St w d->i<n->j<n->∃ w',(callFunc sf (#[E J i,E J j]++sb)).run P w = .ok (.value (dY #[])) w'/\St w' (Sort.swp d i j)/\Kp B w w'
 size:∀ w d,St w d->d.size=n
 low:∀ w d,St w d->B<=w.heap.size
 alloc:∀ w d o,St w d->St (w.alloc o) d
 store:∀ w d b o v,St w d->B<=b->St (w.setCell ⟨b,o,none⟩ v) d
def lsV(g:Nat)(lb:Array Value)(sf:Nat)(sb:Array Value):Value:=.agg #[.func (.func g) #[] lb,.func (.func sf) #[] sb]
theorem Ug(w:World)(x y)(t:bO):(w.alloc (dW #[x,y] t)).cell? ⟨w.heap.size,0,none⟩=some x/\(w.alloc (dW #[x,y] t)).cell? ⟨w.heap.size,1,none⟩=some y:=
 ⟨by rw[cH _ _ _ _ rfl];rfl,by rw[cH _ _ _ _ rfl];rfl⟩
theorem Kv{α : Type}[Inhabited α](lt : α -> α->Bool)(a b i:Nat)(d:Array α)(h:i<b):Sort.insOuter lt a b i d=Sort.insOuter lt a b (i+1) (Sort.insInner lt a i d):=by
 rw[Sort.insOuter,if_pos h]
theorem Cd{α : Type}[Inhabited α](lt : α -> α->Bool)(a b i:Nat)(d:Array α)(h:¬i<b):Sort.insOuter lt a b i d=d:=by
 rw[Sort.insOuter,if_neg h]
theorem Zbl{α : Type}[Inhabited α](lt : α -> α->Bool)(a j:Nat)(d:Array α)(h:a<j)(z:lt d[j]! d[j - 1]! = true):Sort.insInner lt a j d=Sort.insInner lt a (j - 1) (Sort.swp d j (j - 1)):=by
 obtain⟨k,rfl⟩:∃ k,j=k+1:=⟨j - 1,by omega⟩;rw[Nat.add_sub_cancel] at z ⊢;rw[Sort.insInner,if_pos (by simp[z,h])]
theorem Gn{α : Type}[Inhabited α](lt : α -> α->Bool)(a j:Nat)(d:Array α)(h:j<=a\/lt d[j]! d[j - 1]! = false):Sort.insInner lt a j d=d:=by
 cases j with
 | zero=>rfl
 | succ k=>
  rw[Sort.insInner,if_neg]
  rcases h with h|h
  ·simp;omega
  ·rw[Nat.add_sub_cancel] at h;simp[h]
