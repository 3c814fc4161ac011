import Derived.Test.YtpikejjiignchaaGreatDoorG23
import Derived.Test.YtpikejjiignchaaGreatDoorG26
namespace Go.Proofs.YtpikejjiignchaaGreatDoor
open Go.RowKit
theorem Zct{P:Program}{w:World}{ops:Array Oper}{o:Oper}{a:Act}{K:Act→World→Prop}{Q:Exit→Act→World→Prop}{E:Prop}
  (hg:o.guard=none) (l c:Operand) (t:TypeId) (hop:o.op=Op.makeSlice t l c)
  (base:Nat) (e:TypeId) (i:TypeInfo) (z:Value) (size:Nat) (h1:P.underlying t=some (.slice e)) (h2:P.info? e=some i) (h3:i.zero=some z) (h4:i.size=size)
  (kl kc:IntKind) (L C:Int) (n:Nat) (hl:a.eval l = .int kl L) (hc:a.eval c = .int kc C) (hL:L=(n:Int)) (hC:C=(n:Int)) (b2:i.bytes*n≤281474976710656) (b3:n≤maxLen) (b4:base≤w.heap.size) (H:Nat) (hH:w.heap.size=H)
  (hK:∀ w',w'.ownsRow base e size (.slice (some ⟨H,0,none⟩) n n) n (madeCells z.cells (n*size)).toList→w.grownBy w' none→K (a.put o.dst (.slice (some ⟨H,0,none⟩) n n)) w') :
  if Region.wanted o (yielded ops a.tmps)=true then Oper.wp P o a w K Q else E:=by
 rw[if_pos (by simp[Region.wanted,hg])]
 subst hH
 obtain⟨w',hrun,r1,r2⟩:=run_make_full (P:=P) w base t e i z size h1 h2 h3 h4 kl kc n b2 b3 b4
 subst hL
 subst hC
 unfold Oper.wp
 simp[execOp,hop,hl,hc,hrun,Result.andThen]
 exact hK w' r1 r2
def Uc:TxD:=(0,[],[])
def Wg(h r:Int)(T:List TxD)(N:List Int):Nat→Nat→List Zf→List (List Zf)→Int×List Zf×List (List Zf)
 | 0,_,C,S=>(0,C,S)
 | q+1,k,C,S=>
  if (k+1) % T.length=0∧Y5 r T S T.length<0 then (9,[],[])
  else if (apD C (T.getD ((k+1) % T.length) Uc) (N.getD ((k+1) % T.length) 0) h).1≠0 then ((apD C (T.getD ((k+1) % T.length) Uc) (N.getD ((k+1) % T.length) 0) h).1,[],[])
  else Wg h r T N q (k+1) (apD C (T.getD ((k+1) % T.length) Uc) (N.getD ((k+1) % T.length) 0) h).2.1 (S.set ((k+1) % T.length) (apD C (T.getD ((k+1) % T.length) Uc) (N.getD ((k+1) % T.length) 0) h).2.2)
def Xp(K:List ByteArray)(C:List Zf)(b:Zk):Int×List Zf×List (List Zf):=
 if (nfD K C b).2≠0 then ((nfD K C b).2,[],[]) else Wg b.2.1 (rwD b.2.1).1 b.2.2.2.2 (nfD K C b).1 b.2.2.2.2.length 0 C (List.replicate b.2.2.2.2.length [])
theorem Lv{h r:Int}{T:List TxD}{N:List Int}{q k i:Nat}{C:List Zf}{S:List (List Zf)}(hi:(k+1) % T.length=i){t:TxD}(ht:T.getD i Uc=t){nm:Int}(hn:N.getD i 0=nm){y:Int}{M:List Zf}{s:List Zf}(ha:apD C t nm h=(y,M,s)) :
  Wg h r T N (q+1) k C S=if i=0∧Y5 r T S T.length<0 then (9,[],[]) else if y≠0 then (y,[],[]) else Wg h r T N q (k+1) M (S.set i s):=by
 rw[Wg,hi,ht,hn,ha]
theorem Nd(h:Int):∀ (I:List InD) (S L S' M:List Zf),Zm h I S L=(0,S',M)→S'.length=S.length+I.length∧∀ c∈S',c∈S∨c∈L
 | [],S,L,S',M,e=>by
  simp only[Zm,Prod.mk.injEq] at e
  obtain⟨_,rfl,rfl⟩:=e
  exact⟨by simp,fun c hc=>.inl hc⟩
 | x :: I,S,L,S',M,e=>by
  rw[Zm] at e
  split at e
  ·simp at e
  ·next c L' hT=>
   split at e
   ·simp at e
   ·split at e
    ·simp at e
    ·obtain⟨h1,h2⟩:=Nd h I (S++[c]) L' S' M e
     refine⟨by rw[h1];simp;omega,fun z hz=>?_⟩
     obtain⟨q1,_,q2⟩:=R8 hT
     rcases h2 z hz with q|q
     ·rcases List.mem_append.1 q with q|q
      ·exact .inl q
      ·rw[List.mem_singleton.1 q];exact .inr q1
     ·rw[q2] at q
      exact .inr (List.mem_filter.1 q).1
theorem F3{L:List Zf}{t:TxD}{name h:Int}{M S:List Zf}(e:apD L t name h=(0,M,S)):S.length≤6∧∀ c∈S,0≤cv c∧cv c≤1000000000:=by
 unfold apD at e
 split at e
 ·next q=>simp at e;exact absurd e.1 q
 ·next q=>
  split at e
  ·next q=>simp at e;exact absurd e.1 q
  ·next q2=>
   split at e
   ·next q=>simp at e;exact absurd e.1 q
   ·split at e
    ·next q=>simp at e;exact absurd e.1 q
    ·split at e
     ·next q=>simp at e;exact absurd e.1 q
     ·have q:=Decidable.not_not.1 q
      have q2:=Decidable.not_not.1 q2
      obtain⟨hR,hT,_⟩:=Vn q
      simp only[Prod.mk.injEq] at e
      obtain⟨_,_,rfl⟩:=e
      obtain⟨x,S',M',hs⟩:∃ x S' M',Zm h t.2.1 [] L=(x,S',M'):=⟨_,_,_,rfl⟩
      rw[hs] at q2 ⊢
      simp only at q2
      subst q2
      obtain⟨h1,h2⟩:=Nd h t.2.1 [] L S' M' hs
      have h6:=(Xa hT).1
      refine⟨by simp at h1;simp only;omega,fun c hc=>?_⟩
      rcases h2 c hc with q|q
      ·cases q
      ·have:=Wj (hR.one c q)
       omega
theorem Dn{w:World}{b:Nat}{X:List Value}{t:TypeId}(h:w.heap[b]? = some (.cells X.toArray t (0,0)))(j:Nat)(u:Value):(w.setCell ⟨b,j,none⟩ u).heap[b]? = some (.cells (X.set j u).toArray t (0,0)):=by
 rw[setCell_eq_setRow w b j X.toArray t (0,0) u h]
 have:=setRow_heap w b _ (X.toArray.setIfInBounds j u) t _ h
 simpa using this
def UsOk(ty:TypeId)(g m:Nat)(w:World):Prop:=∃ cs:List Value,w.heap[g]? = some (.cells cs.toArray ty (0,0))∧cs.length=m∧∀ v∈cs,∃ a n c,v = .slice a n c
def UsAt(ty:TypeId)(g:Nat)(S:List (List Zf))(w:World):Prop:=∃ cs:List Value,w.heap[g]? = some (.cells cs.toArray ty (0,0))∧cs.length=S.length∧∀ i (h:i<S.length),∃ a n c,cs[i]? = some (.slice a n c)∧CoinsAt w a n S[i]∧SlOk a n c
section
variable {ty : TypeId} {g m : Nat} {w w' : World} {S : List (List Zf)}
theorem UsAt.ok(h:UsAt ty g S w):UsOk ty g S.length w:=by
 obtain⟨cs,h1,h2,h3⟩:=h
 refine⟨cs,h1,h2,fun v hv=>?_⟩
 obtain⟨i,hi,rfl⟩:=List.getElem_of_mem hv
 obtain⟨a,n,c,h4,_⟩:=h3 i (by omega)
 rw[List.getElem?_eq_getElem hi] at h4
 exact⟨a,n,c,Option.some.inj h4⟩
theorem UsOk.lt(h:UsOk ty g m w):g<w.heap.size:=by obtain⟨cs,h1,_⟩:=h;exact lt_of_block h1
theorem UsOk.later(h:UsOk ty g m w)(hb:Below w.heap.size w w'):UsOk ty g m w':=by
 obtain⟨cs,h1,h2,h3⟩:=h
 exact⟨cs,(hb.block g (lt_of_block h1)).trans h1,h2,h3⟩
theorem UsOk.cell(h:UsOk ty g m w){i:Nat}(hi:i<m):∃ z,w.cell? ⟨g,i,none⟩=some z:=by
 obtain⟨cs,h1,h2,_⟩:=h
 exact⟨cs[i]'(by omega),Zd h1 i _ (List.getElem?_eq_getElem (by omega))⟩
theorem UsOk.free(h:UsOk ty g m w)(i:Nat):w.frozen? ⟨g,i,none⟩=false:=by
 obtain⟨cs,h1,_⟩:=h
 exact Zi h1 i
theorem UsOk.put(h:UsOk ty g m w)(i:Nat)(a:Option Addr)(n c:Nat):UsOk ty g m (w.setCell ⟨g,i,none⟩ (.slice a n c)):=by
 obtain⟨cs,h1,h2,h3⟩:=h
 refine⟨cs.set i (.slice a n c),Dn h1 i _,by simpa using h2,fun v hv=>?_⟩
 rcases List.mem_or_eq_of_mem_set hv with q|rfl
 ·exact h3 v q
 ·exact⟨a,n,c,rfl⟩
theorem UsOk.other(h:UsOk ty g m w){b o:Nat}{k:IntKind}{x:Int}(hc:w.cell? ⟨b,o,none⟩=some (.int k x)):b≠g:=by
 rintro rfl
 obtain⟨cs,h1,_,h3⟩:=h
 have:cs[o]? = some (.int k x):=by
  rw[cell_of_row w b o cs.toArray ty (0,0) h1] at hc
  simpa using hc
 obtain⟨a,n,c,e⟩:=h3 _ (List.mem_of_getElem? this)
 cases e
theorem Zla{a:Option Addr}{n:Nat}{l:List (Int×Int)}(h:OpsAt w a n l)(ho:UsOk ty g m w)(hg:Gr w w' (fun q=>q=g)):OpsAt w' a n l:=by
 refine⟨h.1,fun h0=>?_⟩
 obtain⟨b,off,rfl,hc⟩:=h.2 h0
 refine⟨b,off,rfl,fun i hi=>?_⟩
 obtain⟨c0,c1⟩:=hc i hi
 have hb:=hg.block b (World.block_lt_of_cell? _ _ c0) (ho.other c0)
 exact⟨(World.cell?_of_block (a:=⟨b,off+i*2,none⟩) hb).trans c0,(World.cell?_of_block (a:=⟨b,off+i*2+1,none⟩) hb).trans c1⟩
theorem Wh{a:Option Addr}{n:Nat}{L:List Zf}(h:CoinsAt w a n L)(ho:UsOk ty g m w)(hg:Gr w w' (fun q=>q=g)):CoinsAt w' a n L:=by
 refine⟨h.1,fun h0=>?_⟩
 obtain⟨b,off,rfl,hl,hc⟩:=h.2 h0
 refine⟨b,off,rfl,Nat.lt_of_lt_of_le hl hg.size,fun i hi=>?_⟩
 obtain⟨c0,c1,c2,⟨la,ln,lc,c3,h5,h6⟩,c4,c5⟩:=hc i hi
 have hb:=hg.block b hl (ho.other c0)
 have k:=fun (o:Nat)=>World.cell?_of_block (a:=⟨b,o,none⟩) hb
 exact⟨(k _).trans c0,(k _).trans c1,(k _).trans c2,⟨la,ln,lc,(k _).trans c3,Zla h5 ho hg,h6⟩,(k _).trans c4,(k _).trans c5⟩
theorem UsAt.later(h:UsAt ty g S w)(hb:Below w.heap.size w w'):UsAt ty g S w':=by
 obtain⟨cs,h1,h2,h3⟩:=h
 refine⟨cs,(hb.block g (lt_of_block h1)).trans h1,h2,fun i hi=>?_⟩
 obtain⟨a,n,c,q1,q2,q3⟩:=h3 i hi
 exact⟨a,n,c,q1,q2.later hb,q3⟩
theorem UsAt.put(h:UsAt ty g S w)(i:Nat){a:Option Addr}{n c:Nat}{s:List Zf}(hs:CoinsAt w a n s)(sl:SlOk a n c):UsAt ty g (S.set i s) (w.setCell ⟨g,i,none⟩ (.slice a n c)):=by
 have ho:=h.ok
 have hg:=(Gr.refl w (fun q=>q=g)).one g i (.inl rfl) (.slice a n c)
 obtain⟨cs,h1,h2,h3⟩:=h
 refine⟨cs.set i (.slice a n c),Dn h1 i _,by simpa using h2,fun j hj=>?_⟩
 have hj':j<S.length:=by simpa using hj
 by_cases e:i=j
 ·subst e
  refine⟨a,n,c,by rw[List.getElem?_set_self (by omega)],?_,sl⟩
  rw[List.getElem_set_self]
  exact Wh hs ho hg
 ·obtain⟨a',n',c',q1,q2,q3⟩:=h3 j hj'
  refine⟨a',n',c',by rw[List.getElem?_set_ne e];exact q1,?_,q3⟩
  rw[List.getElem_set_ne e]
  exact Wh q2 ho hg
theorem UsAt.undo(h:UsAt ty g S w)(i:Nat)(hi:i<S.length):UndoAt w g (0+i) S[i]:=by
 obtain⟨cs,h1,h2,h3⟩:=h
 obtain⟨a,n,c,q1,q2,q3⟩:=h3 i hi
 exact⟨a,n,c,by rw[Nat.zero_add];exact Zd h1 i _ q1,q2,q3⟩
theorem Zex{base:Nat}(h:w.ownsRow base ty 1 (.slice (some ⟨g,0,none⟩) m m) m (List.replicate m (.slice none 0 0))):UsAt ty g (List.replicate m []) w:=by
 rcases h.2 with ⟨e,_⟩|⟨g',cap',cur,e,hg,hh,h1,h2,h3,h4⟩
 ·cases e
 ·cases e
  refine⟨cur.toList,by simpa using hh,?_,fun i hi=>?_⟩
  ·simp;omega
  ·have hi':i<m:=by simpa using hi
   refine⟨none,0,0,?_,?_,Wp⟩
   ·have h5:(cur.toList.take (m*1))[i]? = (List.replicate m (Value.slice none 0 0))[i]?:=by rw[h4]
    rw[List.getElem?_take,if_pos (by omega)] at h5
    rw[h5]
    simp[hi']
   ·rw[List.getElem_replicate]
    exact⟨rfl,fun h=>absurd h (by omega)⟩
end
def UndosAt(w:World)(a:Option Addr)(n:Nat)(S:List (List Zf)):Prop:=S.length=n∧(0<n→∃ b off,a=some ⟨b,off,none⟩∧b<w.heap.size∧∀ i (h:i<S.length),UndoAt w b (off+i) S[i])
theorem UndosAt.later{w w':World}{a:Option Addr}{n:Nat}{S:List (List Zf)}(h:UndosAt w a n S)(hb:Below w.heap.size w w'):UndosAt w' a n S:=by
 refine⟨h.1,fun h0=>?_⟩
 obtain⟨b,off,e,hl,hc⟩:=h.2 h0
 exact⟨b,off,e,Nat.lt_of_lt_of_le hl hb.size,fun i hi=>(hc i hi).kept hb⟩
theorem UsAt.undos{ty:TypeId}{g:Nat}{S:List (List Zf)}{w:World}(h:UsAt ty g S w):UndosAt w (some ⟨g,0,none⟩) S.length S:=⟨rfl,fun _=>⟨g,0,rfl,h.ok.lt,fun i hi=>h.undo i hi⟩⟩
def Zir(w w':World)(x:Int)(C:List Zf)(S:List (List Zf))(e:Ending):Prop:=
 ∃ a n c ua un uc,e = .returned (.tuple #[.slice a n c,.slice ua un uc,.int .i64 x])∧CoinsAt w' a n C∧SlOk a n c∧UndosAt w' ua un S∧SlOk ua un uc∧Below w.heap.size w w'∧∀ ad,ua=some ad→w.heap.size≤ad.block
theorem Jl{w w':World}{x y:Int}{C:List Zf}{S:List (List Zf)}(h:((y:Int),([]:List Zf),([]:List (List Zf)))=(x,C,S))(hb:Below w.heap.size w w'):Zir w w' x C S (.returned (.tuple #[.slice none 0 0,.slice none 0 0,.int .i64 y])):=by
 injection h with h1 h2
 injection h2 with h2 h3
 subst h1 h2 h3
 exact⟨none,0,0,none,0,0,rfl,⟨rfl,fun h=>absurd h (by omega)⟩,Wp,⟨rfl,fun h=>absurd h (by omega)⟩,Wp,hb,fun ad e=>by cases e⟩
theorem hasP_no{p:PtD}{L:List Zf}:Xy p L=false↔∀ c∈L,pt c≠p:=by
 rw[←Bool.not_eq_true,Vk]
 exact⟨fun h c hc e=>h ⟨c,hc,e⟩,fun h ⟨c,hc,e⟩=>h c hc e⟩
theorem Mi{L M S:List Zf}{t:TxD}{name h:Int}(e:apD L t name h=(0,M,S)):Xq L t name h=0∧∃ M2,Zm h t.2.1 [] L=(0,S,M2)∧Lu S t=0∧Z7 name h (isR t) 0 t.2.2 M2=(0,M)∧Yj M=0:=by
 obtain⟨x1,h1⟩:∃ x1,Xq L t name h=x1:=⟨_,rfl⟩
 obtain⟨⟨x2,S2,M2⟩,h2⟩:∃ r,Zm h t.2.1 [] L=r:=⟨_,rfl⟩
 obtain⟨x3,h3⟩:∃ x3,Lu S2 t=x3:=⟨_,rfl⟩
 obtain⟨⟨x4,M4⟩,h4⟩:∃ r,Z7 name h (isR t) 0 t.2.2 M2=r:=⟨_,rfl⟩
 obtain⟨x5,h5⟩:∃ x5,Yj M4=x5:=⟨_,rfl⟩
 rw[F4 h1 h2 h3 h4 h5] at e
 split at e
 ·rename_i q;injection e with e _;exact absurd e q
 rename_i q1
 split at e
 ·rename_i q;injection e with e _;exact absurd e q
 rename_i q2
 split at e
 ·rename_i q;injection e with e _;exact absurd e q
 rename_i q3
 split at e
 ·rename_i q;injection e with e _;exact absurd e q
 rename_i q4
 split at e
 ·rename_i q;injection e with e _;exact absurd e q
 rename_i q5
 have e1:x1=0:=by omega
 have e2:x2=0:=by omega
 have e3:x3=0:=by omega
 have e4:x4=0:=by omega
 have e5:x5=0:=by omega
 injection e with _ e
 injection e with ea eb
 subst e1 e2 e3 e4 e5 ea eb
 exact⟨h1,M2,h2,h3,h4,h5⟩
theorem Lm(name h:Int)(r:Bool):∀ (O:List Yc) (i:Nat) (L M:List Zf),Srt L→Z7 name h r i O L=(0,M) →
  Srt M∧(∀ x,x∈M↔x∈L∨∃ j,∃ hj:j<O.length,x=Jc name (i+j) O[j] h r)∧(∀ j,j<O.length→Xy (name,((i+j:Nat):Int)) L=false)
 | [],i,L,M,hs,e=>by
  unfold Z7 at e
  injection e with _ e
  subst e
  exact⟨hs,fun x=>⟨.inl,fun q=>q.elim id fun ⟨j,hj,_⟩=>absurd hj (by simp)⟩,fun j hj=>absurd hj (by simp)⟩
 | o :: q,i,L,M,hs,e=>by
  unfold Z7 at e
  split at e
  ·injection e with e _;cases e
  ·rename_i hf
   have hf':Xy (pt (Jc name i o h r)) L=false:=by simpa[Jc,pt] using hf
   obtain⟨h1,h2,h3⟩:=Lm name h r q (i+1) _ M (Qp hs) e
   refine⟨h1,fun x=>?_,fun j hj=>?_⟩
   ·rw[h2 x,K9 hf']
    constructor
    ·rintro ((rfl|g)|⟨j,hj,rfl⟩)
     ·exact .inr ⟨0,by simp,by simp⟩
     ·exact .inl g
     ·exact .inr ⟨j+1,by simpa using hj,by simp[Nat.add_assoc,Nat.add_comm 1 j]⟩
    ·rintro (g|⟨j,hj,rfl⟩)
     ·exact .inl (.inr g)
     ·cases j with
      | zero=>exact .inl (.inl (by simp))
      | succ j=>exact .inr ⟨j,by simpa using hj,by simp[Nat.add_assoc,Nat.add_comm 1 j]⟩
   ·cases j with
    | zero=>simpa[Jc,pt] using hf'
    | succ j=>
     have:=h3 j (by simpa using hj)
     rw[show i+1+j=i+(j+1) by omega] at this
     refine hasP_no.2 fun c hc=>(hasP_no.1 this) c ((K9 hf').2 (.inr hc))
theorem C8(name h:Int)(r:Bool)(O:List Yc)(L:List Zf)(hL:Srt L)(hfree:∀ j,j<O.length→Xy (name,((j:Nat):Int)) L=false):∀ (m k:Nat) (N:List Zf),m+k=O.length→Srt N→(∀ x,x∈N↔x∈L∨∃ j,∃ hj:j<O.length,k≤j∧x=Jc name j O[j] h r)→Vw name k (O.drop k) N=(0,L)
 | 0,k,N,hm,hN,hx=>by
  rw[List.drop_of_length_le (by omega),Vw]
  rw[Srt.ext hN hL fun x=>by
   rw[hx x]
   exact⟨fun q=>q.elim id fun ⟨j,hj,hk,_⟩=>absurd hj (by omega),.inl⟩]
 | m+1,k,N,hm,hN,hx=>by
  have hk:k<O.length:=by omega
  have hmem:Jc name k O[k] h r∈N:=(hx _).2 (.inr ⟨k,hk,Nat.le_refl _,rfl⟩)
  have ht:=Na (p:=(name,(k:Int))) hN hmem rfl
  rw[List.drop_eq_getElem_cons hk,Vw,ht]
  simp only
  rw[if_pos (by rfl)]
  refine C8 name h r O L hL hfree m (k+1) _ (by omega) (hN.filter _) fun x=>?_
  rw[List.mem_filter,hx x,decide_eq_true_eq]
  constructor
  ·rintro ⟨g|⟨j,hj,hkj,rfl⟩,hne⟩
   ·exact .inl g
   ·refine .inr ⟨j,hj,?_,rfl⟩
    rcases Nat.lt_or_ge k j with q|q
    ·exact q
    ·obtain rfl:j=k:=by omega
     exact absurd rfl hne
  ·rintro (g|⟨j,hj,hkj,rfl⟩)
   ·exact⟨.inl g,(hasP_no.1 (hfree k hk)) x g⟩
   ·refine⟨.inr ⟨j,hj,by omega,rfl⟩,fun q=>?_⟩
    have q2:((j:Nat):Int)=((k:Nat):Int):=congrArg Prod.snd q
    omega
theorem Ae{p:PtD}{c:Zf}:∀ {L:List Zf},Srt L→c∈L→pt c=p→Z6 L=cv c+Z6 (L.filter fun d=>decide (pt d≠p))
 | [],_,hc,_=>by cases hc
 | d :: r,hs,hc,e=>by
  rw[Wm]
  rcases List.mem_cons.1 hc with rfl|hc
  ·rw[List.filter_cons_of_neg (by simp[e])]
   have:r.filter (fun d=>decide (pt d≠p))=r:=by
    rw[List.filter_eq_self]
    intro y hy
    exact decide_eq_true (fun q=>Js (hs.head y hy) (by rw[e,q]))
   rw[this]
  ·have hne:pt d≠p:=fun q=>Js (hs.head c hc) (by rw[e,q])
   rw[List.filter_cons_of_pos (by simp[hne]),Wm,Ae hs.tail hc e]
   omega
theorem Jy(h:Int):∀ (I:List InD) (S0 L S M:List Zf),Srt L→Zm h I S0 L=(0,S,M) →
  Srt M∧∃ T,S=S0++T∧T.length=I.length∧(∀ j (h1:j<T.length) (h2:j<I.length),pt T[j]=(I[j].1,I[j].2.1))∧(∀ x,x∈L↔x∈M∨x∈T)∧(∀ x∈T,Xy (pt x) M=false)∧T.Pairwise (fun a b=>pt a≠pt b)∧Z6 L=Z6 M+Z6 T
 | [],S0,L,S,M,hs,e=>by
  unfold Zm at e
  injection e with _ e
  injection e with e1 e2
  subst e1 e2
  exact⟨hs,[],by simp,rfl,fun j h1=>absurd h1 (by simp),fun x=>by simp,fun x hx=>(by cases hx),List.Pairwise.nil,by simp[Z6]⟩
 | x :: r,S0,L,S,M,hs,e=>by
  unfold Zm at e
  split at e
  ·injection e with e _;cases e
  ·rename_i c L' ht
   split at e
   ·injection e with e _;cases e
   ·split at e
    ·injection e with e _;cases e
    ·obtain⟨t1,t2,t3⟩:=R8 ht
     obtain⟨h1,T,h2,h3,h4,h5,h6,h7,h8⟩:=Jy h r _ L' S M (by rw[t3];exact hs.filter _) e
     have hin:∀ y,y∈L'↔y∈L∧pt y≠(x.1,x.2.1):=fun y=>by rw[t3,List.mem_filter,decide_eq_true_eq]
     refine⟨h1,c :: T,by rw[h2,List.append_assoc];rfl,by simp[h3],fun j h1 h2=>?_,fun y=>?_,fun y hy=>?_,?_,?_⟩
     ·cases j with
      | zero=>exact t2
      | succ j=>exact h4 j (by simpa using h1) (by simpa using h2)
     ·constructor
      ·intro hy
       by_cases q:pt y=(x.1,x.2.1)
       ·exact .inr (by rw[hs.inj hy t1 (by rw[q,t2])];exact List.mem_cons_self ..)
       ·rcases (h5 y).1 ((hin y).2 ⟨hy,q⟩) with g|g
        ·exact .inl g
        ·exact .inr (List.mem_cons_of_mem _ g)
      ·rintro (g|g)
       ·exact ((hin y).1 ((h5 y).2 (.inl g))).1
       ·rcases List.mem_cons.1 g with rfl|g
        ·exact t1
        ·exact ((hin y).1 ((h5 y).2 (.inr g))).1
     ·rcases List.mem_cons.1 hy with rfl|hy
      ·refine hasP_no.2 fun d hd e=>?_
       exact ((hin d).1 ((h5 d).2 (.inl hd))).2 (by rw[e,t2])
      ·exact h6 y hy
     ·refine List.pairwise_cons.2 ⟨fun y hy e=>?_,h7⟩
      exact ((hin y).1 ((h5 y).2 (.inr hy))).2 (by rw[←e,t2])
     ·have h9:=Ae hs t1 t2
      rw[←t3] at h9
      rw[h9,h8,Wm]
      omega
theorem Bc(I:List InD)(S M2 L:List Zf)(hlen:S.length=I.length)(hL:Srt L)(hpt:∀ j (h1:j<S.length) (h2:j<I.length),pt S[j]=(I[j].1,I[j].2.1))(hmem:∀ x,x∈L↔x∈M2∨x∈S)(hfree:∀ x∈S,Xy (pt x) M2=false)(hpw:S.Pairwise (fun a b=>pt a≠pt b)) :
  ∀ (m k:Nat) (N:List Zf),m+k=S.length→Srt N→(∀ x,x∈N↔x∈M2∨x∈S.take k)→Us (I.drop k) (S.drop k) N=(0,L)
 | 0,k,N,hm,hN,hx=>by
  rw[List.drop_of_length_le (by omega),List.drop_of_length_le (by omega),Us]
  ·rw[Srt.ext hN hL fun x=>by rw[hx x,hmem x,List.take_of_length_le (by omega)]]
  ·intro _ _ _ _ h;cases h
 | m+1,k,N,hm,hN,hx=>by
  have hk:k<S.length:=by omega
  have hk2:k<I.length:=by omega
  have hno:Xy (pt S[k]) N=false:=hasP_no.2 fun c hc e=>by
   rcases (hx c).1 hc with g|g
   ·exact (hasP_no.1 (hfree _ (List.getElem_mem hk))) c g e
   ·obtain⟨j,hj,rfl⟩:=List.mem_take_iff_getElem.1 g
    have hjk:j<k:=by omega
    exact (List.pairwise_iff_getElem.1 hpw j k (by omega) hk hjk) e
  rw[List.drop_eq_getElem_cons hk,List.drop_eq_getElem_cons hk2,Us,if_neg (by
   rintro (q|q)
   ·exact q (hpt k hk hk2)
   ·rw[hno] at q;cases q)]
  refine Bc I S M2 L hlen hL hpt hmem hfree hpw m (k+1) _ (by omega) (Qp hN) fun x=>?_
  rw[K9 hno,hx x,List.take_succ_eq_append_getElem hk,List.mem_append,List.mem_singleton]
  constructor
  ·rintro (rfl|g|g)
   ·exact .inr (.inr rfl)
   ·exact .inl g
   ·exact .inr (.inl g)
  ·rintro (g|g|rfl)
   ·exact .inr (.inl g)
   ·exact .inr (.inr g)
   ·exact .inl rfl
theorem Zkl{L M S:List Zf}{t:TxD}{name h:Int}(e:apD L t name h=(0,M,S)):rvD M t name S=(0,L):=by
 obtain⟨h1,M2,h2,h3,h4,h5⟩:=Mi e
 obtain⟨hR,hT,_,_,_⟩:=Vn h1
 obtain⟨s1,T,s2,s3,s4,s5,s6,s7,s8⟩:=Jy h _ _ _ _ _ hR.srt h2
 rw[List.nil_append] at s2
 subst s2
 obtain⟨g1,g2,g3⟩:=Lm name h _ _ _ _ _ s1 h4
 have hb:Vw name 0 t.2.2 M=(0,M2):=by
  have:=C8 name h (isR t) t.2.2 M2 s1 (fun j hj=>by have:=g3 j hj;rwa [Nat.zero_add] at this) t.2.2.length 0 M (by omega) g1 (fun x=>by
   rw[g2 x]
   constructor
   ·rintro (q|⟨j,hj,rfl⟩)
    ·exact .inl q
    ·exact .inr ⟨j,hj,Nat.zero_le _,by rw[Nat.zero_add]⟩
   ·rintro (q|⟨j,hj,_,rfl⟩)
    ·exact .inl q
    ·exact .inr ⟨j,hj,by rw[Nat.zero_add]⟩)
  simpa using this
 have hp:Us t.2.1 S M2=(0,L):=by
  have:=Bc t.2.1 S M2 L s3 hR.srt s4 s5 s6 s7 S.length 0 M2 (by omega) s1 (fun x=>by simp)
  simpa using this
 have hc:Yj L=0:=(Y4 L).2 hR
 have hb0:Vm M t=0:=by unfold Vm;rw[if_neg (by rw[h5];decide)];exact hT
 rw[Zky hb0 hb hp hc,if_neg (by decide),if_neg (by rw[s3];simp),if_neg (by decide),if_neg (by decide),if_neg (by decide)]
theorem Zix{c:Zf}{L:List Zf}(hs:Srt L)(hn:Xy (pt c) L=false):Z6 (Qd c L)=cv c+Z6 L:=by
 rw[Zbr hs hn,W6,Wm]
 have:Z6 L=Z6 (L.take (pos (pt c) L))+Z6 (L.drop (pos (pt c) L)):=by rw[←W6,List.take_append_drop]
 omega
theorem Ll(name h:Int)(r:Bool):∀ (O:List Yc) (i:Nat) (L M:List Zf),Srt L→Z7 name h r i O L=(0,M)→Z6 M=Z6 L+Yi O
 | [],i,L,M,hs,e=>by
  unfold Z7 at e
  injection e with _ e
  subst e
  simp[Yi]
 | o :: q,i,L,M,hs,e=>by
  unfold Z7 at e
  split at e
  ·injection e with e _;cases e
  ·rename_i hf
   have hf':Xy (pt (Jc name i o h r)) L=false:=by simpa[Jc,pt] using hf
   have h1:=Ll name h r q (i+1) _ M (Qp hs) e
   rw[Zix hs hf'] at h1
   have h2:cv (Jc name i o h r)=o.1:=rfl
   have h3:Yi (o :: q)=o.1+Yi q:=by simp[Yi]
   rw[h1,h2,h3]
   omega
theorem Qj{L M S:List Zf}{t:TxD}{name h:Int}(e:apD L t name h=(0,M,S)):Z6 M=Z6 L - Z6 S+Yi t.2.2∧0≤Z6 S:=by
 obtain⟨h1,M2,h2,h3,h4,h5⟩:=Mi e
 obtain⟨hR,hT,_,_,_⟩:=Vn h1
 obtain⟨s1,T,s2,s3,s4,s5,s6,s7,s8⟩:=Jy h _ _ _ _ _ hR.srt h2
 rw[List.nil_append] at s2
 subst s2
 have hg:=Ll name h _ _ _ _ _ s1 h4
 refine⟨by omega,Jw S fun c hc=>?_⟩
 have:=Wj (hR.one c ((s5 c).2 (.inr hc)))
 omega
theorem Mh{L M S:List Zf}{t:TxD}{name h:Int}(e:apD L t name h=(0,M,S)):Ye L∧Ye M∧Zo t=0:=by
 obtain⟨h1,M2,h2,h3,h4,h5⟩:=Mi e
 obtain⟨hR,hT,_,_,_⟩:=Vn h1
 exact⟨hR,(Y4 M).1 h5,hT⟩
def Lr(T:List TxD)(N:List Int)(S:List (List Zf)):Nat→List Zf→Int×List Zf
 | 0,C=>(0,C)
 | q+1,C=>
  if (rvD C (T.getD ((q+1) % T.length) Uc) (N.getD ((q+1) % T.length) 0) (S.getD ((q+1) % T.length) [])).1≠0 then ((rvD C (T.getD ((q+1) % T.length) Uc) (N.getD ((q+1) % T.length) 0) (S.getD ((q+1) % T.length) [])).1,[])
  else Lr T N S q (rvD C (T.getD ((q+1) % T.length) Uc) (N.getD ((q+1) % T.length) 0) (S.getD ((q+1) % T.length) [])).2
theorem Zhw{T:List TxD}{N:List Int}{S:List (List Zf)}{q i:Nat}{C:List Zf}(hi:(q+1) % T.length=i){t:TxD}(ht:T.getD i Uc=t){nm:Int}(hn:N.getD i 0=nm){s:List Zf}(hs:S.getD i []=s){y:Int}{M:List Zf}(ha:rvD C t nm s=(y,M)) :
  Lr T N S (q+1) C=if y≠0 then (y,[]) else Lr T N S q M:=by
 rw[Lr,hi,ht,hn,hs,ha]
theorem Ziv{m j k:Nat}(hj:j<k)(hk:k<m):(j+1) % m≠(k+1) % m:=by
 rw[Nat.mod_eq_of_lt (show j+1<m by omega)]
 by_cases e:k+1=m
 ·rw[e,Nat.mod_self];omega
 ·rw[Nat.mod_eq_of_lt (show k+1<m by omega)];omega
theorem Mp{α : Type}(l:List α)(i:Nat)(x d : α)(h:i<l.length):(l.set i x).getD i d=x:=by simp[List.getD,h]
theorem Cc{α : Type}(l:List α){i j:Nat}(x d : α)(h:i≠j):(l.set i x).getD j d=l.getD j d:=by simp[List.getD,List.getElem?_set_ne h]
theorem Yz{h r:Int}{T:List TxD}{N:List Int}{q k:Nat}{C M:List Zf}{S S':List (List Zf)}(e:Wg h r T N (q+1) k C S=(0,M,S')) :
  ¬((k+1) % T.length=0∧Y5 r T S T.length<0)∧∃ C1 s,apD C (T.getD ((k+1) % T.length) Uc) (N.getD ((k+1) % T.length) 0) h=(0,C1,s)∧Wg h r T N q (k+1) C1 (S.set ((k+1) % T.length) s)=(0,M,S'):=by
 obtain⟨⟨y,C1,s⟩,ha⟩:∃ a,apD C (T.getD ((k+1) % T.length) Uc) (N.getD ((k+1) % T.length) 0) h=a:=⟨_,rfl⟩
 rw[Lv rfl rfl rfl ha] at e
 split at e
 ·injection e with e1 _;exact absurd e1 (by decide)
 ·rename_i hc
  split at e
  ·rename_i hy;injection e with e1 _;exact absurd e1 hy
  ·rename_i hy
   have hy:y=0:=Decidable.not_not.1 hy
   subst hy
   exact⟨hc,C1,s,ha,e⟩
theorem Cm{h r:Int}{T:List TxD}{N:List Int}:∀ (q k:Nat) (C M:List Zf) (S S':List (List Zf)),Wg h r T N q k C S=(0,M,S')→q+k=T.length→S.length=T.length →
  S'.length=T.length∧(∀ j,j<k→S'.getD ((j+1) % T.length) []=S.getD ((j+1) % T.length) [])∧Lr T N S' T.length M=Lr T N S' k C
 | 0,k,C,M,S,S',e,hk,hS=>by
  rw[Wg] at e
  injection e with _ e
  injection e with e1 e2
  subst e1 e2
  have:k=T.length:=by omega
  subst this
  exact⟨hS,fun _ _=>rfl,rfl⟩
 | q+1,k,C,M,S,S',e,hk,hS=>by
  obtain⟨_,C1,s,ha,e⟩:=Yz e
  obtain⟨i1,i2,i3⟩:=Cm q (k+1) C1 M _ S' e (by omega) (by simpa using hS)
  have hm:(k+1) % T.length<S.length:=by rw[hS];exact Nat.mod_lt _ (by omega)
  refine⟨i1,fun j hj=>?_,?_⟩
  ·rw[i2 j (by omega)]
   exact Cc S s [] (fun e=>Ziv hj (show k<T.length by omega) e.symm)
  ·rw[i3]
   have hs:S'.getD ((k+1) % T.length) []=s:=by
    rw[i2 k (Nat.lt_succ_self k)]
    exact Mp S _ s [] hm
   rw[Zhw rfl rfl rfl hs (Zkl ha),if_neg (by decide)]
theorem P4{h r:Int}{T:List TxD}{N:List Int}:∀ (q k:Nat) (C M:List Zf) (S S':List (List Zf)),Wg h r T N q k C S=(0,M,S')→Ye C→Ye M
 | 0,k,C,M,S,S',e,hC=>by
  rw[Wg] at e
  injection e with _ e
  injection e with e1 e2
  subst e1
  exact hC
 | q+1,k,C,M,S,S',e,hC=>by
  obtain⟨_,C1,s,ha,e⟩:=Yz e
  exact P4 q (k+1) C1 M _ S' e (Mh ha).2.1
theorem Zkd{h r:Int}{T:List TxD}{N:List Int}{C M:List Zf}{S':List (List Zf)}(h0:0<T.length)(h4:T.length≤4)(e:Wg h r T N T.length 0 C (List.replicate T.length [])=(0,M,S')):Z6 M≤Z6 C+r:=by
 match T,h0,h4,e with
 | [t0],_,_,e=>
  obtain⟨c0,C1,s0,a0,e⟩:=Yz (q:=0) e
  rw[Wg] at e
  injection e with _ e
  injection e with e _
  subst e
  have i0:(0+1) % [t0].length=0:=by simp
  rw[i0] at a0
  have a0:apD C t0 (N.getD 0 0) h=(0,C1,s0):=a0
  obtain⟨b0,d0⟩:=Qj a0
  have c0:¬(Y5 r [t0] [[]] 1<0):=fun q=>c0 ⟨i0,q⟩
  simp only[Y5,List.take_succ_cons,List.take_zero,List.map_cons,List.map_nil,List.flatten_cons,List.flatten_nil,List.append_nil,Ag] at c0
  omega
 | [t0,t1],_,_,e=>
  obtain⟨_,C1,s1,a1,e⟩:=Yz (q:=1) e
  obtain⟨c0,C2,s0,a0,e⟩:=Yz (q:=0) e
  rw[Wg] at e
  injection e with _ e
  injection e with e _
  subst e
  have a1:apD C t1 (N.getD 1 0) h=(0,C1,s1):=a1
  have i0:(0+1+1) % [t0,t1].length=0:=by simp
  rw[i0] at a0
  have a0:apD C1 t0 (N.getD 0 0) h=(0,C2,s0):=a0
  obtain⟨b1,d1⟩:=Qj a1
  obtain⟨b0,d0⟩:=Qj a0
  have c0:¬(Y5 r [t0,t1] [[],s1] 2<0):=fun q=>c0 ⟨i0,q⟩
  simp only[Y5,List.take_succ_cons,List.take_zero,List.map_cons,List.map_nil,List.flatten_cons,List.flatten_nil,List.append_nil,List.nil_append,U5] at c0
  omega
 | [t0,t1,t2],_,_,e=>
  obtain⟨_,C1,s1,a1,e⟩:=Yz (q:=2) e
  obtain⟨_,C2,s2,a2,e⟩:=Yz (q:=1) e
  obtain⟨c0,C3,s0,a0,e⟩:=Yz (q:=0) e
  rw[Wg] at e
  injection e with _ e
  injection e with e _
  subst e
  have a1:apD C t1 (N.getD 1 0) h=(0,C1,s1):=a1
  have a2:apD C1 t2 (N.getD 2 0) h=(0,C2,s2):=a2
  have i0:(0+1+1+1) % [t0,t1,t2].length=0:=by simp
  rw[i0] at a0
  have a0:apD C2 t0 (N.getD 0 0) h=(0,C3,s0):=a0
  obtain⟨b1,d1⟩:=Qj a1
  obtain⟨b2,d2⟩:=Qj a2
  obtain⟨b0,d0⟩:=Qj a0
  have c0:¬(Y5 r [t0,t1,t2] [[],s1,s2] 3<0):=fun q=>c0 ⟨i0,q⟩
  simp only[Y5,List.take_succ_cons,List.take_zero,List.map_cons,List.map_nil,List.flatten_cons,List.flatten_nil,List.append_nil,List.nil_append,U5,W6] at c0
  omega
 | [t0,t1,t2,t3],_,_,e=>
  obtain⟨_,C1,s1,a1,e⟩:=Yz (q:=3) e
  obtain⟨_,C2,s2,a2,e⟩:=Yz (q:=2) e
  obtain⟨_,C3,s3,a3,e⟩:=Yz (q:=1) e
  obtain⟨c0,C4,s0,a0,e⟩:=Yz (q:=0) e
  rw[Wg] at e
  injection e with _ e
  injection e with e _
  subst e
  have a1:apD C t1 (N.getD 1 0) h=(0,C1,s1):=a1
  have a2:apD C1 t2 (N.getD 2 0) h=(0,C2,s2):=a2
  have a3:apD C2 t3 (N.getD 3 0) h=(0,C3,s3):=a3
  have i0:(0+1+1+1+1) % [t0,t1,t2,t3].length=0:=by simp
  rw[i0] at a0
  have a0:apD C3 t0 (N.getD 0 0) h=(0,C4,s0):=a0
  obtain⟨b1,d1⟩:=Qj a1
  obtain⟨b2,d2⟩:=Qj a2
  obtain⟨b3,d3⟩:=Qj a3
  obtain⟨b0,d0⟩:=Qj a0
  have c0:¬(Y5 r [t0,t1,t2,t3] [[],s1,s2,s3] 4<0):=fun q=>c0 ⟨i0,q⟩
  simp only[Y5,List.take_succ_cons,List.take_zero,List.map_cons,List.map_nil,List.flatten_cons,List.flatten_nil,List.append_nil,List.nil_append,U5,W6] at c0
  omega
def Zhx(K:List ByteArray)(C:List Zf)(b:Zk)(S:List (List Zf)):Int×List Zf:=
 if (nfD K C b).2≠0 then ((nfD K C b).2,[]) else if S.length≠b.2.2.2.2.length then (4,[]) else Lr b.2.2.2.2 (nfD K C b).1 S b.2.2.2.2.length C
theorem Pb{b:Zk}(h:Xb b=0):0<b.2.2.2.2.length∧b.2.2.2.2.length≤4∧1≤b.2.1∧b.2.1≤1000:=by
 unfold Xb at h
 split at h
 ·cases h
 rename_i h1
 split at h
 ·cases h
 split at h
 ·cases h
 unfold Xx at h1
 simp only[Bool.not_eq_false,Bool.and_eq_true,decide_eq_true_eq] at h1
 omega
theorem Br{K:List ByteArray}{C:List Zf}{b:Zk}(h:(nfD K C b).2=0):Ye C∧Xb b=0∧∃ X n N,Qt K b=(X,n,N,0)∧(nfD K C b).1=N:=by
 unfold nfD at h ⊢
 split at h
 ·rename_i q;exact absurd h q
 rename_i q
 obtain⟨⟨X,n,N,x⟩,hx⟩:∃ r,Qt K b=r:=⟨_,rfl⟩
 rw[hx] at h
 have h:x=0:=h
 subst h
 rw[if_neg q,hx]
 exact⟨(Y4 C).1 (Decidable.not_not.1 q),(Sk hx).1,X,n,N,rfl,rfl⟩
theorem Zli{K:List ByteArray}{C:List Zf}{b:Zk}{X:List ByteArray}{n:Int}{N:List Int}(hC:Ye C)(h:Qt K b=(X,n,N,0)):nfD K C b=(N,0):=by
 unfold nfD
 rw[(Y4 C).2 hC,if_neg (by decide),h]
theorem Zke{K:List ByteArray}{C M:List Zf}{b:Zk}{S:List (List Zf)}(e:Xp K C b=(0,M,S)) :
  Ye C∧Ye M∧Xb b=0∧S.length=b.2.2.2.2.length∧Zhx K M b S=(0,C)∧Z6 M≤Z6 C+(rwD b.2.1).1∧(rwD b.2.1).2=0:=by
 unfold Xp at e
 split at e
 ·rename_i q
  injection e with e _
  exact absurd e q
 rename_i q
 obtain⟨hC,hb,X,n,N,hN,hN2⟩:=Br (Decidable.not_not.1 q)
 rw[hN2] at e
 obtain⟨h0,h4,h1,h2⟩:=Pb hb
 have hM:=P4 _ _ _ _ _ _ e hC
 obtain⟨b1,b2,b3⟩:=Cm _ _ _ _ _ _ e (by omega) (by simp)
 refine⟨hC,hM,hb,b1,?_,Zkd h0 h4 e,?_⟩
 ·unfold Zhx
  rw[Zli hM hN,if_neg (fun q=>q rfl),if_neg (fun q=>q b1)]
  exact b3
 ·unfold rwD
  rw[if_pos (by simp only[Bool.and_eq_true,decide_eq_true_eq];omega)]
def RnR(w w':World)(M:List ByteArray)(nm:Int)(N:List Int)(x:Int)(e:Ending):Prop:=
 ∃ a' n' c' a2 n2 c2,e = .returned (.tuple #[.slice a' n' c',.int .i64 nm,.slice a2 n2 c2,.int .i64 x])∧Bk.TextsAt w' a' n' M∧Bk.SlOk a' n' c'∧Bk.IntsAt w' a2 n2 N∧Below w.heap.size w w'
theorem Zgf{w w':World}{x:Int}(hb:Below w.heap.size w w'):RnR w w' [] 0 [] x (.returned (.tuple #[.slice none 0 0,.int .i64 0,.slice none 0 0,.int .i64 x])):=
 ⟨none,0,0,none,0,0,rfl,Bk.TextsAt.nil _ _,Bk.SlOk.nil,Bk.IntsAt.nil _ _,hb⟩
theorem Zdu{K:List ByteArray}{b:Zk}(hR:Bk.Right K):Bk.allR K (Xl b)=Bk.nmGo K [] (Xl b):=by
 unfold Bk.allR
 rw[if_pos ((Bk.right_iff K).2 hR)]
theorem Zcm(T:List TxD)(k:Nat)(h:k<T.length):(T.take (k+1)).map Zz=(T.take k).map Zz++[Zz T[k]]:=by
 rw[List.take_succ_eq_append_getElem h,List.map_append];rfl
set_option maxRecDepth 10000 in
set_option maxHeartbeats 6400000 in
theorem Nh(ka:Option Addr)(kn kc:Nat)(K:List ByteArray)(p h k n:Int)(a:Option Addr)(m c:Nat)(T:List TxD)(M:List ByteArray)(nm:Int)(N:List Int)(x:Int)(w:World)(hE:EnvF w)(hK:Bk.TextsAt w ka kn K)(sK:Bk.SlOk ka kn kc)(hR:Bk.Right K)(hT:TxsAt w a m T)(hx:Qt K (p,h,k,n,T)=(M,nm,N,x)) :
  Calls Tryz.prog 85 #[.slice ka kn kc,.agg #[.int .i64 p,.int .i64 h,.int .i64 k,.int .i64 n,.slice a m c]] w fun e w'=>RnR w w' M nm N x e:=by
 obtain⟨X,hX⟩:∃ X,X=w.alloc (.cells #[.int .i64 p,.int .i64 h,.int .i64 k,.int .i64 n,.slice a m c] 68):=⟨_,rfl⟩
 have hbX:Below w.heap.size w X:=by rw[hX];exact Zg _ _
 have hXb:X.heap[w.heap.size]? = some (.cells [.int .i64 p,.int .i64 h,.int .i64 k,.int .i64 n,.slice a m c].toArray 68 (0,0)):=by rw[hX];exact Yd _ _ _ _ _ _ _
 obtain⟨z,hz⟩:∃ z,Xb (p,h,k,n,T)=z:=⟨_,rfl⟩
 have CK:=Zb (Ru p h k n a m c T z X (hT.later hbX) hz)
 have x0:=Zd hXb 0 _ rfl
 have x1:=Zd hXb 1 _ rfl
 have x2:=Zd hXb 2 _ rfl
 have x3:=Zd hXb 3 _ rfl
 have x4:=Zd hXb 4 _ rfl
 have xl:=lt_of_block hXb
 have HBX:=Zb hbX
 have HXB:=Zb hXb
 by_cases hz0:z=0
 ·subst hz0
  obtain⟨i0,hi,hz0',hz1,hz2⟩:=info_parts Tryz.info9
  have h4:=(Pb hz).2.1
  have zT:T.length=m:=hT.1
  have hm4:m≤4:=by rw[←zT];exact h4
  have hE2:=hE.later hbX
  have HEX:=Zb hE2
  have HTX:=Zb (hT.later hbX)
  have HKX:=Zb (hK.later hbX)
  have HCT:Hid (∀ t∈T,Zo t=0):=(Un hz).2.2.2.2
  have HZ:=Zb hz
  have HZT:=Zb zT
  have HX:=Zb hx
  have OW:Hid (∀ W:World,W.ownsRow X.heap.size 9 1 (.slice none 0 0) ([]:List ByteArray).length (([]:List ByteArray).map Value.string)):=fun _=>⟨rfl,.inl ⟨rfl,rfl⟩⟩
  clear hE hE2 hK hT hbX hXb hz zT hx h4
  go_enter Tryz.func85,Tryz.ntmps85
  go_wp2_with fail
  rw[←hX]
  clear hX
  (try go_wp2_with fail)
  refine (Za CK).mono ?_
  rintro e w1 ⟨rfl,hb1⟩
  have HB1:=Zb hb1
  have y4:=Zc hb1 x4
  have yl:=World.block_lt_of_cell? _ _ y4
  clear hb1 CK x0 x1 x2 x3 x4 xl
  go_wp2
  go_loopw [9,21] (fun lv i wr=>∃ (j:Nat) (L:List ByteArray),j≤m∧i = .int .i64 j∧Hid (L=(T.take j).map Zz)∧Hid (wr.ownsRow X.heap.size 9 1 lv L.length (L.map Value.string))∧Hid (Below X.heap.size X wr)) (fun _ i _=>m - (intOf i).toNat)
  case atStart=>exact⟨0,[],Nat.zero_le _,rfl,rfl,(Za OW) _,HB1⟩
  case round=>
   clear HB1 y4 yl
   obtain⟨j,L,hj,rfl,HL,HO,HB⟩:=hrel
   have hLl:L.length=j:=by
    rw[Za HL,List.length_map,List.length_take,Za HZT];omega
   have HLl:=Zb hLl
   clear hLl
   obtain⟨av,cw,rfl,sv,-⟩:=Kr (Za HO)
   by_cases hlt:j<m
   ·have hjT:j<T.length:=by rw[Za HZT];exact hlt
    obtain⟨tb,tof,rfl,_,htc⟩:=(Za HTX).2 (by omega)
    have tcell:=htc j hjT
    have L2:Hid (L++[Zz T[j]]=(T.take (j+1)).map Zz):=by show _=_;rw[Zcm T j hjT,Za HL]
    have hck:=(Za HCT) T[j] (List.getElem_mem hjT)
    obtain⟨t,ht⟩:∃ t,T[j]=t:=⟨_,rfl⟩
    rw[ht] at tcell L2 hck
    obtain⟨t1,⟨ai,ni,ci,t2,hIn,sIn⟩,ao,no2,co,t3,hOut,sOut⟩:=tcell
    obtain⟨th,ti,tout⟩:=t
    simp only at t1 t2 t3 hIn hOut
    have u1:=Zc (Za HB) t1
    have u2:=Zc (Za HB) t2
    have u3:=Zc (Za HB) t3
    have ul:=World.block_lt_of_cell? _ _ u1
    obtain⟨W1,hW1⟩:∃ W1,W1=wr.alloc (.cells #[.int .i64 th,.slice ai ni ci,.slice ao no2 co] 52):=⟨_,rfl⟩
    have hbW1:Below wr.heap.size wr W1:=by rw[hW1];exact Zg _ _
    have hbXW:=Ze (Za HB) hbW1
    have TX:=Zb (M6 th ai ao ni ci no2 co ti tout W1 ((Za HEX).later hbXW) (hIn.later hbXW) (hOut.later hbXW) hck)
    have HBW:=Zb hbXW
    have HO1:=Zb ((Gr.of (S:=fun _=>False) hbW1).own (Za HO) (fun _ _ q=>q))
    obtain⟨s,hs⟩:∃ s,Zz (th,ti,tout)=s:=⟨_,rfl⟩
    rw[hs] at TX L2
    clear htc t1 t2 t3 hIn hOut hbW1 hbXW hck ht hs
    go_wp2_with fail
    rw[←hW1]
    clear hW1
    (try go_wp2_with fail)
    refine (Za TX).mono ?_
    rintro e W2 ⟨rfl,hb2⟩
    have HB2:=Zb (Ze (Za HBW) hb2)
    have HO2:=(Gr.of (S:=fun _=>False) hb2).own (Za HO1) (fun _ _ q=>q)
    have hbn:=Zg W2 (.cells #[.string s] 9)
    have OWN5:=Zb ((Gr.of (S:=fun _=>False) hbn).own HO2 (fun _ _ q=>q))
    have NEWS:=Zb (World.news_of_block (heap_alloc_new W2 (.cells #[.string s] 9)))
    have HB6:=Zb (Ze (Za HB2) hbn)
    clear hbn hb2 HO2 TX u1 u2 u3 ul
    go_wp2_with (at_builtin;refine wpList_append_lies _ rfl _ _ 22 rfl X.heap.size 9 i0 (.string ⟨#[]⟩) 1 16 Tryz.underlying22 hi hz0' hz1 hz2 rfl (by decide) _ _ _ rfl (Za OWN5) ⟨W2.heap.size,0,none⟩ 1 1 [.string s] rfl rfl (Za NEWS) (fun u hu=>by simp at hu;subst hu;rfl) (by decide) (by have:=Za HLl;unfold maxLen;omega) (by have:=Za HLl;omega) (Za HB6).size _ rfl ?_;intro g7 cap7 w7 hown7 hgrow7 hor7 _)
    have OWN7:Hid (w7.ownsRow X.heap.size 9 1 (.slice (some ⟨g7,0,none⟩) (L.length+1) cap7) (L++[s]).length ((L++[s]).map Value.string)):=by
     show World.ownsRow _ _ _ _ _ _ _
     rw[List.length_append,List.map_append]
     exact hown7
    have HB7:=Zb ((Za HB6).grown hgrow7 (Za HB6).size (fun k hk=>((Za OWN5).lt k hk).1))
    clear hown7 hgrow7 hor7
    go_wp2
    go_roundw
    case rel=>exact⟨j+1,L++[s],by omega,by go_num,L2,OWN7,HB7⟩
    case measure=>simp[intOf];omega
   ·obtain rfl:j=m:=by omega
    have hLT:L=T.map Zz:=by rw[Za HL,List.take_of_length_le (by rw[Za HZT];exact Nat.le_refl _)]
    obtain⟨⟨M',N',x'⟩,hgo⟩:∃ r,Bk.nmGo K [] (Xl (p,h,k,n,T))=r:=⟨_,rfl⟩
    have b5:=((Za HB).block _ (lt_of_block (Za HXB))).trans (Za HXB)
    have y0:=Zd b5 0 _ rfl
    have y1:=Zd b5 1 _ rfl
    have y2:=Zd b5 2 _ rfl
    have y3:=Zd b5 3 _ rfl
    have y4:=Zd b5 4 _ rfl
    have yl:=lt_of_block b5
    have BT:=Zb (A7 p h k n a j c T wr ((Za HEX).later (Za HB)) ((Za HTX).later (Za HB)) (Za HZ))
    obtain⟨s,hs⟩:∃ s,Ui (p,h,k,n,T)=s:=⟨_,rfl⟩
    rw[hs] at BT
    have HGO:=Zb hgo
    have HTO:Hid (L++[s]=Xl (p,h,k,n,T)):=by show _=_;rw[hLT,←hs];rfl
    have hml:Hid ((L++[s]).length=j+1):=by show _=_;rw[List.length_append,Za HLl];rfl
    clear hgo hs b5 hLT hlt
    go_wp2_with fail
    refine (Za BT).mono ?_
    rintro e W2 ⟨rfl,hb2⟩
    have HB2:=Zb (Ze (Za HB) hb2)
    have HO2:=(Gr.of (S:=fun _=>False) hb2).own (Za HO) (fun _ _ q=>q)
    have hbn:=Zg W2 (.cells #[.string s] 9)
    have OWN5:=Zb ((Gr.of (S:=fun _=>False) hbn).own HO2 (fun _ _ q=>q))
    have NEWS:=Zb (World.news_of_block (heap_alloc_new W2 (.cells #[.string s] 9)))
    have HB6:=Zb (Ze (Za HB2) hbn)
    clear hbn hb2 HO2 BT y0 y1 y2 y3 y4 yl
    go_wp2_with (at_builtin;refine wpList_append_lies _ rfl _ _ 22 rfl X.heap.size 9 i0 (.string ⟨#[]⟩) 1 16 Tryz.underlying22 hi hz0' hz1 hz2 rfl (by decide) _ _ _ rfl (Za OWN5) ⟨W2.heap.size,0,none⟩ 1 1 [.string s] rfl rfl (Za NEWS) (fun u hu=>by simp at hu;subst hu;rfl) (by decide) (by have:=Za HLl;unfold maxLen;omega) (by have:=Za HLl;omega) (Za HB6).size _ rfl ?_;intro g7 cap7 w7 hown7 hgrow7 hor7 _)
    have hTX7:Bk.TextsAt w7 (some ⟨g7,0,none⟩) (L.length+1) (Xl (p,h,k,n,T)):=by
     rw[←Za HTO]
     refine Bk.texts_own (base:=X.heap.size) (c:=cap7) ?_
     rw[List.map_append]
     exact hown7
    have HB7:=Zb ((Za HB6).grown hgrow7 (Za HB6).size (fun k hk=>((Za OWN5).lt k hk).1))
    have NA:=Zb (Bk.namedAll_is ka (some ⟨g7,0,none⟩) kn kc (L.length+1) cap7 K (Xl (p,h,k,n,T)) M' N' x' w7 hR ((Za HKX).later (Za HB7)) sK hTX7 (by have:=Za HLl;omega) (Za HGO))
    clear hown7 hgrow7 hor7 hTX7
    go_wp2_with fail
    refine (Za NA).mono ?_
    rintro e w8 ⟨⟨a',n',c',a2,n2,c2,rfl,hT8,s8,hI8,hn2,hc2⟩,hb8⟩
    have HB8:=Zb (Ze (Za HBX) (Ze (Za HB7) hb8))
    have hxx:=Za HX
    unfold Qt at hxx
    rw[Za HZ,if_neg (by decide),Zdu hR,Za HGO] at hxx
    by_cases hx0:x'=0
    ·subst hx0
     rw[if_neg (fun q=>q rfl)] at hxx
     have hNl:N'.length=j+1:=by
      have e:=Kz _ _ _ _ _ (Za HGO)
      rw[e]
      show 0+(Xl (p,h,k,n,T)).length=j+1
      rw[←Za HTO,Za hml]
      omega
     have hn2e:n2=j+1:=by rw[←hI8.1];exact hNl
     subst hn2e
     obtain⟨ib,io,rfl,hic⟩:=hI8.2 (by omega)
     have hlast:=hic j (by omega)
     obtain⟨v,hv⟩:∃ v,N'[j]'(by omega)=v:=⟨_,rfl⟩
     rw[hv] at hlast
     have ill:=World.block_lt_of_cell? _ _ hlast
     have HEND:Hid (∀ W,Below w8.heap.size w8 W→RnR w W M nm N x (.returned (.tuple #[.slice a' n' c',.int .i64 v,.slice (some ⟨ib,io,none⟩) j c2,.int .i64 0]))):=by
      intro W hbW
      have hxl:(M',N'.getD j 0,N'.take j,(0:Int))=(M,nm,N,x):=by
       rw[←hxx]
       show _=(M',N'.getD T.length 0,N'.take T.length,(0:Int))
       rw[Za HZT]
      obtain⟨e1,e2⟩:=Prod.mk.inj hxl
      obtain⟨e2,e3⟩:=Prod.mk.inj e2
      obtain⟨e3,e4⟩:=Prod.mk.inj e3
      rw[←e1,←e2,←e3,←e4]
      refine⟨a',n',c',some ⟨ib,io,none⟩,j,c2,?_,hT8.later hbW,s8,⟨by rw[List.length_take];omega,fun _=>⟨ib,io,rfl,fun i hi=>?_⟩⟩,Ze (Za HB8) hbW⟩
      ·have:N'.getD j 0=v:=by rw[←hv];simp[List.getD,hNl]
       rw[this]
      ·rw[List.getElem_take]
       exact Zc hbW (hic i (by rw[List.length_take] at hi;omega))
     have hjc:j≤c2:=by omega
     have hwj:IntKind.i64.wrap (((j+1:Nat):Int) - 1)=(j:Int):=by rw[IntKind.wrap_i64];omega
     have hj1:((j+1:Nat):Int) - 1=(j:Int):=by omega
     clear hT8 s8 hI8 hic hxx hb8 NA hNl hv
     go_wp2_with fail
     go_quiet (fail)
     go_wp2
     (try simp only[Exit.inBlock,Exit.then])
     refine bodyPost_ret (v:=.tuple #[.slice a' n' c',.int .i64 v,.slice (some ⟨ib,io,none⟩) j c2,.int .i64 0]) ?_ rfl ((Za HEND) _ ⟨rfl,rfl,rfl,Nat.le_refl _,fun _ _=>rfl⟩)
     simp[results,Tryz.f85,go_sem]
    ·rw[if_pos hx0] at hxx
     have g:(x' != 0)=true:=by simp[hx0]
     have HF2:Hid (RnR w w8 M nm N x (.returned (.tuple #[.slice none 0 0,.int .i64 0,.slice none 0 0,.int .i64 x']))):=by
      obtain⟨e1,e2⟩:=Prod.mk.inj hxx
      obtain⟨e2,e3⟩:=Prod.mk.inj e2
      obtain⟨e3,e4⟩:=Prod.mk.inj e3
      rw[←e1,←e2,←e3,←e4]
      exact Zgf (Za HB8)
     clear hT8 s8 hI8 hxx hb8 NA
     go_wp2
     (try simp only[Exit.inBlock,Exit.then])
     refine bodyPost_ret (v:=.tuple #[.slice none 0 0,.int .i64 0,.slice none 0 0,.int .i64 x']) ?_ rfl (Za HF2)
     simp[results,Tryz.f85,go_sem]
 ·have HF:Hid ((M,nm,N,x)=(([]:List ByteArray),(0:Int),([]:List Int),z)):=by
   show _=_
   rw[←hx]
   unfold Qt
   rw[hz,if_pos hz0]
  have g:(z != 0)=true:=by simp[hz0]
  clear hE hK hT hbX hXb hx hz
  go_enter Tryz.func85,Tryz.ntmps85
  go_wp2_with fail
  rw[←hX]
  clear hX
  (try go_wp2_with fail)
  refine (Za CK).mono ?_
  rintro e w1 ⟨rfl,hb1⟩
  have HB1:=Zb (Ze (Za HBX) hb1)
  have HF2:Hid (RnR w w1 M nm N x (.returned (.tuple #[.slice none 0 0,.int .i64 0,.slice none 0 0,.int .i64 z]))):=by
   obtain⟨e1,e2⟩:=Prod.mk.inj (Za HF)
   obtain⟨e2,e3⟩:=Prod.mk.inj e2
   obtain⟨e3,e4⟩:=Prod.mk.inj e3
   rw[e1,e2,e3,e4]
   exact Zgf (Za HB1)
  clear hb1 CK
  go_wp2
  (try simp only[Exit.inBlock,Exit.then])
  refine bodyPost_ret (v:=.tuple #[.slice none 0 0,.int .i64 0,.slice none 0 0,.int .i64 z]) ?_ rfl (Za HF2)
  simp[results,Tryz.f85,go_sem]
end Go.Proofs.YtpikejjiignchaaGreatDoor
