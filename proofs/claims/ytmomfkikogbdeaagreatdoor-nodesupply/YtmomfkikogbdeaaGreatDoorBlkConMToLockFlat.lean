/- What Connect does, as a plain function; a row of undoings that a call fills; make as a step of a region that draws. -/
import Derived.Test.YtmomfkikogbdeaaGreatDoorBlkNamesBToBlkReward
import Derived.Test.YtmomfkikogbdeaaGreatDoorCoinCopyToBlkCovers
import Derived.Test.YtmomfkikogbdeaaGreatDoorCoinApplyToCoinApplyB
import Derived.Deep.RegionLaw
import Derived.Test.YtmomfkikogbdeaaGreatDoorLockMathToTxSum
namespace Go.Proofs.YtmomfkikogbdeaaGreatDoor
open Go.RowKit
theorem Dn{P:Program}{w:World}{ops:Array Oper}{o:Oper}{a:Act}{K:Act→World→Prop}{Q:Exit→Act→World→Prop}{E:Prop}
  (hg:o.guard=none) (l c:Operand) (t:TypeId) (hop:o.op=Op.makeSlice t l c)
  (base:Nat) (e:TypeId) (i:TypeInfo) (z:Value) (size:Nat) (h1:P.underlying t=some (.slice e)) (h2:P.info? e=some i) (h3:i.zero=some z) (h4:i.size=size)
  (kl kc:IntKind) (L C:Int) (n:Nat) (hl:a.eval l = .int kl L) (hc:a.eval c = .int kc C) (hL:L=(n:Int)) (hC:C=(n:Int)) (b2:i.bytes*n≤281474976710656) (b3:n≤maxLen) (b4:base≤w.heap.size) (H:Nat) (hH:w.heap.size=H)
  (hK:∀ w',w'.ownsRow base e size (.slice (some ⟨H,0,none⟩) n n) n (madeCells z.cells (n*size)).toList→w.grownBy w' none→K (a.put o.dst (.slice (some ⟨H,0,none⟩) n n)) w') :
  if Region.wanted o (yielded ops a.tmps)=true then Oper.wp P o a w K Q else E:=by
 rw[if_pos (by simp[Region.wanted,hg])]
 subst hH
 obtain⟨w',hrun,r1,r2⟩:=run_make_full (P:=P) w base t e i z size h1 h2 h3 h4 kl kc n b2 b3 b4
 subst hL
 subst hC
 unfold Oper.wp
 simp[execOp,hop,hl,hc,hrun,Result.andThen]
 exact hK w' r1 r2
def Vz:TxD:=(0,[],[])
def Xj(h r:Int)(T:List TxD)(N:List Int):Nat→Nat→List Zd→List (List Zd)→Int×List Zd×List (List Zd)
 | 0,_,C,S=>(0,C,S)
 | q+1,k,C,S=>
  if (k+1) % T.length=0∧Y4 r T S T.length<0 then (9,[],[])
  else if (apD C (T.getD ((k+1) % T.length) Vz) (N.getD ((k+1) % T.length) 0) h).1≠0 then ((apD C (T.getD ((k+1) % T.length) Vz) (N.getD ((k+1) % T.length) 0) h).1,[],[])
  else Xj h r T N q (k+1) (apD C (T.getD ((k+1) % T.length) Vz) (N.getD ((k+1) % T.length) 0) h).2.1 (S.set ((k+1) % T.length) (apD C (T.getD ((k+1) % T.length) Vz) (N.getD ((k+1) % T.length) 0) h).2.2)
def Uh(K:List ByteArray)(C:List Zd)(b:Zg):Int×List Zd×List (List Zd):=
 if (nfD K C b).2≠0 then ((nfD K C b).2,[],[]) else Xj b.2.1 (rwD b.2.1).1 b.2.2.2.2 (nfD K C b).1 b.2.2.2.2.length 0 C (List.replicate b.2.2.2.2.length [])
theorem Lj{h r:Int}{T:List TxD}{N:List Int}{q k i:Nat}{C:List Zd}{S:List (List Zd)}(hi:(k+1) % T.length=i){t:TxD}(ht:T.getD i Vz=t){nm:Int}(hn:N.getD i 0=nm){y:Int}{M:List Zd}{s:List Zd}(ha:apD C t nm h=(y,M,s)) :
  Xj h r T N (q+1) k C S=if i=0∧Y4 r T S T.length<0 then (9,[],[]) else if y≠0 then (y,[],[]) else Xj h r T N q (k+1) M (S.set i s):=by
 rw[Xj,hi,ht,hn,ha]
theorem Pj(h:Int):∀ (I:List InD) (S L S' M:List Zd),Zk h I S L=(0,S',M)→S'.length=S.length+I.length∧∀ c∈S',c∈S∨c∈L
 | [],S,L,S',M,e=>by
  simp only[Zk,Prod.mk.injEq] at e
  obtain⟨_,rfl,rfl⟩:=e
  exact⟨by simp,fun c hc=>.inl hc⟩
 | x :: I,S,L,S',M,e=>by
  rw[Zk] at e
  split at e
  ·simp at e
  ·next c L' hT=>
   split at e
   ·simp at e
   ·split at e
    ·simp at e
    ·obtain⟨h1,h2⟩:=Pj h I (S++[c]) L' S' M e
     refine⟨by rw[h1];simp;omega,fun z hz=>?_⟩
     obtain⟨q1,_,q2⟩:=U9 hT
     rcases h2 z hz with q|q
     ·rcases List.mem_append.1 q with q|q
      ·exact .inl q
      ·rw[List.mem_singleton.1 q];exact .inr q1
     ·rw[q2] at q
      exact .inr (List.mem_filter.1 q).1
theorem N7{L:List Zd}{t:TxD}{name h:Int}{M S:List Zd}(e:apD L t name h=(0,M,S)):S.length≤6∧∀ c∈S,0≤cv c∧cv c≤1000000000:=by
 unfold apD at e
 split at e
 ·next q=>simp at e;exact absurd e.1 q
 ·next q=>
  split at e
  ·next q=>simp at e;exact absurd e.1 q
  ·next q2=>
   split at e
   ·next q=>simp at e;exact absurd e.1 q
   ·split at e
    ·next q=>simp at e;exact absurd e.1 q
    ·split at e
     ·next q=>simp at e;exact absurd e.1 q
     ·have q:=Decidable.not_not.1 q
      have q2:=Decidable.not_not.1 q2
      obtain⟨hR,hT,_⟩:=Y2 q
      simp only[Prod.mk.injEq] at e
      obtain⟨_,_,rfl⟩:=e
      obtain⟨x,S',M',hs⟩:∃ x S' M',Zk h t.2.1 [] L=(x,S',M'):=⟨_,_,_,rfl⟩
      rw[hs] at q2 ⊢
      simp only at q2
      subst q2
      obtain⟨h1,h2⟩:=Pj h t.2.1 [] L S' M' hs
      have h6:=(W3 hT).1
      refine⟨by simp at h1;simp only;omega,fun c hc=>?_⟩
      rcases h2 c hc with q|q
      ·cases q
      ·have:=Z9 (hR.one c q)
       omega
theorem Ab{w:World}{b:Nat}{X:List Value}{t:TypeId}(h:w.heap[b]? = some (.cells X.toArray t (0,0)))(j:Nat)(u:Value):(w.setCell ⟨b,j,none⟩ u).heap[b]? = some (.cells (X.set j u).toArray t (0,0)):=by
 rw[setCell_eq_setRow w b j X.toArray t (0,0) u h]
 have:=setRow_heap w b _ (X.toArray.setIfInBounds j u) t _ h
 simpa using this
def UsOk(ty:TypeId)(g m:Nat)(w:World):Prop:=∃ cs:List Value,w.heap[g]? = some (.cells cs.toArray ty (0,0))∧cs.length=m∧∀ v∈cs,∃ a n c,v = .slice a n c
def UsAt(ty:TypeId)(g:Nat)(S:List (List Zd))(w:World):Prop:=∃ cs:List Value,w.heap[g]? = some (.cells cs.toArray ty (0,0))∧cs.length=S.length∧∀ i (h:i<S.length),∃ a n c,cs[i]? = some (.slice a n c)∧CoinsAt w a n S[i]∧SlOk a n c
section
variable {ty : TypeId} {g m : Nat} {w w' : World} {S : List (List Zd)}
theorem UsAt.ok(h:UsAt ty g S w):UsOk ty g S.length w:=by
 obtain⟨cs,h1,h2,h3⟩:=h
 refine⟨cs,h1,h2,fun v hv=>?_⟩
 obtain⟨i,hi,rfl⟩:=List.getElem_of_mem hv
 obtain⟨a,n,c,h4,_⟩:=h3 i (by omega)
 rw[List.getElem?_eq_getElem hi] at h4
 exact⟨a,n,c,Option.some.inj h4⟩
theorem UsOk.lt(h:UsOk ty g m w):g<w.heap.size:=by obtain⟨cs,h1,_⟩:=h;exact lt_of_block h1
theorem UsOk.later(h:UsOk ty g m w)(hb:Below w.heap.size w w'):UsOk ty g m w':=by
 obtain⟨cs,h1,h2,h3⟩:=h
 exact⟨cs,(hb.block g (lt_of_block h1)).trans h1,h2,h3⟩
theorem UsOk.cell(h:UsOk ty g m w){i:Nat}(hi:i<m):∃ z,w.cell? ⟨g,i,none⟩=some z:=by
 obtain⟨cs,h1,h2,_⟩:=h
 exact⟨cs[i]'(by omega),Za h1 i _ (List.getElem?_eq_getElem (by omega))⟩
theorem UsOk.free(h:UsOk ty g m w)(i:Nat):w.frozen? ⟨g,i,none⟩=false:=by
 obtain⟨cs,h1,_⟩:=h
 exact Zb h1 i
theorem UsOk.put(h:UsOk ty g m w)(i:Nat)(a:Option Addr)(n c:Nat):UsOk ty g m (w.setCell ⟨g,i,none⟩ (.slice a n c)):=by
 obtain⟨cs,h1,h2,h3⟩:=h
 refine⟨cs.set i (.slice a n c),Ab h1 i _,by simpa using h2,fun v hv=>?_⟩
 rcases List.mem_or_eq_of_mem_set hv with q|rfl
 ·exact h3 v q
 ·exact⟨a,n,c,rfl⟩
theorem UsOk.other(h:UsOk ty g m w){b o:Nat}{k:IntKind}{x:Int}(hc:w.cell? ⟨b,o,none⟩=some (.int k x)):b≠g:=by
 rintro rfl
 obtain⟨cs,h1,_,h3⟩:=h
 have:cs[o]? = some (.int k x):=by
  rw[cell_of_row w b o cs.toArray ty (0,0) h1] at hc
  simpa using hc
 obtain⟨a,n,c,e⟩:=h3 _ (List.mem_of_getElem? this)
 cases e
theorem Zbu{a:Option Addr}{n:Nat}{l:List (Int×Int)}(h:OpsAt w a n l)(ho:UsOk ty g m w)(hg:Gr w w' (fun q=>q=g)):OpsAt w' a n l:=by
 refine⟨h.1,fun h0=>?_⟩
 obtain⟨b,off,rfl,hc⟩:=h.2 h0
 refine⟨b,off,rfl,fun i hi=>?_⟩
 obtain⟨c0,c1⟩:=hc i hi
 have hb:=hg.block b (World.block_lt_of_cell? _ _ c0) (ho.other c0)
 exact⟨(World.cell?_of_block (a:=⟨b,off+i*2,none⟩) hb).trans c0,(World.cell?_of_block (a:=⟨b,off+i*2+1,none⟩) hb).trans c1⟩
theorem Vl{a:Option Addr}{n:Nat}{L:List Zd}(h:CoinsAt w a n L)(ho:UsOk ty g m w)(hg:Gr w w' (fun q=>q=g)):CoinsAt w' a n L:=by
 refine⟨h.1,fun h0=>?_⟩
 obtain⟨b,off,rfl,hl,hc⟩:=h.2 h0
 refine⟨b,off,rfl,Nat.lt_of_lt_of_le hl hg.size,fun i hi=>?_⟩
 obtain⟨c0,c1,c2,⟨la,ln,lc,c3,h5,h6⟩,c4,c5⟩:=hc i hi
 have hb:=hg.block b hl (ho.other c0)
 have k:=fun (o:Nat)=>World.cell?_of_block (a:=⟨b,o,none⟩) hb
 exact⟨(k _).trans c0,(k _).trans c1,(k _).trans c2,⟨la,ln,lc,(k _).trans c3,Zbu h5 ho hg,h6⟩,(k _).trans c4,(k _).trans c5⟩
theorem UsAt.later(h:UsAt ty g S w)(hb:Below w.heap.size w w'):UsAt ty g S w':=by
 obtain⟨cs,h1,h2,h3⟩:=h
 refine⟨cs,(hb.block g (lt_of_block h1)).trans h1,h2,fun i hi=>?_⟩
 obtain⟨a,n,c,q1,q2,q3⟩:=h3 i hi
 exact⟨a,n,c,q1,q2.later hb,q3⟩
theorem UsAt.put(h:UsAt ty g S w)(i:Nat){a:Option Addr}{n c:Nat}{s:List Zd}(hs:CoinsAt w a n s)(sl:SlOk a n c):UsAt ty g (S.set i s) (w.setCell ⟨g,i,none⟩ (.slice a n c)):=by
 have ho:=h.ok
 have hg:=(Gr.refl w (fun q=>q=g)).one g i (.inl rfl) (.slice a n c)
 obtain⟨cs,h1,h2,h3⟩:=h
 refine⟨cs.set i (.slice a n c),Ab h1 i _,by simpa using h2,fun j hj=>?_⟩
 have hj':j<S.length:=by simpa using hj
 by_cases e:i=j
 ·subst e
  refine⟨a,n,c,by rw[List.getElem?_set_self (by omega)],?_,sl⟩
  rw[List.getElem_set_self]
  exact Vl hs ho hg
 ·obtain⟨a',n',c',q1,q2,q3⟩:=h3 j hj'
  refine⟨a',n',c',by rw[List.getElem?_set_ne e];exact q1,?_,q3⟩
  rw[List.getElem_set_ne e]
  exact Vl q2 ho hg
theorem UsAt.undo(h:UsAt ty g S w)(i:Nat)(hi:i<S.length):UndoAt w g (0+i) S[i]:=by
 obtain⟨cs,h1,h2,h3⟩:=h
 obtain⟨a,n,c,q1,q2,q3⟩:=h3 i hi
 exact⟨a,n,c,by rw[Nat.zero_add];exact Za h1 i _ q1,q2,q3⟩
theorem Zbg{base:Nat}(h:w.ownsRow base ty 1 (.slice (some ⟨g,0,none⟩) m m) m (List.replicate m (.slice none 0 0))):UsAt ty g (List.replicate m []) w:=by
 rcases h.2 with ⟨e,_⟩|⟨g',cap',cur,e,hg,hh,h1,h2,h3,h4⟩
 ·cases e
 ·cases e
  refine⟨cur.toList,by simpa using hh,?_,fun i hi=>?_⟩
  ·simp;omega
  ·have hi':i<m:=by simpa using hi
   refine⟨none,0,0,?_,?_,Zo⟩
   ·have h5:(cur.toList.take (m*1))[i]? = (List.replicate m (Value.slice none 0 0))[i]?:=by rw[h4]
    rw[List.getElem?_take,if_pos (by omega)] at h5
    rw[h5]
    simp[hi']
   ·rw[List.getElem_replicate]
    exact⟨rfl,fun h=>absurd h (by omega)⟩
end
def UndosAt(w:World)(a:Option Addr)(n:Nat)(S:List (List Zd)):Prop:=S.length=n∧(0<n→∃ b off,a=some ⟨b,off,none⟩∧b<w.heap.size∧∀ i (h:i<S.length),UndoAt w b (off+i) S[i])
theorem UndosAt.later{w w':World}{a:Option Addr}{n:Nat}{S:List (List Zd)}(h:UndosAt w a n S)(hb:Below w.heap.size w w'):UndosAt w' a n S:=by
 refine⟨h.1,fun h0=>?_⟩
 obtain⟨b,off,e,hl,hc⟩:=h.2 h0
 exact⟨b,off,e,Nat.lt_of_lt_of_le hl hb.size,fun i hi=>(hc i hi).kept hb⟩
theorem UsAt.undos{ty:TypeId}{g:Nat}{S:List (List Zd)}{w:World}(h:UsAt ty g S w):UndosAt w (some ⟨g,0,none⟩) S.length S:=⟨rfl,fun _=>⟨g,0,rfl,h.ok.lt,fun i hi=>h.undo i hi⟩⟩
def Zct(w w':World)(x:Int)(C:List Zd)(S:List (List Zd))(e:Ending):Prop:=
 ∃ a n c ua un uc,e = .returned (.tuple #[.slice a n c,.slice ua un uc,.int .i64 x])∧CoinsAt w' a n C∧SlOk a n c∧UndosAt w' ua un S∧SlOk ua un uc∧Below w.heap.size w w'∧∀ ad,ua=some ad→w.heap.size≤ad.block
theorem Rp{w w':World}{x y:Int}{C:List Zd}{S:List (List Zd)}(h:((y:Int),([]:List Zd),([]:List (List Zd)))=(x,C,S))(hb:Below w.heap.size w w'):Zct w w' x C S (.returned (.tuple #[.slice none 0 0,.slice none 0 0,.int .i64 y])):=by
 injection h with h1 h2
 injection h2 with h2 h3
 subst h1 h2 h3
 exact⟨none,0,0,none,0,0,rfl,⟨rfl,fun h=>absurd h (by omega)⟩,Zo,⟨rfl,fun h=>absurd h (by omega)⟩,Zo,hb,fun ad e=>by cases e⟩
def flat:List (Int×Int)→List Value
 | []=>[]
 | o :: r=>.int .i64 o.1 :: .int .i64 o.2 :: flat r
theorem flat_len:∀ l:List (Int×Int),(flat l).length=l.length*2
 | []=>rfl
 | _ :: r=>by simp only[flat,List.length_cons,flat_len r];omega
theorem flat_at:∀ (l:List (Int×Int)) (i:Nat),i<l.length→(flat l)[i*2]? = some (.int .i64 (l.getD i (0,0)).1)∧(flat l)[i*2+1]? = some (.int .i64 (l.getD i (0,0)).2)
 | [],i,h=>absurd h (by simp)
 | o :: r,0,_=>⟨rfl,rfl⟩
 | o :: r,i+1,h=>by
  have:=flat_at r i (by simpa using h)
  have e:(i+1)*2=i*2+2:=by omega
  rw[e]
  exact this
theorem flat_one:∀ (l:List (Int×Int)) (u:Value),u∈flat l→u.oneCell'=true
 | [],_,h=>by cases h
 | o :: r,u,h=>by
  simp only[flat,List.mem_cons] at h
  rcases h with rfl|rfl|h
  ·rfl
  ·rfl
  ·exact flat_one r u h
theorem OpsAt.flat{w:World}{x:Addr}{len:Nat}{l:List (Int×Int)}(h:OpsAt w (some x) len l)(j:Nat)(u:Value)(hj:(flat l)[j]? = some u):w.cell? (x.add j)=some u:=by
 have hjl:j<(YtmomfkikogbdeaaGreatDoor.flat l).length:=by
  rcases Nat.lt_or_ge j (YtmomfkikogbdeaaGreatDoor.flat l).length with h|h
  ·exact h
  ·rw[List.getElem?_eq_none h] at hj;cases hj
 rw[flat_len] at hjl
 have hz:=h.1
 obtain⟨b,off,hx,hc⟩:=h.2 (by omega)
 cases hx
 have hadd:(⟨b,off,none⟩:Addr).add j=⟨b,off+j,none⟩:=by unfold Addr.add;split <;> simp_all
 rw[hadd]
 obtain⟨i,hi|hi⟩:∃ i,j=i*2∨j=i*2+1:=⟨j / 2,by omega⟩
 ·subst hi
  have f:=(flat_at l i (by omega)).1
  rw[f] at hj
  rw[(hc i (by omega)).1];exact hj
 ·subst hi
  have f:=(flat_at l i (by omega)).2
  rw[f] at hj
  rw[←Nat.add_assoc,(hc i (by omega)).2];exact hj
theorem own_ge{w:World}{base:Nat}{e:TypeId}{size:Nat}{v:Value}{n:Nat}{xs:List Value}(h:w.ownsRow base e size v n xs)(k:Nat)(hk:v.ownBlock=some k):base≤k:=by
 rcases h.2 with ⟨rfl,_⟩|⟨g,cap,cur,rfl,hg,_⟩
 ·cases hk
 ·cases hk;exact hg
end Go.Proofs.YtmomfkikogbdeaaGreatDoor
