import Derived.Test.YtpikejjiignchaaGreatDoorG34
import Derived.Test.YtpikejjiignchaaGreatDoorG29
import Derived.Test.YtpikejjiignchaaGreatDoorG30
namespace Go.Proofs.YtpikejjiignchaaGreatDoor
open Go.RowKit
def rwN:Nat→Nat
 | 0=>64
 | n+1=>rwN n / 2
theorem T6:∀ n,rwN n≤64
 | 0=>Nat.le_refl _
 | n+1=>by
  have:=T6 n
  unfold rwN
  omega
def rwD(h:Int):Int×Int:=if (decide (1≤h) && decide (h≤1000))=true then ((rwN ((h - 1).toNat / 8):Nat),0) else (0,3)
set_option maxRecDepth 10000 in
set_option maxHeartbeats 3200000 in
theorem Ek(h r x:Int)(w:World)(hx:rwD h=(r,x)) :
  Calls Tryz.prog 66 #[.int .i64 h] w fun e w'=>e = .returned (.tuple #[.int .i64 r,.int .i64 x])∧Below w.heap.size w w':=by
 unfold rwD at hx
 cases q:(decide ((1:Int)≤h) && decide (h≤1000)) with
 | false=>
  rw[q,if_neg (by decide)] at hx
  injection hx with e1 e2
  subst e1 e2
  have CC:=Zb (Yz h 1 1000 false w q)
  clear q
  go_enter Tryz.func66,Tryz.ntmps66
  go_wp2_with fail
  refine (Za CC).mono ?_
  rintro e w1 ⟨rfl,hb1⟩
  have HB:=Zb hb1
  clear hb1
  go_wp2
  go_ret2
  exact⟨rfl,Za HB⟩
 | true=>
  rw[q,if_pos rfl] at hx
  injection hx with e1 e2
  subst e2
  have CC:=Zb (Yz h 1 1000 true w q)
  rw[Bool.and_eq_true,decide_eq_true_eq,decide_eq_true_eq] at q
  obtain⟨k,rfl⟩:∃ k:Nat,h=(k:Int)+1:=⟨(h - 1).toNat,by omega⟩
  have hk:k<1000:=by omega
  rw[show (((k:Int)+1 - 1).toNat)=k by omega] at e1
  obtain⟨n,hn⟩:∃ n,k / 8=n:=⟨_,rfl⟩
  have hq:((k:Int)).tdiv 8=(n:Int):=by rw[←hn];rfl
  have hn2:n≤125:=by omega
  rw[hn] at e1
  have HR:=Zb e1
  clear q e1 hn
  go_enter Tryz.func66,Tryz.ntmps66
  go_wp2_with fail
  refine (Za CC).mono ?_
  rintro e w1 ⟨rfl,hb1⟩
  have HB:=Zb hb1
  clear hb1
  go_wp2
  go_loopw [4,11] (fun v i wr=>∃ j:Nat,j≤n∧v = .int .i64 (rwN j:Nat)∧i = .int .i64 j∧Hid (Below w.heap.size w wr)) (fun _ i _=>n - (intOf i).toNat)
  case atStart=>exact⟨0,Nat.zero_le _,rfl,rfl,HB⟩
  case round=>
   obtain⟨j,hj,rfl,rfl,HBr⟩:=hrel
   have hle:=T6 j
   by_cases hlt:j<n
   ·have hd:((rwN j:Nat):Int).tdiv 2=((rwN (j+1):Nat):Int):=rfl
    have hle2:=T6 (j+1)
    obtain⟨a,ha⟩:∃ a,rwN j=a:=⟨_,rfl⟩
    obtain⟨b,hb⟩:∃ b,rwN (j+1)=b:=⟨_,rfl⟩
    rw[ha,hb] at hd
    rw[ha] at hle
    rw[hb] at hle2
    rw[ha]
    have HBB:=Zb hb
    clear ha hb
    go_wp2
    go_roundw
    case rel=>exact⟨j+1,by omega,by rw[Za HBB],by go_num,HBr⟩
    case measure=>simp[intOf];omega
   ·have e:j=n:=by omega
    subst e
    go_wp2
    go_ret2
    exact⟨by rw[Za HR];rfl,Za HBr⟩
def UndoAt(w:World)(b o:Nat)(s:List Zg):Prop:=∃ a n c,w.cell? ⟨b,o,none⟩=some (.slice a n c)∧CoinsAt w a n s∧SlOk a n c
theorem UndoAt.kept{w w':World}{b o:Nat}{s:List Zg}(hb:Below w.heap.size w w')(h:UndoAt w b o s):UndoAt w' b o s:=by
 obtain⟨a,n,c,h1,h2,h3⟩:=h
 exact⟨a,n,c,Zc hb h1,h2.later hb,h3⟩
theorem Lb(h:Int):∀ (I:List InD) (S L S' M:List Zg),Zm h I S L=(0,S',M)→S'.length=S.length+I.length∧∀ c∈S',c∈S∨c∈L
 | [],S,L,S',M,e=>by
  simp only[Zm,Prod.mk.injEq] at e
  obtain⟨_,rfl,rfl⟩:=e
  exact⟨by simp,fun c hc=>.inl hc⟩
 | x :: I,S,L,S',M,e=>by
  rw[Zm] at e
  split at e
  ·simp at e
  ·next c L' hT=>
   split at e
   ·simp at e
   ·split at e
    ·simp at e
    ·obtain⟨h1,h2⟩:=Lb h I (S++[c]) L' S' M e
     refine⟨by rw[h1];simp;omega,fun z hz=>?_⟩
     obtain⟨q1,_,q2⟩:=Rc hT
     rcases h2 z hz with q|q
     ·rcases List.mem_append.1 q with q|q
      ·exact .inl q
      ·rw[List.mem_singleton.1 q];exact .inr q1
     ·rw[q2] at q
      exact .inr (List.mem_filter.1 q).1
theorem Zgm{L:List Zg}{t:TxD}{name h:Int}{M S:List Zg}(e:apD L t name h=(0,M,S)):S.length≤6∧∀ c∈S,0≤cv c∧cv c≤1000000000:=by
 unfold apD at e
 split at e
 ·next q=>simp at e;exact absurd e.1 q
 ·next q=>
  split at e
  ·next q=>simp at e;exact absurd e.1 q
  ·next q2=>
   split at e
   ·next q=>simp at e;exact absurd e.1 q
   ·split at e
    ·next q=>simp at e;exact absurd e.1 q
    ·split at e
     ·next q=>simp at e;exact absurd e.1 q
     ·have q:=Decidable.not_not.1 q
      have q2:=Decidable.not_not.1 q2
      obtain⟨hR,hT,_⟩:=Wz q
      simp only[Prod.mk.injEq] at e
      obtain⟨_,_,rfl⟩:=e
      obtain⟨x,S',M',hs⟩:∃ x S' M',Zm h t.2.1 [] L=(x,S',M'):=⟨_,_,_,rfl⟩
      rw[hs] at q2 ⊢
      simp only at q2
      subst q2
      obtain⟨h1,h2⟩:=Lb h t.2.1 [] L S' M' hs
      have h6:=(Wm hT).1
      refine⟨by simp at h1;simp only;omega,fun c hc=>?_⟩
      rcases h2 c hc with q|q
      ·cases q
      ·have:=Yp (hR.one c q)
       omega
theorem Zaz{w:World}{b:Nat}{X:List Value}{t:TypeId}(h:w.heap[b]? = some (.cells X.toArray t (0,0)))(j:Nat)(u:Value):(w.setCell ⟨b,j,none⟩ u).heap[b]? = some (.cells (X.set j u).toArray t (0,0)):=by
 rw[setCell_eq_setRow w b j X.toArray t (0,0) u h]
 have:=setRow_heap w b _ (X.toArray.setIfInBounds j u) t _ h
 simpa using this
def UsOk(ty:TypeId)(g m:Nat)(w:World):Prop:=∃ cs:List Value,w.heap[g]? = some (.cells cs.toArray ty (0,0))∧cs.length=m∧∀ v∈cs,∃ a n c,v = .slice a n c
def UsAt(ty:TypeId)(g:Nat)(S:List (List Zg))(w:World):Prop:=∃ cs:List Value,w.heap[g]? = some (.cells cs.toArray ty (0,0))∧cs.length=S.length∧∀ i (h:i<S.length),∃ a n c,cs[i]? = some (.slice a n c)∧CoinsAt w a n S[i]∧SlOk a n c
section
variable {ty : TypeId} {g m : Nat} {w w' : World} {S : List (List Zg)}
theorem UsAt.ok(h:UsAt ty g S w):UsOk ty g S.length w:=by
 obtain⟨cs,h1,h2,h3⟩:=h
 refine⟨cs,h1,h2,fun v hv=>?_⟩
 obtain⟨i,hi,rfl⟩:=List.getElem_of_mem hv
 obtain⟨a,n,c,h4,_⟩:=h3 i (by omega)
 rw[List.getElem?_eq_getElem hi] at h4
 exact⟨a,n,c,Option.some.inj h4⟩
theorem UsOk.lt(h:UsOk ty g m w):g<w.heap.size:=by obtain⟨cs,h1,_⟩:=h;exact lt_of_block h1
theorem UsOk.later(h:UsOk ty g m w)(hb:Below w.heap.size w w'):UsOk ty g m w':=by
 obtain⟨cs,h1,h2,h3⟩:=h
 exact⟨cs,(hb.block g (lt_of_block h1)).trans h1,h2,h3⟩
theorem UsOk.cell(h:UsOk ty g m w){i:Nat}(hi:i<m):∃ z,w.cell? ⟨g,i,none⟩=some z:=by
 obtain⟨cs,h1,h2,_⟩:=h
 exact⟨cs[i]'(by omega),Zd h1 i _ (List.getElem?_eq_getElem (by omega))⟩
theorem UsOk.free(h:UsOk ty g m w)(i:Nat):w.frozen? ⟨g,i,none⟩=false:=by
 obtain⟨cs,h1,_⟩:=h
 exact Zh h1 i
theorem UsOk.put(h:UsOk ty g m w)(i:Nat)(a:Option Addr)(n c:Nat):UsOk ty g m (w.setCell ⟨g,i,none⟩ (.slice a n c)):=by
 obtain⟨cs,h1,h2,h3⟩:=h
 refine⟨cs.set i (.slice a n c),Zaz h1 i _,by simpa using h2,fun v hv=>?_⟩
 rcases List.mem_or_eq_of_mem_set hv with q|rfl
 ·exact h3 v q
 ·exact⟨a,n,c,rfl⟩
theorem UsOk.other(h:UsOk ty g m w){b o:Nat}{k:IntKind}{x:Int}(hc:w.cell? ⟨b,o,none⟩=some (.int k x)):b≠g:=by
 rintro rfl
 obtain⟨cs,h1,_,h3⟩:=h
 have:cs[o]? = some (.int k x):=by
  rw[cell_of_row w b o cs.toArray ty (0,0) h1] at hc
  simpa using hc
 obtain⟨a,n,c,e⟩:=h3 _ (List.mem_of_getElem? this)
 cases e
theorem Zhc{a:Option Addr}{n:Nat}{l:List (Int×Int)}(h:OpsAt w a n l)(ho:UsOk ty g m w)(hg:Gr w w' (fun q=>q=g)):OpsAt w' a n l:=by
 refine⟨h.1,fun h0=>?_⟩
 obtain⟨b,off,rfl,hc⟩:=h.2 h0
 refine⟨b,off,rfl,fun i hi=>?_⟩
 obtain⟨c0,c1⟩:=hc i hi
 have hb:=hg.block b (World.block_lt_of_cell? _ _ c0) (ho.other c0)
 exact⟨(World.cell?_of_block (a:=⟨b,off+i*2,none⟩) hb).trans c0,(World.cell?_of_block (a:=⟨b,off+i*2+1,none⟩) hb).trans c1⟩
theorem Fd{a:Option Addr}{n:Nat}{L:List Zg}(h:CoinsAt w a n L)(ho:UsOk ty g m w)(hg:Gr w w' (fun q=>q=g)):CoinsAt w' a n L:=by
 refine⟨h.1,fun h0=>?_⟩
 obtain⟨b,off,rfl,hl,hc⟩:=h.2 h0
 refine⟨b,off,rfl,Nat.lt_of_lt_of_le hl hg.size,fun i hi=>?_⟩
 obtain⟨c0,c1,c2,⟨la,ln,lc,c3,h5,h6⟩,c4,c5⟩:=hc i hi
 have hb:=hg.block b hl (ho.other c0)
 have k:=fun (o:Nat)=>World.cell?_of_block (a:=⟨b,o,none⟩) hb
 exact⟨(k _).trans c0,(k _).trans c1,(k _).trans c2,⟨la,ln,lc,(k _).trans c3,Zhc h5 ho hg,h6⟩,(k _).trans c4,(k _).trans c5⟩
theorem UsAt.later(h:UsAt ty g S w)(hb:Below w.heap.size w w'):UsAt ty g S w':=by
 obtain⟨cs,h1,h2,h3⟩:=h
 refine⟨cs,(hb.block g (lt_of_block h1)).trans h1,h2,fun i hi=>?_⟩
 obtain⟨a,n,c,q1,q2,q3⟩:=h3 i hi
 exact⟨a,n,c,q1,q2.later hb,q3⟩
theorem UsAt.put(h:UsAt ty g S w)(i:Nat){a:Option Addr}{n c:Nat}{s:List Zg}(hs:CoinsAt w a n s)(sl:SlOk a n c):UsAt ty g (S.set i s) (w.setCell ⟨g,i,none⟩ (.slice a n c)):=by
 have ho:=h.ok
 have hg:=(Gr.refl w (fun q=>q=g)).one g i (.inl rfl) (.slice a n c)
 obtain⟨cs,h1,h2,h3⟩:=h
 refine⟨cs.set i (.slice a n c),Zaz h1 i _,by simpa using h2,fun j hj=>?_⟩
 have hj':j<S.length:=by simpa using hj
 by_cases e:i=j
 ·subst e
  refine⟨a,n,c,by rw[List.getElem?_set_self (by omega)],?_,sl⟩
  rw[List.getElem_set_self]
  exact Fd hs ho hg
 ·obtain⟨a',n',c',q1,q2,q3⟩:=h3 j hj'
  refine⟨a',n',c',by rw[List.getElem?_set_ne e];exact q1,?_,q3⟩
  rw[List.getElem_set_ne e]
  exact Fd q2 ho hg
end
def UndosAt(w:World)(a:Option Addr)(n:Nat)(S:List (List Zg)):Prop:=S.length=n∧(0<n→∃ b off,a=some ⟨b,off,none⟩∧b<w.heap.size∧∀ i (h:i<S.length),UndoAt w b (off+i) S[i])
theorem UndosAt.later{w w':World}{a:Option Addr}{n:Nat}{S:List (List Zg)}(h:UndosAt w a n S)(hb:Below w.heap.size w w'):UndosAt w' a n S:=by
 refine⟨h.1,fun h0=>?_⟩
 obtain⟨b,off,e,hl,hc⟩:=h.2 h0
 exact⟨b,off,e,Nat.lt_of_lt_of_le hl hb.size,fun i hi=>(hc i hi).kept hb⟩
def Ch:List (InD×Value)→List Value
 | []=>[]
 | x :: r=>.int .i64 x.1.1 :: .int .i64 x.1.2.1 :: x.2 :: Ch r
def Dl:List (Zw×Value)→List Value
 | []=>[]
 | x :: r=>.int .i64 x.1.1 :: x.2 :: Dl r
theorem Vo{w w':World}{base:Nat}{e:TypeId}{size:Nat}{v:Value}{n:Nat}{xs:List Value}(h:w.ownsRow base e size v n xs)(hk:∀ (k:Nat) (cs:Array Value),w.heap[k]? = some (.cells cs e (0,0))→w'.heap[k]? = w.heap[k]?):w'.ownsRow base e size v n xs:=by
 obtain⟨hl,h0|⟨g,cap,cur,hv,hg,hh,r⟩⟩:=h
 ·exact⟨hl,.inl h0⟩
 ·exact⟨hl,.inr ⟨g,cap,cur,hv,hg,(hk g cur hh).trans hh,r⟩⟩
structure PL(w:World)(q p lb:Nat)(A:Array Value)(h:Int)(wr:World)(v1 v2:Value)(L1:List (InD×Value))(L2:List (Zw×Value)):Prop where
 box:wr.heap[p]? = some (.cells #[.int .i64 h,v1,v2] 52 (0,0))
 res:wr.heap[q]? = some (.cells #[.int .i64 0,.slice none 0 0,.slice none 0 0] 52 (0,0))
 pq:p≠q
 lin:wr.heap[lb]? = some (.cells A 9 (0,0))
 own1:wr.ownsRow w.heap.size 124 3 v1 L1.length (Ch L1)
 own2:wr.ownsRow w.heap.size 101 2 v2 L2.length (Dl L2)
 keys1:∀ x∈L1,wr.ownsRow w.heap.size 122 2 x.2 x.1.2.2.length (flat x.1.2.2)
 keys2:∀ x∈L2,wr.ownsRow w.heap.size 122 2 x.2 x.1.2.length (flat x.1.2)
 bel:Below w.heap.size w wr
 pge:w.heap.size≤p
theorem PL.later{w:World}{q p lb:Nat}{A:Array Value}{h:Int}{wr w':World}{v1 v2:Value}{L1:List (InD×Value)}{L2:List (Zw×Value)}(s:PL w q p lb A h wr v1 v2 L1 L2)(hb:Below wr.heap.size wr w'):PL w q p lb A h w' v1 v2 L1 L2 where
 box:=(hb.block _ (lt_of_block s.box)).trans s.box
 res:=(hb.block _ (lt_of_block s.res)).trans s.res
 pq:=s.pq
 lin:=(hb.block _ (lt_of_block s.lin)).trans s.lin
 own1:=Y9 s.own1 hb
 own2:=Y9 s.own2 hb
 keys1:=fun x hx=>Y9 (s.keys1 x hx) hb
 keys2:=fun x hx=>Y9 (s.keys2 x hx) hb
 bel:=Ze s.bel hb
 pge:=s.pge
theorem Sg{w w':World}{base:Nat}{e:TypeId}{size:Nat}{v:Value}{n:Nat}{xs:List Value}(h:w.ownsRow base e size v n xs)(hg:w.grownBy w' v.ownBlock)(k:Nat)(cs:Array Value)(t:TypeId)(hk:w.heap[k]? = some (.cells cs t (0,0)))(ht:t≠e):w'.heap[k]? = w.heap[k]?:=by
 refine hg.block k (lt_of_block hk) (fun e1=>?_)
 obtain⟨_,⟨rfl,_⟩|⟨g,cap,cur,rfl,_,hh,_⟩⟩:=h
 ·cases e1
 ·have e2:k=g:=by injection e1
  subst e2
  rw[hk] at hh
  injection hh with hh
  injection hh with _ hh
  exact ht hh
theorem PL.alloc{w:World}{q p lb:Nat}{A:Array Value}{h:Int}{wr:World}{v1 v2:Value}{L1:List (InD×Value)}{L2:List (Zw×Value)}(s:PL w q p lb A h wr v1 v2 L1 L2)(o:Obj):PL w q p lb A h (wr.alloc o) v1 v2 L1 L2:=s.later (Zf wr o)
theorem PL.drewN{w:World}{q p lb:Nat}{A:Array Value}{h:Int}{wr:World}{v1 v2:Value}{L1:List (InD×Value)}{L2:List (Zw×Value)}(s:PL w q p lb A h wr v1 v2 L1 L2)(n:Nat):PL w q p lb A h (wr.drewN n) v1 v2 L1 L2:=
 s.later ⟨rfl,rfl,rfl,Nat.le_refl _,fun _ _=>rfl⟩
def hd1(x:List UInt8):Option UInt8:=x.head?
theorem hasP_no{p:PtD}{L:List Zg}:We p L=false↔∀ c∈L,pt c≠p:=by
 rw[←Bool.not_eq_true,Vs]
 exact⟨fun h c hc e=>h ⟨c,hc,e⟩,fun h ⟨c,hc,e⟩=>h c hc e⟩
theorem Ka{L M S:List Zg}{t:TxD}{name h:Int}(e:apD L t name h=(0,M,S)):Xc L t name h=0∧∃ M2,Zm h t.2.1 [] L=(0,S,M2)∧Pz S t=0∧Z6 name h (isR t) 0 t.2.2 M2=(0,M)∧Yi M=0:=by
 obtain⟨x1,h1⟩:∃ x1,Xc L t name h=x1:=⟨_,rfl⟩
 obtain⟨⟨x2,S2,M2⟩,h2⟩:∃ r,Zm h t.2.1 [] L=r:=⟨_,rfl⟩
 obtain⟨x3,h3⟩:∃ x3,Pz S2 t=x3:=⟨_,rfl⟩
 obtain⟨⟨x4,M4⟩,h4⟩:∃ r,Z6 name h (isR t) 0 t.2.2 M2=r:=⟨_,rfl⟩
 obtain⟨x5,h5⟩:∃ x5,Yi M4=x5:=⟨_,rfl⟩
 rw[M7 h1 h2 h3 h4 h5] at e
 split at e
 ·rename_i q;injection e with e _;exact absurd e q
 rename_i q1
 split at e
 ·rename_i q;injection e with e _;exact absurd e q
 rename_i q2
 split at e
 ·rename_i q;injection e with e _;exact absurd e q
 rename_i q3
 split at e
 ·rename_i q;injection e with e _;exact absurd e q
 rename_i q4
 split at e
 ·rename_i q;injection e with e _;exact absurd e q
 rename_i q5
 have e1:x1=0:=by omega
 have e2:x2=0:=by omega
 have e3:x3=0:=by omega
 have e4:x4=0:=by omega
 have e5:x5=0:=by omega
 injection e with _ e
 injection e with ea eb
 subst e1 e2 e3 e4 e5 ea eb
 exact⟨h1,M2,h2,h3,h4,h5⟩
theorem Nf{p:PtD}{c:Zg}:∀ {L:List Zg},Srt L→c∈L→pt c=p→Zp L=cv c+Zp (L.filter fun d=>decide (pt d≠p))
 | [],_,hc,_=>by cases hc
 | d :: r,hs,hc,e=>by
  rw[Wc]
  rcases List.mem_cons.1 hc with rfl|hc
  ·rw[List.filter_cons_of_neg (by simp[e])]
   have:r.filter (fun d=>decide (pt d≠p))=r:=by
    rw[List.filter_eq_self]
    intro y hy
    exact decide_eq_true (fun q=>Qz (hs.head y hy) (by rw[e,q]))
   rw[this]
  ·have hne:pt d≠p:=fun q=>Qz (hs.head c hc) (by rw[e,q])
   rw[List.filter_cons_of_pos (by simp[hne]),Wc,Nf hs.tail hc e]
   omega
theorem Q5(h:Int):∀ (I:List InD) (S0 L S M:List Zg),Srt L→Zm h I S0 L=(0,S,M) →
  Srt M∧∃ T,S=S0++T∧T.length=I.length∧(∀ j (h1:j<T.length) (h2:j<I.length),pt T[j]=(I[j].1,I[j].2.1))∧(∀ x,x∈L↔x∈M∨x∈T)∧(∀ x∈T,We (pt x) M=false)∧T.Pairwise (fun a b=>pt a≠pt b)∧Zp L=Zp M+Zp T
 | [],S0,L,S,M,hs,e=>by
  unfold Zm at e
  injection e with _ e
  injection e with e1 e2
  subst e1 e2
  exact⟨hs,[],by simp,rfl,fun j h1=>absurd h1 (by simp),fun x=>by simp,fun x hx=>(by cases hx),List.Pairwise.nil,by simp[Zp]⟩
 | x :: r,S0,L,S,M,hs,e=>by
  unfold Zm at e
  split at e
  ·injection e with e _;cases e
  ·rename_i c L' ht
   split at e
   ·injection e with e _;cases e
   ·split at e
    ·injection e with e _;cases e
    ·obtain⟨t1,t2,t3⟩:=Rc ht
     obtain⟨h1,T,h2,h3,h4,h5,h6,h7,h8⟩:=Q5 h r _ L' S M (by rw[t3];exact hs.filter _) e
     have hin:∀ y,y∈L'↔y∈L∧pt y≠(x.1,x.2.1):=fun y=>by rw[t3,List.mem_filter,decide_eq_true_eq]
     refine⟨h1,c :: T,by rw[h2,List.append_assoc];rfl,by simp[h3],fun j h1 h2=>?_,fun y=>?_,fun y hy=>?_,?_,?_⟩
     ·cases j with
      | zero=>exact t2
      | succ j=>exact h4 j (by simpa using h1) (by simpa using h2)
     ·constructor
      ·intro hy
       by_cases q:pt y=(x.1,x.2.1)
       ·exact .inr (by rw[hs.inj hy t1 (by rw[q,t2])];exact List.mem_cons_self ..)
       ·rcases (h5 y).1 ((hin y).2 ⟨hy,q⟩) with g|g
        ·exact .inl g
        ·exact .inr (List.mem_cons_of_mem _ g)
      ·rintro (g|g)
       ·exact ((hin y).1 ((h5 y).2 (.inl g))).1
       ·rcases List.mem_cons.1 g with rfl|g
        ·exact t1
        ·exact ((hin y).1 ((h5 y).2 (.inr g))).1
     ·rcases List.mem_cons.1 hy with rfl|hy
      ·refine hasP_no.2 fun d hd e=>?_
       exact ((hin d).1 ((h5 d).2 (.inl hd))).2 (by rw[e,t2])
      ·exact h6 y hy
     ·refine List.pairwise_cons.2 ⟨fun y hy e=>?_,h7⟩
      exact ((hin y).1 ((h5 y).2 (.inr hy))).2 (by rw[←e,t2])
     ·have h9:=Nf hs t1 t2
      rw[←t3] at h9
      rw[h9,h8,Wc]
      omega
theorem Zeu{c:Zg}{L:List Zg}(hs:Srt L)(hn:We (pt c) L=false):Zp (Vz c L)=cv c+Zp L:=by
 rw[Bz hs hn,Q0,Wc]
 have:Zp L=Zp (L.take (pos (pt c) L))+Zp (L.drop (pos (pt c) L)):=by rw[←Q0,List.take_append_drop]
 omega
theorem Rm(name h:Int)(r:Bool):∀ (O:List Zw) (i:Nat) (L M:List Zg),Srt L→Z6 name h r i O L=(0,M)→Zp M=Zp L+Xk O
 | [],i,L,M,hs,e=>by
  unfold Z6 at e
  injection e with _ e
  subst e
  simp[Xk]
 | o :: q,i,L,M,hs,e=>by
  unfold Z6 at e
  split at e
  ·injection e with e _;cases e
  ·rename_i hf
   have hf':We (pt (Qg name i o h r)) L=false:=by simpa[Qg,pt] using hf
   have h1:=Rm name h r q (i+1) _ M (U1 hs) e
   rw[Zeu hs hf'] at h1
   have h2:cv (Qg name i o h r)=o.1:=rfl
   have h3:Xk (o :: q)=o.1+Xk q:=by simp[Xk]
   rw[h1,h2,h3]
   omega
theorem Pm:∀ (O:List Zw),Zx O=0→∀ o∈O,1≤o.1
 | [],_=>by simp
 | x :: r,h=>by
  intro o ho
  unfold Zx at h
  split at h
  ·rename_i h1
   rcases List.mem_cons.1 ho with rfl|ho
   ·unfold Yo at h1
    split at h1
    ·cases h1
    ·omega
   ·exact Pm r h o ho
  ·rename_i h1;exact absurd h h1
theorem Nh:∀ (O:List Zw),O≠[]→(∀ o∈O,1≤o.1)→0<Xk O
 | [],h,_=>absurd rfl h
 | x :: r,_,h=>by
  have h3:Xk (x :: r)=x.1+Xk r:=by simp[Xk]
  have h1:=h x (List.mem_cons_self ..)
  cases r with
  | nil=>rw[h3];simp[Xk];omega
  | cons y q=>
   have:=Nh (y :: q) (by simp) (fun o ho=>h o (List.mem_cons_of_mem _ ho))
   omega
theorem Zek{L M S:List Zg}{t:TxD}{name h:Int}(e:apD L t name h=(0,M,S)):(t.2.1.length=0→Zp L<Zp M)∧(t.2.1.length≠0→Zp M≤Zp L):=by
 obtain⟨h1,M2,h2,h3,h4,h5⟩:=Ka e
 obtain⟨hR,hT,_,_,_⟩:=Wz h1
 obtain⟨s1,T,s2,s3,s4,s5,s6,s7,s8⟩:=Q5 h _ _ _ _ _ hR.srt h2
 rw[List.nil_append] at s2
 subst s2
 have hg:=Rm name h _ _ _ _ _ s1 h4
 obtain⟨t1,t2,t3,t4,t5,t6,t7⟩:=Wm hT
 constructor
 ·intro h0
  have hS:S=[]:=List.length_eq_zero_iff.1 (by rw[s3,h0])
  have:=Nh t.2.2 (fun q=>by rw[q] at t3;simp at t3) (Pm _ t6)
  rw[hS,Ni] at s8
  omega
 ·intro h0
  unfold Pz isR at h3
  split at h3
  ·cases h3
  ·rename_i q
   have:¬(Zp S - Xk t.2.2<0):=fun r=>q ⟨r,decide_eq_false h0⟩
   omega
theorem Zhx{L M S:List Zg}{t:TxD}{name h:Int}(e:apD L t name h=(0,M,S)):Zp M=Zp L - Zp S+Xk t.2.2∧0≤Zp S:=by
 obtain⟨h1,M2,h2,h3,h4,h5⟩:=Ka e
 obtain⟨hR,hT,_,_,_⟩:=Wz h1
 obtain⟨s1,T,s2,s3,s4,s5,s6,s7,s8⟩:=Q5 h _ _ _ _ _ hR.srt h2
 rw[List.nil_append] at s2
 subst s2
 have hg:=Rm name h _ _ _ _ _ s1 h4
 refine⟨by omega,Wo S fun c hc=>?_⟩
 have:=Yp (hR.one c ((s5 c).2 (.inr hc)))
 omega
theorem H9{L M S:List Zg}{t:TxD}{name h:Int}(e:apD L t name h=(0,M,S)):Z5 L∧Z5 M∧Zo t=0:=by
 obtain⟨h1,M2,h2,h3,h4,h5⟩:=Ka e
 obtain⟨hR,hT,_,_,_⟩:=Wz h1
 exact⟨hR,(Xa M).1 h5,hT⟩
open Bk (Right nm nameR)
def doD(h:Int)(s:List ByteArray×List Zg)(t:TxD):Int×List ByteArray×List Zg:=
 if Zo t≠0 then (Zo t,s) else if t.2.1.length=0 then (4,s) else
 if (nameR s.1 (txT t)).2.2≠0 then ((nameR s.1 (txT t)).2.2,s) else
 if (apD s.2 t (nameR s.1 (txT t)).2.1 h).1≠0 then ((apD s.2 t (nameR s.1 (txT t)).2.1 h).1,s) else
 (0,(nameR s.1 (txT t)).1,(apD s.2 t (nameR s.1 (txT t)).2.1 h).2.1)
def Yb(h:Int):List TxD→List ByteArray×List Zg→List TxD×List ByteArray×List Zg
 | [],s=>([],s)
 | t :: l,s=>if (doD h s t).1=0 then (t :: (Yb h l (doD h s t).2).1,(Yb h l (doD h s t).2).2) else Yb h l s
theorem Al{K:List ByteArray}{s:ByteArray}(hK:Right K)(h0:(nameR K s).2.2=0):Right (nameR K s).1∧(∃ M,(nameR K s).1=K++M)∧∀ M,Right ((nameR K s).1++M)→nameR ((nameR K s).1++M) s=((nameR K s).1++M,(nameR K s).2.1,0):=by
 have e:nameR K s=nm K s:=by unfold nameR;rw[if_pos ((Bk.right_iff K).2 hK)]
 rw[e] at h0 ⊢
 refine⟨Bk.nm_right hK h0,Bk.nm_grows h0,fun M hM=>?_⟩
 obtain⟨h1,h2,h3⟩:=Bk.nm_place h0
 have e2:nameR ((nm K s).1++M) s=nm ((nm K s).1++M) s:=by unfold nameR;rw[if_pos ((Bk.right_iff _).2 hM)]
 have h4:=Bk.place_stays M h2
 rw[e2,Bk.nm_there h3 (by rw[h4];exact h2),h4,h1]
theorem D8{h:Int}{K:List ByteArray}{C:List Zg}{t:TxD}(hK:Right K)(h0:(doD h (K,C) t).1=0) :
  Right (doD h (K,C) t).2.1∧(∃ M,(doD h (K,C) t).2.1=K++M)∧∀ M,Right ((doD h (K,C) t).2.1++M)→doD h ((doD h (K,C) t).2.1++M,C) t=(0,(doD h (K,C) t).2.1++M,(doD h (K,C) t).2.2):=by
 by_cases q1:Zo t≠0
 ·unfold doD at h0;rw[if_pos q1] at h0;exact absurd h0 q1
 by_cases q2:t.2.1.length=0
 ·unfold doD at h0;rw[if_neg q1,if_pos q2] at h0;exact absurd (show (4:Int)=0 from h0) (by decide)
 by_cases q3:(nameR K (txT t)).2.2≠0
 ·unfold doD at h0;rw[if_neg q1,if_neg q2,if_pos q3] at h0;exact absurd h0 q3
 by_cases q4:(apD C t (nameR K (txT t)).2.1 h).1≠0
 ·unfold doD at h0;rw[if_neg q1,if_neg q2,if_neg q3,if_pos q4] at h0;exact absurd h0 q4
 have e:doD h (K,C) t=(0,(nameR K (txT t)).1,(apD C t (nameR K (txT t)).2.1 h).2.1):=by
  unfold doD;rw[if_neg q1,if_neg q2,if_neg q3,if_neg q4]
 obtain⟨n1,n2,n3⟩:=Al hK (Decidable.not_not.1 q3)
 rw[e]
 refine⟨n1,n2,fun M hM=>?_⟩
 have e2:=n3 M hM
 unfold doD
 rw[if_neg q1,if_neg q2]
 simp only
 rw[e2]
 simp only
 rw[if_neg (fun r=>r rfl),if_neg q4]
theorem Gh{h:Int}:∀ (l:List TxD) (K:List ByteArray) (C:List Zg),Right K→Right (Yb h l (K,C)).2.1∧∃ M,(Yb h l (K,C)).2.1=K++M
 | [],K,C,hK=>⟨hK,[],by simp[Yb]⟩
 | t :: l,K,C,hK=>by
  rw[Yb]
  by_cases q:(doD h (K,C) t).1=0
  ·rw[if_pos q]
   obtain⟨d1,⟨M,d2⟩,_⟩:=D8 hK q
   obtain⟨s1,M2,s2⟩:=Gh l (doD h (K,C) t).2.1 (doD h (K,C) t).2.2 d1
   exact⟨s1,M++M2,by rw[s2,d2,List.append_assoc]⟩
  ·rw[if_neg q]
   exact Gh l K C hK
end Go.Proofs.YtpikejjiignchaaGreatDoor
