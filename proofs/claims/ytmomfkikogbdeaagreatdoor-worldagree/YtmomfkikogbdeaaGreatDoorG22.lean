import Derived.Test.YtmomfkikogbdeaaGreatDoorH
import Derived.Test.YtmomfkikogbdeaaGreatDoorG21
open ByteArray renaming data_append->bP
open Go.IntKind renaming i64->J
open Go.Lib renaming join->bQ
open Go.Obj renaming cells->dE
open Go.Value renaming int->E,slice->F
open List renaming cons_append->bZ,mem_singleton->cP,mem_append->bL,mem_cons->aO,map_cons->bY,mem_map->bN,append_assoc->cS,drop_of_length_le->bU,drop_eq_getElem_cons->aJ
open List.cons renaming injEq->bC
namespace Go.Proofs.YtmomfkikogbdeaaGreatDoor
open Go.RowKit
def spl(c:UInt8)(s:ByteArray):List ByteArray:=Lib.splitB ⟨#[c]⟩ 0 (Lib.countB s ⟨#[c]⟩) s
def Zbd(r:List ByteArray):Option (List Int):=if r.all (λx=>(Rt x).isSome) then some (r.map λx=>(Rt x).getD 0) else none
def Py(s aa:ByteArray)(count:Nat):Option (List Int):=if (spl 32 s).getD 0 ⟨#[]⟩=aa/\(spl 32 s).length=count+1 then Zbd ((spl 32 s).drop 1) else none
def Zre(s:ByteArray):ByteArray:=⟨(Lib.cut s.data.toList [58]).1.toArray⟩
def Zos(s:ByteArray):ByteArray:=⟨(Lib.cut s.data.toList [58]).2.1.toArray⟩
def Zrf(s:ByteArray):Bool:=(Lib.cut s.data.toList [58]).2.2
def Qq(s aa:ByteArray)(count:Nat):Option (List Int×List (Int×Int)):=
 if Zrf s then (match Py (Zre s) aa count with|some Z=>if prE (Zos s)=0 then some (Z,prL (Zos s)) else none|none=>none) else none
def Zpo(s:ByteArray):ByteArray:=s.extract (s.size - 1) s.size
def Zca(s:ByteArray):ByteArray:=s.extract 0 (s.size - 1)
def C8(s:ByteArray):Bool:=decide (1<=s.size) && ((Zpo s).toList == [10])
def Zlp(s:ByteArray):ByteArray:=if C8 s then Zca s else s
def Gz(t:TxD)(s:ByteArray):Option TxD:=match Qq s outB 1 with|some (Z,L)=>some (t.1,t.2.1,t.2.2++[(Z.getD 0 0,L)])|none=>none
def Hx(t:TxD)(s:ByteArray):Option TxD:=
 match Qq s inB 2 with
 | some (Z,L)=>if t.2.2.length=0 then some (t.1,t.2.1++[(Z.getD 0 0,Z.getD 1 0,L)],t.2.2) else Gz t s
 | none=>Gz t s
def Vw:TxD->List ByteArray->Option TxD
 | t,[]=>some t
 | t,x :: r=>(Hx t x).bind λu=>Vw u r
def G8(s:ByteArray):List ByteArray:=spl 10 (Zlp s)
def Zdx(s:ByteArray):Option TxD:=
 if C8 s then (match Py ((G8 s).getD 0 ⟨#[]⟩) txB 1 with|some Z=>Vw (Z.getD 0 0,[],[]) ((G8 s).drop 1)|none=>none) else none
def Zea:List (InD×Value)->List Value
 | []=>[]
 | x :: r=>E J x.1.1 :: E J x.1.2.1 :: x.2 :: Zea r
def Bu:List (Z3×Value)->List Value
 | []=>[]
 | x :: r=>E J x.1.1 :: x.2 :: Bu r
theorem Vo{w w':World}{base:Nat}{e:TypeId}{size:Nat}{v}{n:Nat}{xs}(h:w.ownsRow base e size v n xs)(hk:∀ (k:Nat) (cs:Array Value),w.heap[k]? = some (dE cs e (0,0))->w'.heap[k]? = w.heap[k]?):w'.ownsRow base e size v n xs:=by
 obtain⟨hl,h0|⟨g,cap,aa,hv,hg,hh,r⟩⟩:=h
 ·exact⟨hl,.inl h0⟩
 ·exact⟨hl,.inr ⟨g,cap,aa,hv,hg,(hk g aa hh).trans hh,r⟩⟩
structure PL(w:World)(q p lb:Nat)(A:Array Value)(h:Int)(wr:World)(v1 v2:Value)(L1:List (InD×Value))(L2:List (Z3×Value)):Prop where
 box:wr.heap[p]? = some (dE #[E J h,v1,v2] 59 (0,0))
 res:wr.heap[q]? = some (dE #[E J 0,F none 0 0,F none 0 0] 59 (0,0))
 pq:p≠q
 lin:wr.heap[lb]? = some (dE A 9 (0,0))
 own1:wr.ownsRow w.heap.size 119 3 v1 L1.length (Zea L1)
 own2:wr.ownsRow w.heap.size 122 2 v2 L2.length (Bu L2)
 keys1:∀ x∈L1,wr.ownsRow w.heap.size 164 2 x.2 x.1.2.2.length (flat x.1.2.2)
 keys2:∀ x∈L2,wr.ownsRow w.heap.size 164 2 x.2 x.1.2.length (flat x.1.2)
 bel:ZD w wr
 pge:w.heap.size<=p
theorem PL.later{w}{q p lb:Nat}{A}{h:Int}{wr w':World}{v1 v2 L1 L2}(s:PL w q p lb A h wr v1 v2 L1 L2)(hb:ZD wr w'):PL w q p lb A h w' v1 v2 L1 L2 where
 box:=ZE hb s.box
 res:=ZE hb s.res
 pq:=s.pq
 lin:=ZE hb s.lin
 own1:=Sb s.own1 hb
 own2:=Sb s.own2 hb
 keys1:=λx hx=>Sb (s.keys1 x hx) hb
 keys2:=λx hx=>Sb (s.keys2 x hx) hb
 bel:=Zf s.bel hb
 pge:=s.pge
theorem Pm{w w':World}{base:Nat}{e:TypeId}{size:Nat}{v:Value}{n:Nat}{xs}(h:w.ownsRow base e size v n xs)(hg:w.grownBy w' v.ownBlock)(k:Nat)(cs)(t:TypeId)(hk:w.heap[k]? = some (dE cs t (0,0)))(ht:t≠e):w'.heap[k]? = w.heap[k]?:=by
 refine hg.block k (lt_of_block hk) (λe1=>?_);obtain⟨_,⟨rfl,_⟩|⟨g,cap,ag,rfl,_,hh,_⟩⟩:=h
 ·cases e1
 ·have e2:k=g:=by injection e1
  subst e2;rw[hk] at hh;injection hh with hh;injection hh with _ hh;exact ht hh
theorem PL.alloc{w}{q p lb:Nat}{A}{h:Int}{wr:World}{v1 v2 L1 L2}(s:PL w q p lb A h wr v1 v2 L1 L2)(o:Obj):PL w q p lb A h (wr.alloc o) v1 v2 L1 L2:=s.later (Zh wr o)
theorem PL.drewN{w}{q p lb:Nat}{A}{h:Int}{wr:World}{v1 v2 L1 L2}(s:PL w q p lb A h wr v1 v2 L1 L2)(n:Nat):PL w q p lb A h (wr.drewN n) v1 v2 L1 L2:=
 s.later ⟨rfl,rfl,rfl,Nat.le_refl _,λ_ _=>rfl⟩
theorem Ri(d:Nat)(h:d<10):(UInt8.ofNat (48+d)).toNat=48+d:=by
 have:∀ m:Fin 10,(UInt8.ofNat (48+m.val)).toNat=48+m.val:=by decide
 exact this ⟨d,h⟩
theorem Sw:∀ (l:List UInt8) (aa m:Nat) (c:UInt8),Lib.parseUint10 aa l = .ok m->48<=c.toNat->c.toNat<=57->m*10+(c.toNat - 48)<18446744073709551616->m<1844674407370955162 ->
  Lib.parseUint10 aa (l++[c]) = .ok (m*10+(c.toNat - 48))
 | [],aa,m,c,h,h1,h2,h3,h4=>by
  simp only[Lib.parseUint10] at h;injection h with h;subst h;simp only[List.nil_append,Lib.parseUint10];rw[if_pos ⟨h1,h2⟩,if_neg (by omega),if_neg (by omega)]
 | x :: r,aa,m,c,h,h1,h2,h3,h4=>by
  simp only[bZ,Lib.parseUint10] at h ⊢;split at h
  ·rename_i hx;rw[if_pos hx];split at h
   ·cases h
   ·rename_i g1;rw[if_neg g1];split at h
    ·cases h
    ·rename_i g2;rw[if_neg g2];exact Sw r _ m c h h1 h2 h3 h4
  ·cases h
theorem Ec:∀ (u:Nat),u<10000000->Lib.parseUint10 0 (Lib.decDigits u) = .ok u:=by
 intro u
 induction u using Nat.strongRecOn with
 | ind u ih=>
  intro hu;rw[Lib.decDigits];split
  ·rename_i h;have e:=Ri u h;simp only[Lib.parseUint10,e];rw[if_pos (by omega),if_neg (by omega),if_neg (by omega)]
   congr 1
   omega
  ·rename_i h;have e:=Ri (u % 10) (by omega);have:=Sw (Lib.decDigits (u / 10)) 0 (u / 10) (UInt8.ofNat (48+u % 10)) (ih (u / 10) (by omega) (by omega)) (by omega) (by omega) (by omega) (by omega);rw[this,e]
   congr 1
   omega
theorem Vf:∀ (u:Nat) (b:UInt8),b∈Lib.decDigits u->48<=b.toNat/\b.toNat<=57:=by
 intro u
 induction u using Nat.strongRecOn with
 | ind u ih=>
  intro b hb;rw[Lib.decDigits] at hb;split at hb
  ·rename_i h;simp only[cP] at hb;rw[hb,Ri u h];omega
  ·rename_i h;simp only[bL,cP] at hb
   rcases hb with hb|hb
   ·exact ih (u / 10) (by omega) b hb
   ·rw[hb,Ri (u % 10) (by omega)];omega
theorem Lp(u:Nat):Lib.decDigits u≠[]:=by
 intro e;have:=Lib.decDigits_length u;rw[e] at this;have:=Lib.nDigits_pos u;simp at *;omega
theorem Zhs(n:Int)(h0 : -1000000<=n)(h1:n<=1000000):Lib.atoiAll (Lib.itoa n) = .ok n:=by
 unfold Lib.itoa;split
 ·rename_i hn;have e:=Ec n.natAbs (by omega);unfold Lib.atoiAll;have h45:(45:UInt8).toNat=45:=rfl;simp only[h45,or_true,if_true,Lib.parseMag,Lp,if_false,e];rw[if_neg (by omega),if_neg (by omega)]
  congr 1
  first|omega|(simp;omega)
 ·rename_i hn;have e:=Ec n.toNat (by omega);have hd:=Vf n.toNat;have aa:=Lp n.toNat;generalize Lib.decDigits n.toNat=l at *;cases l with
  | nil=>exact absurd rfl aa
  | cons c r=>
   have hc:=hd c (by simp);have g1:¬(c.toNat=43\/c.toNat=45):=(by omega);have g2:¬c.toNat=45:=(by omega);have hm:Lib.parseMag (c :: r) = .ok n.toNat:=(by unfold Lib.parseMag;rw[if_neg aa];exact e);unfold Lib.atoiAll;dsimp only;rw[if_neg g1,hm];dsimp only;rw[if_neg (by omega),if_neg (by omega),if_neg g2]
   congr 1
   omega
theorem Zbu(n:Int)(b:UInt8)(h:b∈Lib.itoa n):b≠32:=by
 unfold Lib.itoa at h;have ab:∀ b:UInt8,48<=b.toNat->b≠32:=λb hb e=>by rw[e] at hb;exact absurd hb (by decide)
 split at h
 ·simp only[aO] at h
  rcases h with rfl|h
  ·decide
  ·exact ab b (Vf _ b h).1
 ·exact ab b (Vf _ b h).1
theorem Zoe(n:Int):Lib.itoa n≠[]:=by
 unfold Lib.itoa;split
 ·simp
 ·exact Lp _
theorem Zbh:∀ k:Fin 14,2<=k.val->(∀ b∈(Vp k.val).data.toList,b≠32)/\(Vp k.val).data.toList≠[]/\Lib.atoiAll (Vp k.val).data.toList = .«syntax»:=by decide +kernel
theorem Zgm:∀ k:Fin 14,2<=k.val->Zbt (Vp k.val)=some k.val:=by decide +kernel
theorem Zcr{k n:Int}(h:Xp (k,n)=0):(k=1/\-1000000<=n/\n<=1000000)\/(2<=k/\k<=13/\n=0):=by
 simp only[Xp] at h;split at h
 ·cases h
 ·rename_i h1;split at h
  ·cases h
  ·rename_i h2;simp only[not_or,Bool.not_eq_false,not_and] at h1 h2;have hf:=(V7 n).1 h2.2;by_cases hk:k=1
   ·exact Or.inl ⟨hk,hf⟩
   ·refine Or.inr ⟨by omega,by omega,?_⟩;have:=h2.1 hk;omega
theorem Fd(o:Int×Int)(h:Xp o=0):(∀ b∈(Yi o).data.toList,b≠32)/\(Yi o).data.toList≠[]/\Fb (Yi o)=some o:=by
 obtain⟨k,n⟩:=o
 rcases Zcr h with ⟨rfl,h0,h1⟩|⟨h2,h3,rfl⟩
 ·have e:Yi (1,n)=Xj n:=rfl;rw[e];refine⟨λb hb=>Zbu n b (by simpa[Xj] using hb),by simpa[Xj] using Zoe n,?_⟩
  have hn:Rt (Xj n)=some n:=by
   unfold Rt;have:Lib.atoiAll (Xj n).data.toList = .ok n:=(by simpa[Xj] using Zhs n h0 h1);rw[this];simp
  unfold Fb;rw[hn]
 ·obtain⟨m,rfl⟩:=Int.eq_ofNat_of_zero_le (show 0<=k by omega);have e:Yi ((m:Int),0)=Vp m:=by simp[Yi];intro h;omega
  have hf:=Zbh ⟨m,by omega⟩ (by show 2<=m;omega);have hk:=Zgm ⟨m,by omega⟩ (by show 2<=m;omega);rw[e];refine⟨hf.1,hf.2.1,?_⟩
  have hn:Rt (Vp m)=none:=by
   unfold Rt;have h3:Lib.atoiAll (Vp m).data.toList = .«syntax»:=hf.2.2;rw[h3]
  unfold Fb;rw[hn];have ae:Zbt (Vp m)=some m:=hk;rw[ae];rfl
theorem Dn:∀ (x:List UInt8),(∀ b∈x,b≠32)->Lib.indexByte x 32 = -1
 | [],_=>rfl
 | b :: r,h=>by
  unfold Lib.indexByte;have hb:(b == 32)=false:=by simpa using h b (by simp)
  rw[hb,Dn r (λc hc=>h c (by simp[hc]))];rfl
theorem E0:∀ (x r:List UInt8),(∀ b∈x,b≠32)->Lib.indexByte (x++32 :: r) 32=x.length
 | [],r,_=>rfl
 | b :: x,r,h=>by
  have ih:=E0 x r (λc hc=>h c (by simp[hc]));rw[bZ];unfold Lib.indexByte;have hb:(b == 32)=false:=by simpa using h b (by simp)
  rw[hb,ih];have ac:((x.length:Int) == -1)=false:=by rw[beq_eq_false_iff_ne];omega
  rw[ac];simp
theorem Hy:∀ (xs:List (List UInt8)),xs≠[]->(∀ x∈xs,∀ b∈x,b≠32)->Lib.splitK [32] 0 (Lib.count (bQ xs [32]) [32]) (bQ xs [32])=xs
 | [],h,_=>absurd rfl h
 | [x],_,h=>by
  rw[Lib.join_one];have hi:Lib.index x [32] = -1:=by rw[Lib.index_one];exact Dn x (h x (by simp))
  rw[Lib.count_miss hi];rfl
 | x :: y :: r,_,h=>by
  have ej:bQ (x :: y :: r) [32]=x++32 :: bQ (y :: r) [32]:=by simp[bQ,List.intercalate]
  have hi:Lib.index (bQ (x :: y :: r) [32]) [32]=(x.length:Int):=by rw[ej,Lib.index_one];exact E0 x _ (h x (by simp))
  have hc:=Lib.count_hit (s:=bQ (x :: y :: r) [32]) (sub:=[32]) (by simp) hi
  have hd:(bQ (x :: y :: r) [32]).drop (x.length+([32]:List UInt8).length)=bQ (y :: r) [32]:=by
   rw[ej,List.length_singleton,<-List.drop_drop,List.drop_left];rfl
  have ht:(bQ (x :: y :: r) [32]).take (x.length+0)=x:=by rw[ej,Nat.add_zero,List.take_left]
  rw[hd] at hc;rw[hc,Nat.add_comm,Lib.splitK];have ad:(Lib.index (bQ (x :: y :: r) [32]) [32] == -1)=false:=by rw[hi,beq_eq_false_iff_ne];omega
  rw[ad];simp only[Bool.false_eq_true,if_false,hi,Int.toNat_natCast];rw[ht,hd,Hy (y :: r) (by simp) (λz hz=>h z (by simp[hz]))]
theorem Um{a b:ByteArray}(h:a.data.toList=b.data.toList):a=b:=by
 cases a;cases b;simp at h;rw[h]
theorem Fh:∀ {xs ys:List ByteArray},xs.map (·.data.toList)=ys.map (·.data.toList)->xs=ys
 | [],[],_=>rfl
 | [],_ :: _,h=>by simp at h
 | _ :: _,[],h=>by simp at h
 | x :: xs,y :: ys,h=>by
  simp only[bY,bC] at h;rw[Um h.1,Fh h.2]
theorem Zod:∀ (xs:List (List UInt8)),xs≠[]->(∀ x∈xs,x≠[])->bQ xs [32]≠[]
 | [],h,_=>absurd rfl h
 | [x],_,h=>by rw[Lib.join_one];exact h x (by simp)
 | x :: y :: r,_,_=>by simp[bQ,List.intercalate]
theorem Zai(l:List (Int×Int))(h:U5 l=0):Ts (Zv l)=l.map Yi:=by
 have aa:∀ o∈l,Xp o=0:=λo ho=>by
  obtain⟨i,hi,rfl⟩:=List.getElem_of_mem ho;exact Qk h i hi
 cases l with
 | nil=>rfl
 | cons o r=>
  have hd:(Zv (o :: r)).data.toList=bQ (((o :: r).map Yi).map (·.data.toList)) [32]:=by simp[Zv]
  have ad:(Zv (o :: r)).size≠0:=by
   intro e
   have h2:(Zv (o :: r)).data.toList=[]:=by
    have h3:(Zv (o :: r)).data=#[]:=Array.eq_empty_of_size_eq_zero e;rw[h3]
   rw[hd] at h2;refine Zod _ (by simp) (λx hx=>?_) h2;simp only[List.map_map,bN] at hx;obtain⟨q,hq,rfl⟩:=hx;exact (Fd q (aa q hq)).2.1
  unfold Ts;rw[if_neg ad]
  apply Fh
  rw[Lib.splitB_data];show Lib.splitK [32] 0 (Lib.count (Zv (o :: r)).data.toList [32]) (Zv (o :: r)).data.toList=_;rw[hd];refine Hy _ (by simp) (λx hx b hb=>?_);simp only[List.map_map,bN] at hx;obtain⟨q,hq,rfl⟩:=hx;exact (Fd q (aa q hq)).1 b hb
theorem Zaa:∀ (l:List (Int×Int)),(∀ o∈l,Xp o=0)->Qf (l.map Yi)=some l
 | [],_=>rfl
 | o :: r,h=>by
  simp only[bY,Qf,(Fd o (h o (by simp))).2.2,Zaa r (λq hq=>h q (by simp[hq]))];rfl
theorem Zfl(l)(h:chk l=0):prE (Zv l)=0/\prL (Zv l)=l:=by
 have h16:l.length<=16:=by
  unfold chk at h;split at h
  ·cases h
  ·omega
 have hL:U5 l=0:=by
  unfold chk at h;split at h
  ·cases h
  ·exact h
 have ab:¬4000<(Zv l).size:=by
  have:=Jq l h16 hL;have e:(Zv l).size=(bQ ((l.map Yi).map (·.data.toList)) [32]).length:=by simp[Zv,ByteArray.size]
  omega
 have hp:Qf (Ts (Zv l))=some l:=by
  rw[Zai l hL]
  exact Zaa l (λo ho=>by
   obtain⟨i,hi,rfl⟩:=List.getElem_of_mem ho;exact Qk hL i hi)
 constructor
 ·unfold prE;rw[if_neg ab,hp];exact h
 ·unfold prL;rw[if_neg ab,hp];simp[h]
theorem Cs(c:UInt8):∀ (x:List UInt8),(∀ b∈x,b≠c)->Lib.indexByte x c = -1
 | [],_=>rfl
 | b :: r,h=>by
  unfold Lib.indexByte;have hb:(b == c)=false:=by simpa using h b (by simp)
  rw[hb,Cs c r (λd hd=>h d (by simp[hd]))];rfl
theorem Fp(c:UInt8):∀ (x r:List UInt8),(∀ b∈x,b≠c)->Lib.indexByte (x++c :: r) c=x.length
 | [],r,_=>by unfold Lib.indexByte;simp
 | b :: x,r,h=>by
  have ih:=Fp c x r (λd hd=>h d (by simp[hd]));rw[bZ];unfold Lib.indexByte;have hb:(b == c)=false:=by simpa using h b (by simp)
  rw[hb,ih];have ac:((x.length:Int) == -1)=false:=by rw[beq_eq_false_iff_ne];omega
  rw[ac];simp
theorem Pw(c:UInt8):∀ (xs:List (List UInt8)),xs≠[]->(∀ x∈xs,∀ b∈x,b≠c)->Lib.splitK [c] 0 (Lib.count (bQ xs [c]) [c]) (bQ xs [c])=xs
 | [],h,_=>absurd rfl h
 | [x],_,h=>by
  rw[Lib.join_one];have hi:Lib.index x [c] = -1:=by rw[Lib.index_one];exact Cs c x (h x (by simp))
  rw[Lib.count_miss hi];rfl
 | x :: y :: r,_,h=>by
  have ej:bQ (x :: y :: r) [c]=x++c :: bQ (y :: r) [c]:=by simp[bQ,List.intercalate]
  have hi:Lib.index (bQ (x :: y :: r) [c]) [c]=(x.length:Int):=by rw[ej,Lib.index_one];exact Fp c x _ (h x (by simp))
  have hc:=Lib.count_hit (s:=bQ (x :: y :: r) [c]) (sub:=[c]) (by simp) hi
  have hd:(bQ (x :: y :: r) [c]).drop (x.length+([c]:List UInt8).length)=bQ (y :: r) [c]:=by
   rw[ej,List.length_singleton,<-List.drop_drop,List.drop_left];rfl
  have ht:(bQ (x :: y :: r) [c]).take (x.length+0)=x:=by rw[ej,Nat.add_zero,List.take_left]
  rw[hd] at hc;rw[hc,Nat.add_comm,Lib.splitK];have ad:(Lib.index (bQ (x :: y :: r) [c]) [c] == -1)=false:=by rw[hi,beq_eq_false_iff_ne];omega
  rw[ad];simp only[Bool.false_eq_true,if_false,hi,Int.toNat_natCast];rw[ht,hd,Pw c (y :: r) (by simp) (λz hz=>h z (by simp[hz]))]
def Ru(c:UInt8)(xs:List ByteArray):ByteArray:=⟨(bQ (xs.map (·.data.toList)) [c]).toArray⟩
theorem Qr(c:UInt8)(xs:List ByteArray):(Ru c xs).data.toList=bQ (xs.map (·.data.toList)) [c]:=by simp[Ru]
theorem Zip(c:UInt8)(s:ByteArray):(spl c s).map (·.data.toList)=Lib.splitK [c] 0 (Lib.count s.data.toList [c]) s.data.toList:=by
 unfold spl;rw[Lib.splitB_data]
theorem A0(c:UInt8)(xs)(h:xs≠[])(hc:∀ x∈xs,∀ b∈x.data.toList,b≠c):spl c (Ru c xs)=xs:=by
 apply Fh
 rw[Zip,Qr]
 exact Pw c _ (by simpa using h) (λx hx b hb=>by
  obtain⟨y,hy,rfl⟩:=bN.1 hx;exact hc y hy b hb)
theorem Zoq(x r)(h:∀ b∈x,b≠58):Lib.cut (x++58 :: r) [58]=(x,r,true):=by
 have hi:Lib.index (x++58 :: r) [58]=(x.length:Int):=by rw[Lib.index_one];exact Fp 58 x r h
 unfold Lib.cut;rw[hi,if_pos (by omega),Int.toNat_natCast,List.take_left]
 have hd:(x++58 :: r).drop (x.length+([58]:List UInt8).length)=r:=by
  rw[List.length_singleton,<-List.drop_drop,List.drop_left];rfl
 rw[hd]
theorem Di:∀ (u:Nat),u<1000000000000->Lib.parseUint10 0 (Lib.decDigits u) = .ok u:=by
 intro u
 induction u using Nat.strongRecOn with
 | ind u ih=>
  intro hu;rw[Lib.decDigits];split
  ·rename_i h;have e:=Ri u h;simp only[Lib.parseUint10,e];rw[if_pos (by omega),if_neg (by omega),if_neg (by omega)]
   congr 1
   omega
  ·rename_i h;have e:=Ri (u % 10) (by omega);have:=Sw (Lib.decDigits (u / 10)) 0 (u / 10) (UInt8.ofNat (48+u % 10)) (ih (u / 10) (by omega) (by omega)) (by omega) (by omega) (by omega) (by omega);rw[this,e]
   congr 1
   omega
theorem Zcw(n:Int)(h0 : -10000000000<=n)(h1:n<=10000000000):Lib.atoiAll (Lib.itoa n) = .ok n:=by
 unfold Lib.itoa;split
 ·rename_i hn;have e:=Di n.natAbs (by omega);unfold Lib.atoiAll;have h45:(45:UInt8).toNat=45:=rfl;simp only[h45,or_true,if_true,Lib.parseMag,Lp,if_false,e];rw[if_neg (by omega),if_neg (by omega)]
  congr 1
  first|omega|(simp;omega)
 ·rename_i hn;have e:=Di n.toNat (by omega);have hd:=Vf n.toNat;have aa:=Lp n.toNat;generalize Lib.decDigits n.toNat=l at *;cases l with
  | nil=>exact absurd rfl aa
  | cons c r=>
   have hc:=hd c (by simp);have g1:¬(c.toNat=43\/c.toNat=45):=(by omega);have g2:¬c.toNat=45:=(by omega);have hm:Lib.parseMag (c :: r) = .ok n.toNat:=(by unfold Lib.parseMag;rw[if_neg aa];exact e);unfold Lib.atoiAll;dsimp only;rw[if_neg g1,hm];dsimp only;rw[if_neg (by omega),if_neg (by omega),if_neg g2]
   congr 1
   omega
theorem Qs(n:Int)(b:UInt8)(h:b∈Lib.itoa n):b≠32/\b≠58/\b≠10:=by
 have ab:∀ b:UInt8,48<=b.toNat/\b.toNat<=57->b≠32/\b≠58/\b≠10:=λb hb=>by
  refine⟨λe=>?_,λe=>?_,λe=>?_⟩ <;> (rw[e] at hb;exact absurd hb (by decide))
 unfold Lib.itoa at h;split at h
 ·simp only[aO] at h
  rcases h with rfl|h
  ·decide
  ·exact ab b (Vf _ b h)
 ·exact ab b (Vf _ b h)
theorem R9(n:Int):(Xj n).data.toList=Lib.itoa n:=by simp[Xj]
theorem B8(z:Int)(h : -10000000000<=z/\z<=10000000000):Rt (Xj z)=some z:=by
 unfold Rt;rw[R9,Zcw z h.1 h.2];simp
theorem T7:∀ (Z:List Int) (aa:ByteArray),(Yt aa Z).data.toList=aa.data.toList++((Z.map Xj).map (λx=>32 :: x.data.toList)).flatten
 | [],aa=>by simp[Yt]
 | z :: r,aa=>by
  have ih:=T7 r (aa++(⟨#[32]⟩++Xj z));have e:Yt aa (z :: r)=Yt (aa++(⟨#[32]⟩++Xj z)) r:=rfl;rw[e,ih];simp[bP]
theorem Zje(aa:ByteArray)(Z:List Int):Yt aa Z=Ru 32 (aa :: Z.map Xj):=by
 apply Um
 rw[T7,Qr,bY,Lib.join_cons,Lib.joinTail];simp[Function.comp_def]
theorem Zdp(ab:ByteArray)(Z:List Int)(hw:∀ b∈ab.data.toList,b≠32):spl 32 (Yt ab Z)=ab :: Z.map Xj:=by
 rw[Zje]
 exact A0 32 _ (by simp) (λx hx b hb=>by
  rcases aO.1 hx with rfl|hx
  ·exact hw b hb
  ·obtain⟨z,_,rfl⟩:=bN.1 hx;rw[R9] at hb;exact (Qs z b hb).1)
theorem J8(aa:ByteArray)(Z:List Int)(hw:∀ b∈aa.data.toList,b≠32)(hz:∀ z∈Z,-10000000000<=z/\z<=10000000000):Py (Yt aa Z) aa Z.length=some Z:=by
 unfold Py;rw[Zdp aa Z hw,if_pos ⟨rfl,by simp⟩];show Zbd (Z.map Xj)=some Z;unfold Zbd;rw[if_pos]
 ·congr 1
  rw[List.map_map]
  conv=>rhs;rw[<-List.map_id Z]
  apply List.map_congr_left
  intro z hm;show (Rt (Xj z)).getD 0=z;rw[B8 z (hz z hm)];rfl
 ·rw[List.all_eq_true];intro x hx;obtain⟨z,hm,rfl⟩:=bN.1 hx;rw[B8 z (hz z hm)];rfl
theorem Be(aa w2:ByteArray)(Z)(n:Nat)(hw:∀ b∈aa.data.toList,b≠32)(ab:aa≠w2):Py (Yt aa Z) w2 n=none:=by
 unfold Py;rw[Zdp aa Z hw,if_neg (λh=>ab h.1)]
def Uw(aa:ByteArray)(Z:List Int)(l:List (Int×Int)):ByteArray:=(Yt aa Z++⟨#[58]⟩)++Zv l
theorem Jk(ac:ByteArray)(Z)(c:UInt8)(hw:∀ b∈ac.data.toList,b≠c)(hc:c=58\/c=10):∀ b∈(Yt ac Z).data.toList,b≠c:=by
 intro b hb;rw[T7] at hb
 rcases bL.1 hb with hb|hb
 ·exact hw b hb
 ·obtain⟨y,hy,hb⟩:=List.mem_flatten.1 hb;obtain⟨x,hx,rfl⟩:=bN.1 hy;obtain⟨z,_,rfl⟩:=bN.1 hx
  rcases aO.1 hb with rfl|hb
  ·rcases hc with rfl|rfl <;> decide
  ·rw[R9] at hb
   rcases hc with rfl|rfl
   ·exact (Qs z b hb).2.1
   ·exact (Qs z b hb).2.2
theorem Cj(aa:ByteArray)(Z l)(hw:∀ b∈aa.data.toList,b≠58):Zre (Uw aa Z l)=Yt aa Z/\Zos (Uw aa Z l)=Zv l/\Zrf (Uw aa Z l)=true:=by
 have e:(Uw aa Z l).data.toList=(Yt aa Z).data.toList++58 :: (Zv l).data.toList:=by simp[Uw,bP]
 have hc:=Zoq (Yt aa Z).data.toList (Zv l).data.toList (Jk aa Z 58 hw (Or.inl rfl));unfold Zre Zos Zrf;rw[e,hc];exact⟨Um (by simp),Um (by simp),rfl⟩
theorem Gc(aa:ByteArray)(Z:List Int)(l)(hw:∀ b∈aa.data.toList,b≠32/\b≠58)(hz:∀ z∈Z,-10000000000<=z/\z<=10000000000)(hl:chk l=0):Qq (Uw aa Z l) aa Z.length=some (Z,l):=by
 obtain⟨h1,h2,h3⟩:=Cj aa Z l (λb hb=>(hw b hb).2);obtain⟨r1,r2⟩:=Zfl l hl;unfold Qq;rw[h3,h1,h2,J8 aa Z (λb hb=>(hw b hb).1) hz];show (if prE (Zv l)=0 then some (Z,prL (Zv l)) else none)=_;rw[if_pos r1,r2]
theorem Fi(aa w2:ByteArray)(Z l)(n:Nat)(hw:∀ b∈aa.data.toList,b≠32/\b≠58)(ad:aa≠w2):Qq (Uw aa Z l) w2 n=none:=by
 obtain⟨h1,h2,h3⟩:=Cj aa Z l (λb hb=>(hw b hb).2);unfold Qq;rw[h3,h1,Be aa w2 Z n (λb hb=>(hw b hb).1) ad];rfl
def inL(x:InD):ByteArray:=Uw inB [x.1,x.2.1] x.2.2
def Jp(x:Z3):ByteArray:=Uw outB [x.1] x.2
def Zce(s x:ByteArray):ByteArray:=s++(x++⟨#[10]⟩)
theorem N5:∀ (ls:List ByteArray) (s:ByteArray),(ls.foldl Zce (s++⟨#[10]⟩)).data.toList=s.data.toList++(ls.map (λx=>10 :: x.data.toList)).flatten++[10]
 | [],s=>by simp[bP]
 | x :: r,s=>by
  have e:(x :: r).foldl Zce (s++⟨#[10]⟩)=r.foldl Zce (((s++⟨#[10]⟩)++x)++⟨#[10]⟩):=by
   show r.foldl Zce ((s++⟨#[10]⟩)++(x++⟨#[10]⟩))=_
   congr 1
   exact Um (by simp[bP])
  rw[e,N5 r];simp[bP]
theorem Zgt(l0:ByteArray)(ls:List ByteArray):ls.foldl Zce (l0++⟨#[10]⟩)=Ru 10 (l0 :: ls)++⟨#[10]⟩:=by
 apply Um
 rw[N5,bP,Array.toList_append,Qr,bY,Lib.join_cons,Lib.joinTail];simp[Function.comp_def]
theorem Zkr(h:Int)(I:List InD):Y3 h I=(I.map inL).foldl Zce (Vs h):=by
 unfold Y3;rw[List.foldl_map];rfl
theorem Zfs(t:ByteArray)(O:List Z3):Xd t O=(O.map Jp).foldl Zce t:=by
 unfold Xd;rw[List.foldl_map];rfl
theorem Tx(h:Int)(I:List InD)(O:List Z3):Zy (h,I,O)=Ru 10 (Yt txB [h] :: (I.map inL++O.map Jp))++⟨#[10]⟩:=by
 rw[<-Zgt,List.foldl_append];show Xd (Y3 h I) O=_;rw[Zfs,Zkr];rfl
theorem Cz(s:ByteArray)(i j:Nat):(s.extract i j).data.toList=(s.data.toList.drop i).take (j - i):=by
 rw[ByteArray.data_extract,Array.toList_extract]
theorem Zfc(s:ByteArray):s.size=s.data.toList.length:=by rw[Array.length_toList];rfl
theorem Zgz(X:ByteArray):C8 (X++⟨#[10]⟩)=true/\Zlp (X++⟨#[10]⟩)=X:=by
 have ac:(X++(⟨#[10]⟩:ByteArray)).size=X.data.toList.length+1:=by rw[Ue X 10,Zfc]
 have hd:(X++(⟨#[10]⟩:ByteArray)).data.toList=X.data.toList++[10]:=by rw[bP,Array.toList_append]
 have e1:C8 (X++⟨#[10]⟩)=true:=by
  unfold C8 Zpo;rw[decide_eq_true (by omega),ac,ByteArray.toList_eq,Cz,hd,Nat.add_sub_cancel,List.drop_left];have:X.data.toList.length+1 - X.data.toList.length=1:=by omega
  rw[this];rfl
 refine⟨e1,?_⟩;unfold Zlp;rw[e1];show Zca _=X;unfold Zca
 apply Um
 rw[Cz,ac,hd,Nat.add_sub_cancel,List.drop_zero,Nat.sub_zero,List.take_left]
theorem Pz(q:Int×Int)(h:Xp q=0):∀ b∈(Yi q).data.toList,b≠10:=by
 intro b hb;unfold Yi at hb;split at hb
 ·have ab:b∈Lib.itoa q.2:=by simpa using hb
  exact (Qs _ b ab).2.2
 ·have hk:1<=q.1/\q.1<=13:=by
   obtain⟨k,n⟩:=q;simp only[Xp] at h;split at h
   ·cases h
   ·simp only;omega
  have all:∀ j:Fin 14,∀ b∈(Vp j.val).data.toList,b≠10:=by decide +kernel
  exact all ⟨q.1.toNat,by omega⟩ b hb
theorem Zjr(l)(h:chk l=0):∀ b∈(Zv l).data.toList,b≠10:=by
 have hL:U5 l=0:=by
  unfold chk at h;split at h
  ·cases h
  ·exact h
 have ab:∀ o∈l,Xp o=0:=λo ho=>by
  obtain⟨i,hi,rfl⟩:=List.getElem_of_mem ho;exact Qk hL i hi
 intro b hb;have hd:(Zv l).data.toList=bQ ((l.map Yi).map (·.data.toList)) [32]:=by simp[Zv]
 rw[hd] at hb;cases l with
 | nil=>cases hb
 | cons o r=>
  rw[bY,bY,Lib.join_cons,Lib.joinTail] at hb
  rcases bL.1 hb with hb|hb
  ·exact Pz o (ab o (by simp)) b hb
  ·obtain⟨y,hy,hb⟩:=List.mem_flatten.1 hb;obtain⟨x,hx,rfl⟩:=bN.1 hy;obtain⟨z,hz,rfl⟩:=bN.1 hx;obtain⟨q,hq,rfl⟩:=bN.1 hz
   rcases bL.1 hb with hb|hb
   ·have:b=32:=(by simpa using hb);subst this;decide
   ·exact Pz q (ab q (by simp[hq])) b hb
theorem Re(ab:ByteArray)(Z l)(hw:∀ b∈ab.data.toList,b≠10)(hl:chk l=0):∀ b∈(Uw ab Z l).data.toList,b≠10:=by
 intro b hb;have e:(Uw ab Z l).data.toList=(Yt ab Z).data.toList++58 :: (Zv l).data.toList:=by simp[Uw,bP]
 rw[e] at hb
 rcases bL.1 hb with hb|hb
 ·exact Jk ab Z 10 hw (Or.inr rfl) b hb
 ·rcases aO.1 hb with rfl|hb
  ·decide
  ·exact Zjr l hl b hb
theorem tx_signs:(∀ b∈txB.data.toList,b≠32/\b≠58/\b≠10)/\(∀ b∈inB.data.toList,b≠32/\b≠58/\b≠10)/\(∀ b∈outB.data.toList,b≠32/\b≠58/\b≠10):=by decide +kernel
theorem Zqi:outB≠inB:=by decide +kernel
theorem Cx(h:Int)(R):∀ (I P:List InD),(∀ x∈I,Pc x=true/\chk x.2.2=0)->Vw (h,P,[]) (I.map inL++R)=Vw (h,P++I,[]) R
 | [],P,_=>by simp
 | x :: r,P,hI=>by
  have hx:=hI x (by simp);have hp:=(Ke x).1 hx.1;have hl:Qq (inL x) inB 2=some ([x.1,x.2.1],x.2.2):=Gc inB [x.1,x.2.1] x.2.2 (λb hb=>⟨(tx_signs.2.1 b hb).1,(tx_signs.2.1 b hb).2.1⟩) (λz hz=>by simp at hz;omega) hx.2
  have hs:Hx (h,P,[]) (inL x)=some (h,P++[x],[]):=by
   unfold Hx;rw[hl];rfl
  rw[bY,bZ,Vw,hs];show Vw (h,P++[x],[]) (r.map inL++R)=_;rw[Cx h R r (P++[x]) (λy hy=>hI y (by simp[hy]))];simp
theorem Dd(h:Int)(P):∀ (O Q:List Z3),(∀ x∈O,(1<=x.1/\x.1<=1000000000)/\chk x.2=0)->Vw (h,P,Q) (O.map Jp)=some (h,P,Q++O)
 | [],Q,_=>by simp[Vw]
 | x :: r,Q,hO=>by
  have hx:=hO x (by simp);have hl:Qq (Jp x) outB 1=some ([x.1],x.2):=Gc outB [x.1] x.2 (λb hb=>⟨(tx_signs.2.2 b hb).1,(tx_signs.2.2 b hb).2.1⟩) (λz hz=>by simp at hz;omega) hx.2;have hn:Qq (Jp x) inB 2=none:=Fi outB inB [x.1] x.2 2 (λb hb=>⟨(tx_signs.2.2 b hb).1,(tx_signs.2.2 b hb).2.1⟩) Zqi
  have hs:Hx (h,P,Q) (Jp x)=some (h,P,Q++[x]):=by
   unfold Hx;rw[hn];show Gz (h,P,Q) (Jp x)=_;unfold Gz;rw[hl];rfl
  rw[bY,Vw,hs];show Vw (h,P,Q++[x]) (r.map Jp)=_;rw[Dd h P r (Q++[x]) (λy hy=>hO y (by simp[hy]))];simp
theorem Zdf(t)(hx:Zq t=0):Zdx (Zy t)=some t:=by
 obtain⟨h,I,O⟩:=t;have ok:=TxOk.of hx;have e:=Tx h I O;obtain⟨X,hX⟩:=ZF (Ru 10 (Yt txB [h] :: (I.map inL++O.map Jp)));rw[hX] at e;obtain⟨e1,e2⟩:=Zgz X
 have e3:G8 (X++⟨#[10]⟩)=Yt txB [h] :: (I.map inL++O.map Jp):=by
  unfold G8;rw[e2,<-hX];refine A0 10 _ (by simp) (λx hx b hb=>?_)
  rcases aO.1 hx with rfl|hx
  ·exact Jk txB [h] 10 (λb hb=>(tx_signs.1 b hb).2.2) (Or.inr rfl) b hb
  ·rcases bL.1 hx with hx|hx
   ·obtain⟨y,hy,rfl⟩:=bN.1 hx;exact Re inB _ _ (λb hb=>(tx_signs.2.1 b hb).2.2) (ok.ins y hy).2 b hb
   ·obtain⟨y,hy,rfl⟩:=bN.1 hx;exact Re outB _ _ (λb hb=>(tx_signs.2.2 b hb).2.2) (ok.outs y hy).2 b hb
 have hg:=ok.hgt;have e4:Py (Yt txB [h]) txB 1=some [h]:=J8 txB [h] (λb hb=>(tx_signs.1 b hb).1) (λz hz=>by simp at hz;simp only at hg;omega);rw[e];unfold Zdx;rw[e1,e3];show (match Py (Yt txB [h]) txB 1 with|some Z=>Vw (Z.getD 0 0,[],[]) (I.map inL++O.map Jp)|none=>none)=_;rw[e4];show Vw (h,[],[]) (I.map inL++O.map Jp)=_;rw[Cx h _ I [] ok.ins,Dd h _ O [] ok.outs];simp
theorem Zeq(t u)(ht:Zq t=0)(hu:Zq u=0)(e:Zy t=Zy u):t=u:=by
 have h1:=Zdf t ht;rw[e,Zdf u hu] at h1;injection h1 with h1;exact h1.symm
def unl(ls:List (List UInt8)):List UInt8:=(ls.map (· ++ [10])).flatten
theorem U8(x ls):unl (x :: ls)=x++10 :: unl ls:=by simp[unl]
theorem Zak(a b):unl (a++b)=unl a++unl b:=by simp[unl]
theorem Df:∀ (x y r s:List UInt8),(∀ b∈x,b≠10)->(∀ b∈y,b≠10)->x++10 :: r=y++10 :: s->x=y/\r=s
 | [],[],r,s,_,_,h=>by simpa using h
 | [],b :: y,r,s,_,hy,h=>by
  simp at h;exact absurd h.1.symm (hy b (by simp))
 | a :: x,[],r,s,hx,_,h=>by
  simp at h;exact absurd h.1 (hx a (by simp))
 | a :: x,b :: y,r,s,hx,hy,h=>by
  simp only[bZ,bC] at h;obtain⟨h1,h2⟩:=Df x y r s (λb hb=>hx b (by simp[hb])) (λb hb=>hy b (by simp[hb])) h.2;exact⟨by rw[h.1,h1],h2⟩
theorem Zdc:∀ (a b:List (List UInt8)),(∀ x∈a,∀ c∈x,c≠10)->(∀ x∈b,∀ c∈x,c≠10)->unl a=unl b->a=b
 | [],[],_,_,_=>rfl
 | [],y :: b,_,_,h=>by rw[U8] at h;simp[unl] at h
 | x :: a,[],_,_,h=>by rw[U8] at h;simp[unl] at h
 | x :: a,y :: b,ha,hb,h=>by
  rw[U8,U8] at h;obtain⟨h1,h2⟩:=Df x y _ _ (ha x (by simp)) (hb y (by simp)) h;rw[h1,Zdc a b (λz hz=>ha z (by simp[hz])) (λz hz=>hb z (by simp[hz])) h2]
theorem Cn:∀ (x:List UInt8) (ls:List (List UInt8)),bQ (x :: ls) [10]++[10]=unl (x :: ls)
 | x,[]=>by simp[bQ,unl]
 | x,y :: ls=>by
  have:=Cn y ls;rw[U8,<-this];simp[bQ]
def K8(t:TxD):List (List UInt8):=(Yt txB [t.1] :: (t.2.1.map inL++t.2.2.map Jp)).map (·.data.toList)
theorem Zal(t):(Zy t).data.toList=unl (K8 t):=by
 obtain⟨h,I,O⟩:=t;rw[Tx];show (Ru 10 (Yt txB [h] :: (I.map inL++O.map Jp))++⟨#[10]⟩:ByteArray).data.toList=_;have e:(Ru 10 (Yt txB [h] :: (I.map inL++O.map Jp))++⟨#[10]⟩:ByteArray).data.toList=(Ru 10 (Yt txB [h] :: (I.map inL++O.map Jp))).data.toList++[10]:=by simp[bP]
 rw[e,Qr];exact Cn _ _
def hd1(x:List UInt8):Option UInt8:=x.head?
theorem Bd(aa:ByteArray)(Z)(c:UInt8)(h:aa.data.toList.head? = some c):(Yt aa Z).data.toList.head? = some c:=by
 rw[T7];cases hw:aa.data.toList with
 | nil=>rw[hw] at h;cases h
 | cons a r=>rw[hw] at h;simpa using h
theorem Nx(aa:ByteArray)(Z l)(c:UInt8)(h:aa.data.toList.head? = some c):(Uw aa Z l).data.toList.head? = some c:=by
 have:=Bd aa Z c h;unfold Uw;cases hr:(Yt aa Z).data.toList with
 | nil=>rw[hr] at this;cases this
 | cons a r=>
  rw[hr] at this;simp[bP,hr] at this ⊢;exact this
theorem Qg(t):∃ x r,K8 t=x :: r/\x.head? = some 116/\∀ y∈r,y.head?≠some 116:=by
 refine⟨_,_,rfl,Bd txB _ 116 rfl,λy hy=>?_⟩;obtain⟨z,hz,rfl⟩:=bN.1 hy
 rcases bL.1 hz with hz|hz
 ·obtain⟨i,_,rfl⟩:=bN.1 hz;rw[show (inL i).data.toList.head? = some 105 from Nx inB _ _ 105 rfl];decide
 ·obtain⟨i,_,rfl⟩:=bN.1 hz;rw[show (Jp i).data.toList.head? = some 111 from Nx outB _ _ 111 rfl];decide
theorem Dj{α : Type}(P : α->Prop):∀ (a b r s:List α),(∀ x∈a,¬P x)->(∀ x∈b,¬P x)->(∀ x,r.head? = some x->P x)->(∀ x,s.head? = some x->P x)->a++r=b++s->a=b/\r=s
 | [],[],r,s,_,_,_,_,h=>by simpa using h
 | [],y :: b,r,s,_,hb,hr,_,h=>by
  simp only[List.nil_append,bZ] at h;exact absurd (hr y (by rw[h];rfl)) (hb y (by simp))
 | x :: a,[],r,s,ha,_,_,hs,h=>by
  simp only[List.nil_append,bZ] at h;exact absurd (hs x (by rw[<-h];rfl)) (ha x (by simp))
 | x :: a,y :: b,r,s,ha,hb,hr,hs,h=>by
  simp only[bZ,bC] at h;obtain⟨h1,h2⟩:=Dj P a b r s (λz hz=>ha z (by simp[hz])) (λz hz=>hb z (by simp[hz])) hr hs h.2;exact⟨by rw[h.1,h1],h2⟩
def Ui(T:List TxD):List (List UInt8):=(T.map K8).flatten
theorem K7(T):∀ x,(Ui T).head? = some x->x.head? = some 116:=by
 intro x hx;cases T with
 | nil=>simp[Ui] at hx
 | cons t T=>
  obtain⟨y,r,e,h1,_⟩:=Qg t;simp[Ui,e] at hx;rw[<-hx];exact h1
theorem Zko{t u}(ht:Zq t=0)(hu:Zq u=0)(e:K8 t=K8 u):t=u:=
 Zeq t u ht hu (Zcv (by rw[Zal,Zal,e]))
theorem Nw:∀ (T U:List TxD),(∀ t∈T,Zq t=0)->(∀ t∈U,Zq t=0)->Ui T=Ui U->T=U
 | [],[],_,_,_=>rfl
 | [],u :: U,_,_,h=>by
  obtain⟨y,r,e,_⟩:=Qg u;simp[Ui,e] at h
 | t :: T,[],_,_,h=>by
  obtain⟨y,r,e,_⟩:=Qg t;simp[Ui,e] at h
 | t :: T,u :: U,hT,hU,h=>by
  obtain⟨x,r,e1,_,h2⟩:=Qg t;obtain⟨y,s,e2,_,g2⟩:=Qg u;have h:K8 t++Ui T=K8 u++Ui U:=h;have h0:=h;rw[e1,e2,bZ,bZ,bC] at h;obtain⟨q1,q2⟩:=Dj (λz:List UInt8=>z.head? = some 116) r s _ _ h2 g2 (K7 T) (K7 U) h.2;have e:K8 t=K8 u:=by rw[e1,e2,h.1,q1]
  rw[Zko (hT t (by simp)) (hU u (by simp)) e,Nw T U (λz hz=>hT z (by simp[hz])) (λz hz=>hU z (by simp[hz])) q2]
theorem Zdd:∀ (T:List TxD),(Xr T).data.toList=unl (Ui T)
 | []=>rfl
 | t :: T=>by
  rw[Xr,show Ui (t :: T)=K8 t++Ui T from rfl,Zak];simp[bP,Zal,Zdd T]
theorem Zkn{t}(h:Zq t=0):∀ x∈K8 t,∀ c∈x,c≠10:=by
 intro x hx;obtain⟨z,hz,rfl⟩:=bN.1 hx;have ok:=TxOk.of h
 rcases aO.1 hz with rfl|hz
 ·exact Jk txB _ 10 (λb hb=>(tx_signs.1 b hb).2.2) (.inr rfl)
 ·rcases bL.1 hz with hz|hz
  ·obtain⟨i,hi,rfl⟩:=bN.1 hz;exact Re inB _ _ (λb hb=>(tx_signs.2.1 b hb).2.2) (ok.ins i hi).2
  ·obtain⟨i,hi,rfl⟩:=bN.1 hz;exact Re outB _ _ (λb hb=>(tx_signs.2.2 b hb).2.2) (ok.outs i hi).2
theorem Zbp{T}(h:∀ t∈T,Zq t=0):∀ x∈Ui T,∀ c∈x,c≠10:=by
 intro x hx;obtain⟨l,hl,hx⟩:=List.mem_flatten.1 hx;obtain⟨t,ht,rfl⟩:=bN.1 hl;exact Zkn (h t ht) x hx
theorem J2:∀ b∈blockB.data.toList,b≠32/\b≠58/\b≠10:=by decide +kernel
theorem Zej(b:Zk):(Yw b).data.toList=unl ((Yt blockB [b.1,b.2.1,b.2.2.1,b.2.2.2.1]).data.toList :: Ui b.2.2.2.2):=by
 rw[U8,<-Zdd];simp[Yw,bP]
theorem Da{p h k n:Int}(f:Wk p h k n=true):∀ z∈[p,h,k,n],-10000000000<=z/\z<=10000000000:=by
 simp only[Wk,Bool.and_eq_true,decide_eq_true_eq] at f;intro z hz;simp only[aO,List.not_mem_nil,or_false] at hz
 rcases hz with rfl|rfl|rfl|rfl <;> omega
theorem Zjd{Z Y:List Int}(hl:Z.length=Y.length)(hz:∀ z∈Z,-10000000000<=z/\z<=10000000000)(hy:∀ z∈Y,-10000000000<=z/\z<=10000000000)(e:(Yt blockB Z).data.toList=(Yt blockB Y).data.toList):Z=Y:=by
 have r1:=J8 blockB Z (λb hb=>(J2 b hb).1) hz;have r2:=J8 blockB Y (λb hb=>(J2 b hb).1) hy;rw[Zcv e,hl,r2] at r1;injection r1 with r1;exact r1.symm
theorem Dp{b:Zk}(hb:∀ t∈b.2.2.2.2,Zq t=0):∀ x∈(Yt blockB [b.1,b.2.1,b.2.2.1,b.2.2.2.1]).data.toList :: Ui b.2.2.2.2,∀ c∈x,c≠10:=by
 intro x hx
 rcases aO.1 hx with rfl|hx
 ·exact Jk blockB _ 10 (λb hb=>(J2 b hb).2.2) (.inr rfl)
 ·exact Zbp hb x hx
theorem Zcu{b c:Zk}(hb:Yq b=0)(hc:Yq c=0)(e:Yw b=Yw c):b=c:=by
 have f:=Ww (p:=b.1) (h:=b.2.1) (k:=b.2.2.1) (n:=b.2.2.2.1) (T:=b.2.2.2.2) hb;have g:=Ww (p:=c.1) (h:=c.2.1) (k:=c.2.2.1) (n:=c.2.2.2.1) (T:=c.2.2.2.2) hc;have e2:(Yw b).data.toList=(Yw c).data.toList:=congrArg (λx=>x.data.toList) e;have e3:=Zdc _ _ (Dp f.2.2.2.2) (Dp g.2.2.2.2) ((Zej b).symm.trans (e2.trans (Zej c)));have e4:=List.cons.inj e3;have hT:=Nw _ _ f.2.2.2.2 g.2.2.2.2 e4.2;have hZ:=Zjd (Z:=[b.1,b.2.1,b.2.2.1,b.2.2.2.1]) (Y:=[c.1,c.2.1,c.2.2.1,c.2.2.2.1]) rfl (Da f.1) (Da g.1) e4.1;obtain⟨p,h,k,n,T⟩:=b;obtain⟨p',h',k',n',U⟩:=c;simp only[bC,and_true] at hZ hT;obtain⟨h1,h2,h3,h4⟩:=hZ;rw[h1,h2,h3,h4,hT]
theorem Ga:∀ (l L:List ByteArray) (N:List Int) (M:List ByteArray) (N':List Int),Bk.nmGo L N l=(M,N',0)->N'=N++l.map (λs=>(Bk.place s M:Int))/\∀ s∈l,0<Bk.place s M/\s.size<=4000
 | [],L,N,M,N',h=>by
  unfold Bk.nmGo at h;injection h with _ h;injection h with h _;exact⟨by simp[h],λs hs=>by cases hs⟩
 | s :: r,L,N,M,N',h=>by
  rw[Bk.nmGo] at h;split at h
  ·next q=>
   obtain⟨p1,p2,p3⟩:=Bk.nm_place q;obtain⟨X,hX⟩:=Bk.nmGo_grows r (Bk.nm L s).1 (N++[(Bk.nm L s).2.1]) (by rw[h]);rw[h] at hX;simp only at hX;obtain⟨h1,h2⟩:=Ga r _ _ M N' h;have e:Bk.place s M=Bk.place s (Bk.nm L s).1:=(by rw[hX];exact Bk.place_stays X p2);refine⟨?_,λz hz=>?_⟩
   ·rw[h1,cS,p1,<-e];rfl
   ·rcases aO.1 hz with rfl|hz
    ·exact⟨by rw[e];exact p2,p3⟩
    ·exact h2 z hz
  ·next q=>
   injection h with _ h;injection h with _ h;exact absurd h q
theorem Ds{K l X N}(h:Bk.allR K l=(X,N,0)):Bk.Right K/\Bk.nmGo K [] l=(X,N,0):=by
 unfold Bk.allR at h;split at h
 ·next q=>exact⟨(Bk.right_iff K).1 q,h⟩
 ·next q=>
  injection h with _ h;injection h with _ h;exact absurd h q
theorem Zcy{K l X N}(h:Bk.allR K l=(X,N,0)):Bk.Right X/\∃ M,X=K++M:=by
 obtain⟨h1,h2⟩:=Ds h;have r:=Bk.nmGo_right l K [] h1 (by rw[h2]);have g:=Bk.nmGo_grows l K [] (by rw[h2]);rw[h2] at r g;exact⟨r,g⟩
theorem Zjy{K}{b:Zk}{X}{n:Int}{ns}(h:Xl K b=(X,n,ns,0)):Yq b=0/\Bk.Right X/\(∀ s∈Yb b,0<Bk.place s X/\s.size<=4000)/\n=(Bk.place (Yw b) X:Int)/\ns=b.2.2.2.2.map (λt=>(Bk.place (Zy t) X:Int))/\∃ M,X=K++M:=by
 unfold Xl at h;split at h
 ·next q=>
  injection h with _ h;injection h with _ h;injection h with _ h;exact absurd h q
 ·next q=>
  split at h
  ·next q2=>
   injection h with _ h;injection h with _ h;injection h with _ h;exact absurd h q2
  ·next q2=>
   obtain⟨X',N,x,e⟩:∃ X' N x,Bk.allR K (Yb b)=(X',N,x):=⟨_,_,_,rfl⟩;rw[e] at h q2;obtain rfl:x=0:=Decidable.not_not.1 q2;injection h with h1 h;injection h with h2 h;injection h with h3 _;simp only at h1 h2 h3;subst h1;obtain⟨r,g⟩:=Zcy e;obtain⟨p1,p2⟩:=Ga _ _ _ _ _ (Ds e).2;rw[List.nil_append] at p1;refine⟨Decidable.not_not.1 q,r,p2,?_,?_,g⟩
   ·rw[<-h2,p1];simp[Yb]
   ·rw[<-h3,p1];simp[Yb]
theorem hasP_no{p:PtD}{L}:Wx p L=false↔∀ c∈L,pt c≠p:=by
 rw[<-Bool.not_eq_true,Jw];exact⟨λh c hc e=>h ⟨c,hc,e⟩,λh ⟨c,hc,e⟩=>h c hc e⟩
theorem Sr{L M S}{t:TxD}{name h:Int}(e:apD L t name h=(0,M,S)):Vj L t name h=0/\∃ M2,Zr h t.2.1 [] L=(0,S,M2)/\Eh S t=0/\Yc name h (isR t) 0 t.2.2 M2=(0,M)/\Z8 M=0:=by
 obtain⟨x1,h1⟩:=ZF (Vj L t name h);obtain⟨⟨x2,S2,M2⟩,h2⟩:=ZF (Zr h t.2.1 [] L);obtain⟨x3,h3⟩:=ZF (Eh S2 t);obtain⟨⟨x4,M4⟩,h4⟩:=ZF (Yc name h (isR t) 0 t.2.2 M2);obtain⟨x5,h5⟩:=ZF (Z8 M4);rw[Zlw h1 h2 h3 h4 h5] at e;split at e
 ·rename_i q;injection e with e _;exact absurd e q
 rename_i q1;split at e
 ·rename_i q;injection e with e _;exact absurd e q
 rename_i q2;split at e
 ·rename_i q;injection e with e _;exact absurd e q
 rename_i q3;split at e
 ·rename_i q;injection e with e _;exact absurd e q
 rename_i q4;split at e
 ·rename_i q;injection e with e _;exact absurd e q
 rename_i q5;have e1:x1=0:=by omega
 have e2:x2=0:=by omega
 have e3:x3=0:=by omega
 have e4:x4=0:=by omega
 have e5:x5=0:=by omega
 injection e with _ e;injection e with ea eb;subst e1 e2 e3 e4 e5 ea eb;exact⟨h1,M2,h2,h3,h4,h5⟩
theorem Li(name h:Int)(r:Bool):∀ (O:List Z3) (i:Nat) (L M:List Zj),Srt L->Yc name h r i O L=(0,M) ->
  Srt M/\(∀ x,x∈M↔x∈L\/∃ j,∃ hj:j<O.length,x=Pe name (i+j) O[j] h r)/\(∀ j,j<O.length->Wx (name,((i+j:Nat):Int)) L=false)
 | [],i,L,M,hs,e=>by
  unfold Yc at e;injection e with _ e;subst e;exact⟨hs,λx=>⟨.inl,λq=>q.elim id λ⟨j,hj,_⟩=>absurd hj (by simp)⟩,λj hj=>absurd hj (by simp)⟩
 | o :: q,i,L,M,hs,e=>by
  unfold Yc at e;split at e
  ·injection e with e _;cases e
  ·rename_i hf;have ab:Wx (pt (Pe name i o h r)) L=false:=(by simpa[Pe,pt] using hf);obtain⟨h1,h2,h3⟩:=Li name h r q (i+1) _ M (T9 hs) e;refine⟨h1,λx=>?_,λj hj=>?_⟩
   ·rw[h2 x,Ky ab];constructor
    ·rintro ((rfl|g)|⟨j,hj,rfl⟩)
     ·exact .inr ⟨0,by simp,by simp⟩
     ·exact .inl g
     ·exact .inr ⟨j+1,by simpa using hj,by simp[Nat.add_assoc,Nat.add_comm 1 j]⟩
    ·rintro (g|⟨j,hj,rfl⟩)
     ·exact .inl (.inr g)
     ·cases j with
      | zero=>exact .inl (.inl (by simp))
      | succ j=>exact .inr ⟨j,by simpa using hj,by simp[Nat.add_assoc,Nat.add_comm 1 j]⟩
   ·cases j with
    | zero=>simpa[Pe,pt] using ab
    | succ j=>
     have:=h3 j (by simpa using hj);rw[show i+1+j=i+(j+1) by omega] at this;refine hasP_no.2 λc hc=>(hasP_no.1 this) c ((Ky ab).2 (.inr hc))
theorem E8(name h:Int)(r:Bool)(O:List Z3)(L)(hL:Srt L)(ad:∀ j,j<O.length->Wx (name,((j:Nat):Int)) L=false):∀ (m k:Nat) (N:List Zj),m+k=O.length->Srt N->(∀ x,x∈N↔x∈L\/∃ j,∃ hj:j<O.length,k<=j/\x=Pe name j O[j] h r)->Vh name k (O.drop k) N=(0,L)
 | 0,k,N,hm,hN,hx=>by
  rw[bU (by omega),Vh]
  rw[Srt.ext hN hL λx=>by
   rw[hx x];exact⟨λq=>q.elim id λ⟨j,hj,hk,_⟩=>absurd hj (by omega),.inl⟩]
 | m+1,k,N,hm,hN,hx=>by
  have hk:k<O.length:=by omega
  have af:Pe name k O[k] h r∈N:=(hx _).2 (.inr ⟨k,hk,Nat.le_refl _,rfl⟩);have ht:=Nd (p:=(name,(k:Int))) hN af rfl;rw[aJ hk,Vh,ht];simp only;rw[if_pos (by rfl)];refine E8 name h r O L hL ad m (k+1) _ (by omega) (hN.filter _) λx=>?_;rw[List.mem_filter,hx x,decide_eq_true_eq];constructor
  ·rintro ⟨g|⟨j,hj,ae,rfl⟩,ag⟩
   ·exact .inl g
   ·refine .inr ⟨j,hj,?_,rfl⟩
    rcases Nat.lt_or_ge k j with q|q
    ·exact q
    ·obtain rfl:j=k:=(by omega);exact absurd rfl ag
  ·rintro (g|⟨j,hj,ae,rfl⟩)
   ·exact⟨.inl g,(hasP_no.1 (ad k hk)) x g⟩
   ·refine⟨.inr ⟨j,hj,by omega,rfl⟩,λq=>?_⟩;have q2:((j:Nat):Int)=((k:Nat):Int):=congrArg Prod.snd q;omega
theorem Av{p:PtD}{c:Zj}:∀ {L:List Zj},Srt L->c∈L->pt c=p->Zp L=cv c+Zp (L.filter λd=>decide (pt d≠p))
 | [],_,hc,_=>by cases hc
 | d :: r,hs,hc,e=>by
  rw[Xt]
  rcases aO.1 hc with rfl|hc
  ·rw[List.filter_cons_of_neg (by simp[e])]
   have:r.filter (λd=>decide (pt d≠p))=r:=by
    rw[List.filter_eq_self];intro y hy;exact decide_eq_true (λq=>Sg (hs.head y hy) (by rw[e,q]))
   rw[this]
  ·have ab:pt d≠p:=λq=>Sg (hs.head c hc) (by rw[e,q]);rw[List.filter_cons_of_pos (by simp[ab]),Xt,Av hs.tail hc e];omega
theorem Uu(h:Int):∀ (I:List InD) (S0 L S M:List Zj),Srt L->Zr h I S0 L=(0,S,M) ->
  Srt M/\∃ T,S=S0++T/\T.length=I.length/\(∀ j (h1:j<T.length) (h2:j<I.length),pt T[j]=(I[j].1,I[j].2.1))/\(∀ x,x∈L↔x∈M\/x∈T)/\(∀ x∈T,Wx (pt x) M=false)/\T.Pairwise (λa b=>pt a≠pt b)/\Zp L=Zp M+Zp T
 | [],S0,L,S,M,hs,e=>by
  unfold Zr at e;injection e with _ e;injection e with e1 e2;subst e1 e2;exact⟨hs,[],by simp,rfl,λj h1=>absurd h1 (by simp),λx=>by simp,λx hx=>(by cases hx),List.Pairwise.nil,by simp[Zp]⟩
 | x :: r,S0,L,S,M,hs,e=>by
  unfold Zr at e;split at e
  ·injection e with e _;cases e
  ·rename_i c L' ht;split at e
   ·injection e with e _;cases e
   ·split at e
    ·injection e with e _;cases e
    ·obtain⟨t1,t2,t3⟩:=Ta ht;obtain⟨h1,T,h2,h3,h4,h5,h6,h7,h8⟩:=Uu h r _ L' S M (by rw[t3];exact hs.filter _) e;have ab:∀ y,y∈L'↔y∈L/\pt y≠(x.1,x.2.1):=λy=>by rw[t3,List.mem_filter,decide_eq_true_eq]
     refine⟨h1,c :: T,by rw[h2,cS];rfl,by simp[h3],λj h1 h2=>?_,λy=>?_,λy hy=>?_,?_,?_⟩
     ·cases j with
      | zero=>exact t2
      | succ j=>exact h4 j (by simpa using h1) (by simpa using h2)
     ·constructor
      ·intro hy;by_cases q:pt y=(x.1,x.2.1)
       ·exact .inr (by rw[hs.inj hy t1 (by rw[q,t2])];exact List.mem_cons_self ..)
       ·rcases (h5 y).1 ((ab y).2 ⟨hy,q⟩) with g|g
        ·exact .inl g
        ·exact .inr (List.mem_cons_of_mem _ g)
      ·rintro (g|g)
       ·exact ((ab y).1 ((h5 y).2 (.inl g))).1
       ·rcases aO.1 g with rfl|g
        ·exact t1
        ·exact ((ab y).1 ((h5 y).2 (.inr g))).1
     ·rcases aO.1 hy with rfl|hy
      ·refine hasP_no.2 λd hd e=>?_;exact ((ab d).1 ((h5 d).2 (.inl hd))).2 (by rw[e,t2])
      ·exact h6 y hy
     ·refine List.pairwise_cons.2 ⟨λy hy e=>?_,h7⟩;exact ((ab y).1 ((h5 y).2 (.inr hy))).2 (by rw[<-e,t2])
     ·have h9:=Av hs t1 t2;rw[<-t3] at h9;rw[h9,h8,Xt];omega
theorem Bl(I:List InD)(S M2 L:List Zj)(an:S.length=I.length)(hL:Srt L)(ah:∀ j (h1:j<S.length) (h2:j<I.length),pt S[j]=(I[j].1,I[j].2.1))(af:∀ x,x∈L↔x∈M2\/x∈S)(ad:∀ x∈S,Wx (pt x) M2=false)(aj:S.Pairwise (λa b=>pt a≠pt b)) :
  ∀ (m k:Nat) (N:List Zj),m+k=S.length->Srt N->(∀ x,x∈N↔x∈M2\/x∈S.take k)->Uh (I.drop k) (S.drop k) N=(0,L)
 | 0,k,N,hm,hN,hx=>by
  rw[bU (by omega),bU (by omega),Uh]
  ·rw[Srt.ext hN hL λx=>by rw[hx x,af x,List.take_of_length_le (by omega)]]
  ·intro _ _ _ _ h;cases h
 | m+1,k,N,hm,hN,hx=>by
  have hk:k<S.length:=by omega
  have ae:k<I.length:=by omega
  have ag:Wx (pt S[k]) N=false:=hasP_no.2 λc hc e=>by
   rcases (hx c).1 hc with g|g
   ·exact (hasP_no.1 (ad _ (List.getElem_mem hk))) c g e
   ·obtain⟨j,hj,rfl⟩:=List.mem_take_iff_getElem.1 g;have am:j<k:=(by omega);exact (List.pairwise_iff_getElem.1 aj j k (by omega) hk am) e
  rw[aJ hk,aJ ae,Uh,if_neg (by
   rintro (q|q)
   ·exact q (ah k hk ae)
   ·rw[ag] at q;cases q)]
  refine Bl I S M2 L an hL ah af ad aj m (k+1) _ (by omega) (T9 hN) λx=>?_;rw[Ky ag,hx x,List.take_succ_eq_append_getElem hk,bL,cP];constructor
  ·rintro (rfl|g|g)
   ·exact .inr (.inr rfl)
   ·exact .inl g
   ·exact .inr (.inl g)
  ·rintro (g|g|rfl)
   ·exact .inr (.inl g)
   ·exact .inr (.inr g)
   ·exact .inl rfl
theorem Zpa{L M S t}{name h:Int}(e:apD L t name h=(0,M,S)):rvD M t name S=(0,L):=by
 obtain⟨h1,M2,h2,h3,h4,h5⟩:=Sr e;obtain⟨hR,hT,_,_,_⟩:=Xx h1;obtain⟨s1,T,s2,s3,s4,s5,s6,s7,s8⟩:=Uu h _ _ _ _ _ hR.srt h2;rw[List.nil_append] at s2;subst s2;obtain⟨g1,g2,g3⟩:=Li name h _ _ _ _ _ s1 h4
 have hb:Vh name 0 t.2.2 M=(0,M2):=by
  have:=E8 name h (isR t) t.2.2 M2 s1 (λj hj=>by have:=g3 j hj;rwa [Nat.zero_add] at this) t.2.2.length 0 M (by omega) g1 (λx=>by
   rw[g2 x];constructor
   ·rintro (q|⟨j,hj,rfl⟩)
    ·exact .inl q
    ·exact .inr ⟨j,hj,Nat.zero_le _,by rw[Nat.zero_add]⟩
   ·rintro (q|⟨j,hj,_,rfl⟩)
    ·exact .inl q
    ·exact .inr ⟨j,hj,by rw[Nat.zero_add]⟩)
  simpa using this
 have hp:Uh t.2.1 S M2=(0,L):=by
  have:=Bl t.2.1 S M2 L s3 hR.srt s4 s5 s6 s7 S.length 0 M2 (by omega) s1 (λx=>by simp);simpa using this
 have hc:Z8 L=0:=(Z7 L).2 hR;have aj:Vx M t=0:=by unfold Vx;rw[if_neg (by rw[h5];decide)];exact hT
 rw[Zqf aj hb hp hc,if_neg (by decide),if_neg (by rw[s3];simp),if_neg (by decide),if_neg (by decide),if_neg (by decide)]
