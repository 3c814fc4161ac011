import Derived.Test.YtmomfkikogbdeaaGreatDoorH
import Derived.Test.YtmomfkikogbdeaaGreatDoorG20
open ByteArray renaming data_append->cO
open Go.IntKind renaming i64->J
open Go.Lib renaming join->bN
open Go.Obj renaming cells->cZ
open Go.Value renaming int->E,slice->F
open List renaming mem_singleton->bX,mem_append->bA,mem_cons->aU,map_cons->bO,mem_map->cP,append_assoc->bZ,mem_filter->cU,drop_of_length_le->bM,drop_eq_getElem_cons->aI,mem_cons_self->cV
namespace Go.Proofs.YtmomfkikogbdeaaGreatDoor
open Go.RowKit
def spl(c:UInt8)(s:ByteArray):List ByteArray:=Lib.splitB ⟨#[c]⟩ 0 (Lib.countB s ⟨#[c]⟩) s
def Zav(r:List ByteArray):Option (List Int):=if r.all (λx=>(R9 x).isSome) then some (r.map λx=>(R9 x).getD 0) else none
def Gl(s z:ByteArray)(count:Nat):Option (List Int):=if (spl 32 s).getD 0 ⟨#[]⟩=z/\(spl 32 s).length=count+1 then Zav ((spl 32 s).drop 1) else none
def Zrv(s:ByteArray):ByteArray:=⟨(Lib.cut s.data.toList [58]).1.toArray⟩
def Zpd(s:ByteArray):ByteArray:=⟨(Lib.cut s.data.toList [58]).2.1.toArray⟩
def Zrw(s:ByteArray):Bool:=(Lib.cut s.data.toList [58]).2.2
def Jb(s z:ByteArray)(count:Nat):Option (List Int×List (Int×Int)):=
 if Zrw s then (match Gl (Zrv s) z count with|some Z=>if prE (Zpd s)=0 then some (Z,prL (Zpd s)) else none|none=>none) else none
def Zqb(s:ByteArray):ByteArray:=s.extract (s.size - 1) s.size
def Zbx(s:ByteArray):ByteArray:=s.extract 0 (s.size - 1)
def Cz(s:ByteArray):Bool:=decide (1<=s.size) && ((Zqb s).toList == [10])
def Zmi(s:ByteArray):ByteArray:=if Cz s then Zbx s else s
def Hp(t:TxD)(s:ByteArray):Option TxD:=match Jb s outB 1 with|some (Z,L)=>some (t.1,t.2.1,t.2.2++[(Z.getD 0 0,L)])|none=>none
def Kf(t:TxD)(s:ByteArray):Option TxD:=
 match Jb s inB 2 with
 | some (Z,L)=>if t.2.2.length=0 then some (t.1,t.2.1++[(Z.getD 0 0,Z.getD 1 0,L)],t.2.2) else Hp t s
 | none=>Hp t s
def Ub:TxD->List ByteArray->Option TxD
 | t,[]=>some t
 | t,x :: r=>(Kf t x).bind λu=>Ub u r
def Hr(s:ByteArray):List ByteArray:=spl 10 (Zmi s)
def Zec(s:ByteArray):Option TxD:=
 if Cz s then (match Gl ((Hr s).getD 0 ⟨#[]⟩) txB 1 with|some Z=>Ub (Z.getD 0 0,[],[]) ((Hr s).drop 1)|none=>none) else none
def Zee:List (InD×Value)->List Value
 | []=>[]
 | x :: r=>E J x.1.1 :: E J x.1.2.1 :: x.2 :: Zee r
def Bl:List (Zy×Value)->List Value
 | []=>[]
 | x :: r=>E J x.1.1 :: x.2 :: Bl r
theorem Vy{w w':World}{base:Nat}{e:TypeId}{size:Nat}{v}{n:Nat}{xs}(h:w.ownsRow base e size v n xs)(hk:∀ (k:Nat) (cs:Array Value),w.heap[k]? = some (cZ cs e (0,0))->w'.heap[k]? = w.heap[k]?):w'.ownsRow base e size v n xs:=by
 obtain⟨hl,h0|⟨g,cap,z,hv,hg,Q,r⟩⟩:=h
 ·exact⟨hl,.inl h0⟩
 ·exact⟨hl,.inr ⟨g,cap,z,hv,hg,(hk g z Q).trans Q,r⟩⟩
structure PL(w:World)(q p lb:Nat)(A:Array Value)(h:Int)(wr:World)(v1 v2:Value)(L1:List (InD×Value))(L2:List (Zy×Value)):Prop where
 box:wr.heap[p]? = some (cZ #[E J h,v1,v2] 59 (0,0))
 res:wr.heap[q]? = some (cZ #[E J 0,F none 0 0,F none 0 0] 59 (0,0))
 pq:p≠q
 lin:wr.heap[lb]? = some (cZ A 9 (0,0))
 own1:wr.ownsRow w.heap.size 119 3 v1 L1.length (Zee L1)
 own2:wr.ownsRow w.heap.size 122 2 v2 L2.length (Bl L2)
 keys1:∀ x∈L1,wr.ownsRow w.heap.size 164 2 x.2 x.1.2.2.length (flat x.1.2.2)
 keys2:∀ x∈L2,wr.ownsRow w.heap.size 164 2 x.2 x.1.2.length (flat x.1.2)
 bel:ZD w wr
 pge:w.heap.size<=p
theorem PL.later{w}{q p lb:Nat}{A}{h:Int}{wr w':World}{v1 v2 L1 L2}(s:PL w q p lb A h wr v1 v2 L1 L2)(z:ZD wr w'):PL w q p lb A h w' v1 v2 L1 L2 where
 box:=ZE z s.box
 res:=ZE z s.res
 pq:=s.pq
 lin:=ZE z s.lin
 own1:=Si s.own1 z
 own2:=Si s.own2 z
 keys1:=λx hx=>Si (s.keys1 x hx) z
 keys2:=λx hx=>Si (s.keys2 x hx) z
 bel:=Zf s.bel z
 pge:=s.pge
theorem Ge{w w':World}{base:Nat}{e:TypeId}{size:Nat}{v:Value}{n:Nat}{xs}(h:w.ownsRow base e size v n xs)(hg:w.grownBy w' v.ownBlock)(k:Nat)(cs)(t:TypeId)(hk:w.heap[k]? = some (cZ cs t (0,0)))(ht:t≠e):w'.heap[k]? = w.heap[k]?:=by
 refine hg.block k (lt_of_block hk) (λQ=>?_);obtain⟨_,⟨rfl,_⟩|⟨g,cap,ae,rfl,_,z,_⟩⟩:=h
 ·cases Q
 ·have e2:k=g:=by injection Q
  subst e2;rw[hk] at z;injection z with z;injection z with _ z;exact ht z
theorem PL.alloc{w}{q p lb:Nat}{A}{h:Int}{wr:World}{v1 v2 L1 L2}(s:PL w q p lb A h wr v1 v2 L1 L2)(o:Obj):PL w q p lb A h (wr.alloc o) v1 v2 L1 L2:=s.later (Zh wr o)
theorem PL.drewN{w}{q p lb:Nat}{A}{h:Int}{wr:World}{v1 v2 L1 L2}(s:PL w q p lb A h wr v1 v2 L1 L2)(n:Nat):PL w q p lb A h (wr.drewN n) v1 v2 L1 L2:=
 s.later ⟨rfl,rfl,rfl,Nat.le_refl _,λ_ _=>rfl⟩
theorem Ru(d:Nat)(h:d<10):(UInt8.ofNat (48+d)).toNat=48+d:=by
 have:∀ m:Fin 10,(UInt8.ofNat (48+m.val)).toNat=48+m.val:=by decide
 exact this ⟨d,h⟩
theorem Pi:∀ (l:List UInt8) (z m:Nat) (c:UInt8),Lib.parseUint10 z l = .ok m->48<=c.toNat->c.toNat<=57->m*10+(c.toNat - 48)<18446744073709551616->m<1844674407370955162 ->
  Lib.parseUint10 z (l++[c]) = .ok (m*10+(c.toNat - 48))
 | [],z,m,c,h,h1,h2,h3,h4=>by
  simp only[Lib.parseUint10] at h;injection h with h;subst h;simp only[List.nil_append,Lib.parseUint10];rw[if_pos ⟨h1,h2⟩,if_neg (by omega),if_neg (by omega)]
 | x :: r,z,m,c,h,h1,h2,h3,h4=>by
  simp only[List.cons_append,Lib.parseUint10] at h ⊢;split at h
  ·rename_i hx;rw[if_pos hx];split at h
   ·cases h
   ·rename_i g1;rw[if_neg g1];split at h
    ·cases h
    ·rename_i g2;rw[if_neg g2];exact Pi r _ m c h h1 h2 h3 h4
  ·cases h
theorem C8:∀ (u:Nat),u<10000000->Lib.parseUint10 0 (Lib.decDigits u) = .ok u:=by
 intro u
 induction u using Nat.strongRecOn with
 | ind u ih=>
  intro z;rw[Lib.decDigits];split
  ·rename_i h;have e:=Ru u h;simp only[Lib.parseUint10,e];rw[if_pos (by omega),if_neg (by omega),if_neg (by omega)]
   congr 1
   omega
  ·rename_i h;have e:=Ru (u % 10) (by omega);have:=Pi (Lib.decDigits (u / 10)) 0 (u / 10) (UInt8.ofNat (48+u % 10)) (ih (u / 10) (by omega) (by omega)) (by omega) (by omega) (by omega) (by omega);rw[this,e]
   congr 1
   omega
theorem Vo:∀ (u:Nat) (b:UInt8),b∈Lib.decDigits u->48<=b.toNat/\b.toNat<=57:=by
 intro u
 induction u using Nat.strongRecOn with
 | ind u ih=>
  intro b z;rw[Lib.decDigits] at z;split at z
  ·rename_i h;simp only[bX] at z;rw[z,Ru u h];omega
  ·rename_i h;simp only[bA,bX] at z
   rcases z with z|z
   ·exact ih (u / 10) (by omega) b z
   ·rw[z,Ru (u % 10) (by omega)];omega
theorem L7(u:Nat):Lib.decDigits u≠[]:=by
 intro e;have:=Lib.decDigits_length u;rw[e] at this;have:=Lib.nDigits_pos u;simp at *;omega
theorem Zij(n:Int)(h0 : -1000000<=n)(h1:n<=1000000):Lib.atoiAll (Lib.itoa n) = .ok n:=by
 unfold Lib.itoa;split
 ·rename_i hn;have e:=C8 n.natAbs (by omega);unfold Lib.atoiAll;have h45:(45:UInt8).toNat=45:=rfl;simp only[h45,or_true,if_true,Lib.parseMag,L7,if_false,e];rw[if_neg (by omega),if_neg (by omega)]
  congr 1
  first|omega|(simp;omega)
 ·rename_i hn;have e:=C8 n.toNat (by omega);have Q:=Vo n.toNat;have z:=L7 n.toNat;generalize Lib.decDigits n.toNat=l at *;cases l with
  | nil=>exact absurd rfl z
  | cons c r=>
   have hc:=Q c (by simp);have g1:¬(c.toNat=43\/c.toNat=45):=(by omega);have g2:¬c.toNat=45:=(by omega);have hm:Lib.parseMag (c :: r) = .ok n.toNat:=(by unfold Lib.parseMag;rw[if_neg z];exact e);unfold Lib.atoiAll;dsimp only;rw[if_neg g1,hm];dsimp only;rw[if_neg (by omega),if_neg (by omega),if_neg g2]
   congr 1
   omega
theorem Zbp(n:Int)(b:UInt8)(h:b∈Lib.itoa n):b≠32:=by
 unfold Lib.itoa at h;have key:∀ b:UInt8,48<=b.toNat->b≠32:=λb z e=>by rw[e] at z;exact absurd z (by decide)
 split at h
 ·simp only[aU] at h
  rcases h with rfl|h
  ·decide
  ·exact key b (Vo _ b h).1
 ·exact key b (Vo _ b h).1
theorem Zop(n:Int):Lib.itoa n≠[]:=by
 unfold Lib.itoa;split
 ·simp
 ·exact L7 _
theorem Zba:∀ k:Fin 14,2<=k.val->(∀ b∈(Vz k.val).data.toList,b≠32)/\(Vz k.val).data.toList≠[]/\Lib.atoiAll (Vz k.val).data.toList = .«syntax»:=by decide +kernel
theorem Zgv:∀ k:Fin 14,2<=k.val->Zbn (Vz k.val)=some k.val:=by decide +kernel
theorem Zcq{k n:Int}(h:Xy (k,n)=0):(k=1/\-1000000<=n/\n<=1000000)\/(2<=k/\k<=13/\n=0):=by
 simp only[Xy] at h;split at h
 ·cases h
 ·rename_i h1;split at h
  ·cases h
  ·rename_i h2;simp only[not_or,Bool.not_eq_false,not_and] at h1 h2;have Q:=(Uk n).1 h2.2;by_cases z:k=1
   ·exact Or.inl ⟨z,Q⟩
   ·refine Or.inr ⟨by omega,by omega,?_⟩;have:=h2.1 z;omega
theorem Fa(o:Int×Int)(h:Xy o=0):(∀ b∈(Yr o).data.toList,b≠32)/\(Yr o).data.toList≠[]/\D8 (Yr o)=some o:=by
 obtain⟨k,n⟩:=o
 rcases Zcq h with ⟨rfl,h0,h1⟩|⟨h2,h3,rfl⟩
 ·have e:Yr (1,n)=Xv n:=rfl;rw[e];refine⟨λb hb=>Zbp n b (by simpa[Xv] using hb),by simpa[Xv] using Zop n,?_⟩
  have Q:R9 (Xv n)=some n:=by
   unfold R9;have:Lib.atoiAll (Xv n).data.toList = .ok n:=(by simpa[Xv] using Zij n h0 h1);rw[this];simp
  unfold D8;rw[Q]
 ·obtain⟨m,rfl⟩:=Int.eq_ofNat_of_zero_le (show 0<=k by omega);have e:Yr ((m:Int),0)=Vz m:=by simp[Yr];intro h;omega
  have z:=Zba ⟨m,by omega⟩ (by show 2<=m;omega);have hk:=Zgv ⟨m,by omega⟩ (by show 2<=m;omega);rw[e];refine⟨z.1,z.2.1,?_⟩
  have Q:R9 (Vz m)=none:=by
   unfold R9;have h3:Lib.atoiAll (Vz m).data.toList = .«syntax»:=z.2.2;rw[h3]
  unfold D8;rw[Q];have ac:Zbn (Vz m)=some m:=hk;rw[ac];rfl
theorem Dm:∀ (x:List UInt8),(∀ b∈x,b≠32)->Lib.indexByte x 32 = -1
 | [],_=>rfl
 | b :: r,h=>by
  unfold Lib.indexByte;have z:(b == 32)=false:=by simpa using h b (by simp)
  rw[z,Dm r (λc Q=>h c (by simp[Q]))];rfl
theorem Et:∀ (x r:List UInt8),(∀ b∈x,b≠32)->Lib.indexByte (x++32 :: r) 32=x.length
 | [],r,_=>rfl
 | b :: x,r,h=>by
  have ih:=Et x r (λc Q=>h c (by simp[Q]));rw[List.cons_append];unfold Lib.indexByte;have z:(b == 32)=false:=by simpa using h b (by simp)
  rw[z,ih];have aa:((x.length:Int) == -1)=false:=by rw[beq_eq_false_iff_ne];omega
  rw[aa];simp
theorem Kg:∀ (xs:List (List UInt8)),xs≠[]->(∀ x∈xs,∀ b∈x,b≠32)->Lib.splitK [32] 0 (Lib.count (bN xs [32]) [32]) (bN xs [32])=xs
 | [],h,_=>absurd rfl h
 | [x],_,h=>by
  rw[Lib.join_one];have hi:Lib.index x [32] = -1:=by rw[Lib.index_one];exact Dm x (h x (by simp))
  rw[Lib.count_miss hi];rfl
 | x :: y :: r,_,h=>by
  have z:bN (x :: y :: r) [32]=x++32 :: bN (y :: r) [32]:=by simp[bN,List.intercalate]
  have hi:Lib.index (bN (x :: y :: r) [32]) [32]=(x.length:Int):=by rw[z,Lib.index_one];exact Et x _ (h x (by simp))
  have Q:=Lib.count_hit (s:=bN (x :: y :: r) [32]) (sub:=[32]) (by simp) hi
  have hd:(bN (x :: y :: r) [32]).drop (x.length+([32]:List UInt8).length)=bN (y :: r) [32]:=by
   rw[z,List.length_singleton,<-List.drop_drop,List.drop_left];rfl
  have ht:(bN (x :: y :: r) [32]).take (x.length+0)=x:=by rw[z,Nat.add_zero,List.take_left]
  rw[hd] at Q;rw[Q,Nat.add_comm,Lib.splitK];have ab:(Lib.index (bN (x :: y :: r) [32]) [32] == -1)=false:=by rw[hi,beq_eq_false_iff_ne];omega
  rw[ab];simp only[Bool.false_eq_true,if_false,hi,Int.toNat_natCast];rw[ht,hd,Kg (y :: r) (by simp) (λaf hz=>h af (by simp[hz]))]
theorem U6{a b:ByteArray}(h:a.data.toList=b.data.toList):a=b:=by
 cases a;cases b;simp at h;rw[h]
theorem Fd:∀ {xs z:List ByteArray},xs.map (·.data.toList)=z.map (·.data.toList)->xs=z
 | [],[],_=>rfl
 | [],_ :: _,h=>by simp at h
 | _ :: _,[],h=>by simp at h
 | x :: xs,y :: z,h=>by
  simp only[bO,List.cons.injEq] at h;rw[U6 h.1,Fd h.2]
theorem Zoo:∀ (xs:List (List UInt8)),xs≠[]->(∀ x∈xs,x≠[])->bN xs [32]≠[]
 | [],h,_=>absurd rfl h
 | [x],_,h=>by rw[Lib.join_one];exact h x (by simp)
 | x :: y :: r,_,_=>by simp[bN,List.intercalate]
theorem E8(l:List (Int×Int))(h:U8 l=0):T6 (Z5 l)=l.map Yr:=by
 have z:∀ o∈l,Xy o=0:=λo ho=>by
  obtain⟨i,hi,rfl⟩:=List.getElem_of_mem ho;exact Qv h i hi
 cases l with
 | nil=>rfl
 | cons o r=>
  have Q:(Z5 (o :: r)).data.toList=bN (((o :: r).map Yr).map (·.data.toList)) [32]:=by simp[Z5]
  have ab:(Z5 (o :: r)).size≠0:=by
   intro e
   have h2:(Z5 (o :: r)).data.toList=[]:=by
    have h3:(Z5 (o :: r)).data=#[]:=Array.eq_empty_of_size_eq_zero e;rw[h3]
   rw[Q] at h2;refine Zoo _ (by simp) (λx hx=>?_) h2;simp only[List.map_map,cP] at hx;obtain⟨q,hq,rfl⟩:=hx;exact (Fa q (z q hq)).2.1
  unfold T6;rw[if_neg ab]
  apply Fd
  rw[Lib.splitB_data];show Lib.splitK [32] 0 (Lib.count (Z5 (o :: r)).data.toList [32]) (Z5 (o :: r)).data.toList=_;rw[Q];refine Kg _ (by simp) (λx hx b hb=>?_);simp only[List.map_map,cP] at hx;obtain⟨q,hq,rfl⟩:=hx;exact (Fa q (z q hq)).1 b hb
theorem E0:∀ (l:List (Int×Int)),(∀ o∈l,Xy o=0)->Qq (l.map Yr)=some l
 | [],_=>rfl
 | o :: r,h=>by
  simp only[bO,Qq,(Fa o (h o (by simp))).2.2,E0 r (λq hq=>h q (by simp[hq]))];rfl
theorem Zfs(l)(h:chk l=0):prE (Z5 l)=0/\prL (Z5 l)=l:=by
 have h16:l.length<=16:=by
  unfold chk at h;split at h
  ·cases h
  ·omega
 have z:U8 l=0:=by
  unfold chk at h;split at h
  ·cases h
  ·exact h
 have Q:¬4000<(Z5 l).size:=by
  have:=J6 l h16 z;have e:(Z5 l).size=(bN ((l.map Yr).map (·.data.toList)) [32]).length:=by simp[Z5,ByteArray.size]
  omega
 have hp:Qq (T6 (Z5 l))=some l:=by
  rw[E8 l z]
  exact E0 l (λo ho=>by
   obtain⟨i,hi,rfl⟩:=List.getElem_of_mem ho;exact Qv z i hi)
 constructor
 ·unfold prE;rw[if_neg Q,hp];exact h
 ·unfold prL;rw[if_neg Q,hp];simp[h]
theorem Ch(c:UInt8):∀ (x:List UInt8),(∀ b∈x,b≠c)->Lib.indexByte x c = -1
 | [],_=>rfl
 | b :: r,h=>by
  unfold Lib.indexByte;have z:(b == c)=false:=by simpa using h b (by simp)
  rw[z,Ch c r (λd Q=>h d (by simp[Q]))];rfl
theorem Fl(c:UInt8):∀ (x r:List UInt8),(∀ b∈x,b≠c)->Lib.indexByte (x++c :: r) c=x.length
 | [],r,_=>by unfold Lib.indexByte;simp
 | b :: x,r,h=>by
  have ih:=Fl c x r (λd Q=>h d (by simp[Q]));rw[List.cons_append];unfold Lib.indexByte;have z:(b == c)=false:=by simpa using h b (by simp)
  rw[z,ih];have aa:((x.length:Int) == -1)=false:=by rw[beq_eq_false_iff_ne];omega
  rw[aa];simp
theorem Gk(c:UInt8):∀ (xs:List (List UInt8)),xs≠[]->(∀ x∈xs,∀ b∈x,b≠c)->Lib.splitK [c] 0 (Lib.count (bN xs [c]) [c]) (bN xs [c])=xs
 | [],h,_=>absurd rfl h
 | [x],_,h=>by
  rw[Lib.join_one];have hi:Lib.index x [c] = -1:=by rw[Lib.index_one];exact Ch c x (h x (by simp))
  rw[Lib.count_miss hi];rfl
 | x :: y :: r,_,h=>by
  have z:bN (x :: y :: r) [c]=x++c :: bN (y :: r) [c]:=by simp[bN,List.intercalate]
  have hi:Lib.index (bN (x :: y :: r) [c]) [c]=(x.length:Int):=by rw[z,Lib.index_one];exact Fl c x _ (h x (by simp))
  have Q:=Lib.count_hit (s:=bN (x :: y :: r) [c]) (sub:=[c]) (by simp) hi
  have hd:(bN (x :: y :: r) [c]).drop (x.length+([c]:List UInt8).length)=bN (y :: r) [c]:=by
   rw[z,List.length_singleton,<-List.drop_drop,List.drop_left];rfl
  have ht:(bN (x :: y :: r) [c]).take (x.length+0)=x:=by rw[z,Nat.add_zero,List.take_left]
  rw[hd] at Q;rw[Q,Nat.add_comm,Lib.splitK];have ab:(Lib.index (bN (x :: y :: r) [c]) [c] == -1)=false:=by rw[hi,beq_eq_false_iff_ne];omega
  rw[ab];simp only[Bool.false_eq_true,if_false,hi,Int.toNat_natCast];rw[ht,hd,Gk c (y :: r) (by simp) (λaf hz=>h af (by simp[hz]))]
def Lo(c:UInt8)(xs:List ByteArray):ByteArray:=⟨(bN (xs.map (·.data.toList)) [c]).toArray⟩
theorem Tw(c:UInt8)(xs:List ByteArray):(Lo c xs).data.toList=bN (xs.map (·.data.toList)) [c]:=by simp[Lo]
theorem Zjd(c:UInt8)(s:ByteArray):(spl c s).map (·.data.toList)=Lib.splitK [c] 0 (Lib.count s.data.toList [c]) s.data.toList:=by
 unfold spl;rw[Lib.splitB_data]
theorem As(c:UInt8)(xs)(h:xs≠[])(Q:∀ x∈xs,∀ b∈x.data.toList,b≠c):spl c (Lo c xs)=xs:=by
 apply Fd
 rw[Zjd,Tw]
 exact Gk c _ (by simpa using h) (λx hx b z=>by
  obtain⟨y,hy,rfl⟩:=cP.1 hx;exact Q y hy b z)
theorem Zpb(x r)(h:∀ b∈x,b≠58):Lib.cut (x++58 :: r) [58]=(x,r,true):=by
 have hi:Lib.index (x++58 :: r) [58]=(x.length:Int):=by rw[Lib.index_one];exact Fl 58 x r h
 unfold Lib.cut;rw[hi,if_pos (by omega),Int.toNat_natCast,List.take_left]
 have z:(x++58 :: r).drop (x.length+([58]:List UInt8).length)=r:=by
  rw[List.length_singleton,<-List.drop_drop,List.drop_left];rfl
 rw[z]
theorem Dg:∀ (u:Nat),u<1000000000000->Lib.parseUint10 0 (Lib.decDigits u) = .ok u:=by
 intro u
 induction u using Nat.strongRecOn with
 | ind u ih=>
  intro z;rw[Lib.decDigits];split
  ·rename_i h;have e:=Ru u h;simp only[Lib.parseUint10,e];rw[if_pos (by omega),if_neg (by omega),if_neg (by omega)]
   congr 1
   omega
  ·rename_i h;have e:=Ru (u % 10) (by omega);have:=Pi (Lib.decDigits (u / 10)) 0 (u / 10) (UInt8.ofNat (48+u % 10)) (ih (u / 10) (by omega) (by omega)) (by omega) (by omega) (by omega) (by omega);rw[this,e]
   congr 1
   omega
theorem Zcv(n:Int)(h0 : -10000000000<=n)(h1:n<=10000000000):Lib.atoiAll (Lib.itoa n) = .ok n:=by
 unfold Lib.itoa;split
 ·rename_i hn;have e:=Dg n.natAbs (by omega);unfold Lib.atoiAll;have h45:(45:UInt8).toNat=45:=rfl;simp only[h45,or_true,if_true,Lib.parseMag,L7,if_false,e];rw[if_neg (by omega),if_neg (by omega)]
  congr 1
  first|omega|(simp;omega)
 ·rename_i hn;have e:=Dg n.toNat (by omega);have Q:=Vo n.toNat;have z:=L7 n.toNat;generalize Lib.decDigits n.toNat=l at *;cases l with
  | nil=>exact absurd rfl z
  | cons c r=>
   have hc:=Q c (by simp);have g1:¬(c.toNat=43\/c.toNat=45):=(by omega);have g2:¬c.toNat=45:=(by omega);have hm:Lib.parseMag (c :: r) = .ok n.toNat:=(by unfold Lib.parseMag;rw[if_neg z];exact e);unfold Lib.atoiAll;dsimp only;rw[if_neg g1,hm];dsimp only;rw[if_neg (by omega),if_neg (by omega),if_neg g2]
   congr 1
   omega
theorem Jd(n:Int)(b:UInt8)(h:b∈Lib.itoa n):b≠32/\b≠58/\b≠10:=by
 have key:∀ b:UInt8,48<=b.toNat/\b.toNat<=57->b≠32/\b≠58/\b≠10:=λb z=>by
  refine⟨λe=>?_,λe=>?_,λe=>?_⟩ <;> (rw[e] at z;exact absurd z (by decide))
 unfold Lib.itoa at h;split at h
 ·simp only[aU] at h
  rcases h with rfl|h
  ·decide
  ·exact key b (Vo _ b h)
 ·exact key b (Vo _ b h)
theorem Tk(n:Int):(Xv n).data.toList=Lib.itoa n:=by simp[Xv]
theorem Bq(z:Int)(h : -10000000000<=z/\z<=10000000000):R9 (Xv z)=some z:=by
 unfold R9;rw[Tk,Zcv z h.1 h.2];simp
theorem Kr:∀ (Z:List Int) (Q:ByteArray),(Xi Q Z).data.toList=Q.data.toList++((Z.map Xv).map (λx=>32 :: x.data.toList)).flatten
 | [],Q=>by simp[Xi]
 | z :: r,Q=>by
  have ih:=Kr r (Q++(⟨#[32]⟩++Xv z));have e:Xi Q (z :: r)=Xi (Q++(⟨#[32]⟩++Xv z)) r:=rfl;rw[e,ih];simp[cO]
theorem Zjq(z:ByteArray)(Z:List Int):Xi z Z=Lo 32 (z :: Z.map Xv):=by
 apply U6
 rw[Kr,Tw,bO,Lib.join_cons,Lib.joinTail];simp[Function.comp_def]
theorem Zdt(Q:ByteArray)(Z:List Int)(hw:∀ b∈Q.data.toList,b≠32):spl 32 (Xi Q Z)=Q :: Z.map Xv:=by
 rw[Zjq]
 exact As 32 _ (by simp) (λx hx b z=>by
  rcases aU.1 hx with rfl|hx
  ·exact hw b z
  ·obtain⟨ac,_,rfl⟩:=cP.1 hx;rw[Tk] at z;exact (Jd ac b z).1)
theorem Nq(Q:ByteArray)(Z:List Int)(hw:∀ b∈Q.data.toList,b≠32)(hz:∀ z∈Z,-10000000000<=z/\z<=10000000000):Gl (Xi Q Z) Q Z.length=some Z:=by
 unfold Gl;rw[Zdt Q Z hw,if_pos ⟨rfl,by simp⟩];show Zav (Z.map Xv)=some Z;unfold Zav;rw[if_pos]
 ·congr 1
  rw[List.map_map]
  conv=>rhs;rw[<-List.map_id Z]
  apply List.map_congr_left
  intro z hm;show (R9 (Xv z)).getD 0=z;rw[Bq z (hz z hm)];rfl
 ·rw[List.all_eq_true];intro x hx;obtain⟨z,hm,rfl⟩:=cP.1 hx;rw[Bq z (hz z hm)];rfl
theorem A6(z w2:ByteArray)(Z)(n:Nat)(hw:∀ b∈z.data.toList,b≠32)(Q:z≠w2):Gl (Xi z Z) w2 n=none:=by
 unfold Gl;rw[Zdt z Z hw,if_neg (λh=>Q h.1)]
def Jq(z:ByteArray)(Z:List Int)(l:List (Int×Int)):ByteArray:=(Xi z Z++⟨#[58]⟩)++Z5 l
theorem Kq(aa:ByteArray)(Z)(c:UInt8)(hw:∀ b∈aa.data.toList,b≠c)(Q:c=58\/c=10):∀ b∈(Xi aa Z).data.toList,b≠c:=by
 intro b z;rw[Kr] at z
 rcases bA.1 z with z|z
 ·exact hw b z
 ·obtain⟨y,hy,z⟩:=List.mem_flatten.1 z;obtain⟨x,hx,rfl⟩:=cP.1 hy;obtain⟨ae,_,rfl⟩:=cP.1 hx
  rcases aU.1 z with rfl|z
  ·rcases Q with rfl|rfl <;> decide
  ·rw[Tk] at z
   rcases Q with rfl|rfl
   ·exact (Jd ae b z).2.1
   ·exact (Jd ae b z).2.2
theorem B9(z:ByteArray)(Z l)(hw:∀ b∈z.data.toList,b≠58):Zrv (Jq z Z l)=Xi z Z/\Zpd (Jq z Z l)=Z5 l/\Zrw (Jq z Z l)=true:=by
 have e:(Jq z Z l).data.toList=(Xi z Z).data.toList++58 :: (Z5 l).data.toList:=by simp[Jq,cO]
 have Q:=Zpb (Xi z Z).data.toList (Z5 l).data.toList (Kq z Z 58 hw (Or.inl rfl));unfold Zrv Zpd Zrw;rw[e,Q];exact⟨U6 (by simp),U6 (by simp),rfl⟩
theorem Gq(z:ByteArray)(Z:List Int)(l)(hw:∀ b∈z.data.toList,b≠32/\b≠58)(hz:∀ ag∈Z,-10000000000<=ag/\ag<=10000000000)(hl:chk l=0):Jb (Jq z Z l) z Z.length=some (Z,l):=by
 obtain⟨h1,h2,h3⟩:=B9 z Z l (λb Q=>(hw b Q).2);obtain⟨r1,r2⟩:=Zfs l hl;unfold Jb;rw[h3,h1,h2,Nq z Z (λb Q=>(hw b Q).1) hz];show (if prE (Z5 l)=0 then some (Z,prL (Z5 l)) else none)=_;rw[if_pos r1,r2]
theorem Fe(z w2:ByteArray)(Z l)(n:Nat)(hw:∀ b∈z.data.toList,b≠32/\b≠58)(ab:z≠w2):Jb (Jq z Z l) w2 n=none:=by
 obtain⟨h1,h2,h3⟩:=B9 z Z l (λb Q=>(hw b Q).2);unfold Jb;rw[h3,h1,A6 z w2 Z n (λb Q=>(hw b Q).1) ab];rfl
def inL(x:InD):ByteArray:=Jq inB [x.1,x.2.1] x.2.2
def Hi(x:Zy):ByteArray:=Jq outB [x.1] x.2
def Zcf(s x:ByteArray):ByteArray:=s++(x++⟨#[10]⟩)
theorem N7:∀ (z:List ByteArray) (s:ByteArray),(z.foldl Zcf (s++⟨#[10]⟩)).data.toList=s.data.toList++(z.map (λx=>10 :: x.data.toList)).flatten++[10]
 | [],s=>by simp[cO]
 | x :: r,s=>by
  have e:(x :: r).foldl Zcf (s++⟨#[10]⟩)=r.foldl Zcf (((s++⟨#[10]⟩)++x)++⟨#[10]⟩):=by
   show r.foldl Zcf ((s++⟨#[10]⟩)++(x++⟨#[10]⟩))=_
   congr 1
   exact U6 (by simp[cO])
  rw[e,N7 r];simp[cO]
theorem Zhn(z:ByteArray)(Q:List ByteArray):Q.foldl Zcf (z++⟨#[10]⟩)=Lo 10 (z :: Q)++⟨#[10]⟩:=by
 apply U6
 rw[N7,cO,Array.toList_append,Tw,bO,Lib.join_cons,Lib.joinTail];simp[Function.comp_def]
theorem Zld(h:Int)(I:List InD):Y9 h I=(I.map inL).foldl Zcf (V7 h):=by
 unfold Y9;rw[List.foldl_map];rfl
theorem Zga(t:ByteArray)(O:List Zy):Xk t O=(O.map Hi).foldl Zcf t:=by
 unfold Xk;rw[List.foldl_map];rfl
theorem Ds(h:Int)(I:List InD)(O:List Zy):Zw (h,I,O)=Lo 10 (Xi txB [h] :: (I.map inL++O.map Hi))++⟨#[10]⟩:=by
 rw[<-Zhn,List.foldl_append];show Xk (Y9 h I) O=_;rw[Zga,Zld];rfl
theorem Ct(s:ByteArray)(i j:Nat):(s.extract i j).data.toList=(s.data.toList.drop i).take (j - i):=by
 rw[ByteArray.data_extract,Array.toList_extract]
theorem Zfk(s:ByteArray):s.size=s.data.toList.length:=by rw[Array.length_toList];rfl
theorem Zhq(X:ByteArray):Cz (X++⟨#[10]⟩)=true/\Zmi (X++⟨#[10]⟩)=X:=by
 have aa:(X++(⟨#[10]⟩:ByteArray)).size=X.data.toList.length+1:=by rw[Uv X 10,Zfk]
 have Q:(X++(⟨#[10]⟩:ByteArray)).data.toList=X.data.toList++[10]:=by rw[cO,Array.toList_append]
 have z:Cz (X++⟨#[10]⟩)=true:=by
  unfold Cz Zqb;rw[decide_eq_true (by omega),aa,ByteArray.toList_eq,Ct,Q,Nat.add_sub_cancel,List.drop_left];have:X.data.toList.length+1 - X.data.toList.length=1:=by omega
  rw[this];rfl
 refine⟨z,?_⟩;unfold Zmi;rw[z];show Zbx _=X;unfold Zbx
 apply U6
 rw[Ct,aa,Q,Nat.add_sub_cancel,List.drop_zero,Nat.sub_zero,List.take_left]
theorem Gm(q:Int×Int)(h:Xy q=0):∀ b∈(Yr q).data.toList,b≠10:=by
 intro b z;unfold Yr at z;split at z
 ·have Q:b∈Lib.itoa q.2:=by simpa using z
  exact (Jd _ b Q).2.2
 ·have hk:1<=q.1/\q.1<=13:=by
   obtain⟨k,n⟩:=q;simp only[Xy] at h;split at h
   ·cases h
   ·simp only;omega
  have all:∀ j:Fin 14,∀ b∈(Vz j.val).data.toList,b≠10:=by decide +kernel
  exact all ⟨q.1.toNat,by omega⟩ b z
theorem Zkc(l)(h:chk l=0):∀ b∈(Z5 l).data.toList,b≠10:=by
 have hL:U8 l=0:=by
  unfold chk at h;split at h
  ·cases h
  ·exact h
 have Q:∀ o∈l,Xy o=0:=λo ho=>by
  obtain⟨i,hi,rfl⟩:=List.getElem_of_mem ho;exact Qv hL i hi
 intro b z;have hd:(Z5 l).data.toList=bN ((l.map Yr).map (·.data.toList)) [32]:=by simp[Z5]
 rw[hd] at z;cases l with
 | nil=>cases z
 | cons o r=>
  rw[bO,bO,Lib.join_cons,Lib.joinTail] at z
  rcases bA.1 z with z|z
  ·exact Gm o (Q o (by simp)) b z
  ·obtain⟨y,hy,z⟩:=List.mem_flatten.1 z;obtain⟨x,hx,rfl⟩:=cP.1 hy;obtain⟨ag,hz,rfl⟩:=cP.1 hx;obtain⟨q,hq,rfl⟩:=cP.1 hz
   rcases bA.1 z with z|z
   ·have:b=32:=(by simpa using z);subst this;decide
   ·exact Gm q (Q q (by simp[hq])) b z
theorem Ny(Q:ByteArray)(Z l)(hw:∀ b∈Q.data.toList,b≠10)(hl:chk l=0):∀ b∈(Jq Q Z l).data.toList,b≠10:=by
 intro b z;have e:(Jq Q Z l).data.toList=(Xi Q Z).data.toList++58 :: (Z5 l).data.toList:=by simp[Jq,cO]
 rw[e] at z
 rcases bA.1 z with z|z
 ·exact Kq Q Z 10 hw (Or.inr rfl) b z
 ·rcases aU.1 z with rfl|z
  ·decide
  ·exact Zkc l hl b z
theorem tx_signs:(∀ b∈txB.data.toList,b≠32/\b≠58/\b≠10)/\(∀ b∈inB.data.toList,b≠32/\b≠58/\b≠10)/\(∀ b∈outB.data.toList,b≠32/\b≠58/\b≠10):=by decide +kernel
theorem Zqv:outB≠inB:=by decide +kernel
theorem Cr(h:Int)(R):∀ (I P:List InD),(∀ x∈I,Tp x=true/\chk x.2.2=0)->Ub (h,P,[]) (I.map inL++R)=Ub (h,P++I,[]) R
 | [],P,_=>by simp
 | x :: r,P,hI=>by
  have hx:=hI x (by simp);have hp:=(Ku x).1 hx.1;have Q:Jb (inL x) inB 2=some ([x.1,x.2.1],x.2.2):=Gq inB [x.1,x.2.1] x.2.2 (λb z=>⟨(tx_signs.2.1 b z).1,(tx_signs.2.1 b z).2.1⟩) (λae hz=>by simp at hz;omega) hx.2
  have hs:Kf (h,P,[]) (inL x)=some (h,P++[x],[]):=by
   unfold Kf;rw[Q];rfl
  rw[bO,List.cons_append,Ub,hs];show Ub (h,P++[x],[]) (r.map inL++R)=_;rw[Cr h R r (P++[x]) (λy hy=>hI y (by simp[hy]))];simp
theorem De(h:Int)(P):∀ (O ag:List Zy),(∀ x∈O,(1<=x.1/\x.1<=1000000000)/\chk x.2=0)->Ub (h,P,ag) (O.map Hi)=some (h,P,ag++O)
 | [],ag,_=>by simp[Ub]
 | x :: r,ag,hO=>by
  have hx:=hO x (by simp);have hl:Jb (Hi x) outB 1=some ([x.1],x.2):=Gq outB [x.1] x.2 (λb Q=>⟨(tx_signs.2.2 b Q).1,(tx_signs.2.2 b Q).2.1⟩) (λz hz=>by simp at hz;omega) hx.2;have hn:Jb (Hi x) inB 2=none:=Fe outB inB [x.1] x.2 2 (λb Q=>⟨(tx_signs.2.2 b Q).1,(tx_signs.2.2 b Q).2.1⟩) Zqv
  have hs:Kf (h,P,ag) (Hi x)=some (h,P,ag++[x]):=by
   unfold Kf;rw[hn];show Hp (h,P,ag) (Hi x)=_;unfold Hp;rw[hl];rfl
  rw[bO,Ub,hs];show Ub (h,P,ag++[x]) (r.map Hi)=_;rw[De h P r (ag++[x]) (λy hy=>hO y (by simp[hy]))];simp
theorem Zdi(t)(hx:Zu t=0):Zec (Zw t)=some t:=by
 obtain⟨h,I,O⟩:=t;have ok:=TxOk.of hx;have e:=Ds h I O;obtain⟨X,hX⟩:=ZF (Lo 10 (Xi txB [h] :: (I.map inL++O.map Hi)));rw[hX] at e;obtain⟨e1,e2⟩:=Zhq X
 have e3:Hr (X++⟨#[10]⟩)=Xi txB [h] :: (I.map inL++O.map Hi):=by
  unfold Hr;rw[e2,<-hX];refine As 10 _ (by simp) (λx hx b z=>?_)
  rcases aU.1 hx with rfl|hx
  ·exact Kq txB [h] 10 (λb z=>(tx_signs.1 b z).2.2) (Or.inr rfl) b z
  ·rcases bA.1 hx with hx|hx
   ·obtain⟨y,Q,rfl⟩:=cP.1 hx;exact Ny inB _ _ (λb z=>(tx_signs.2.1 b z).2.2) (ok.ins y Q).2 b z
   ·obtain⟨y,Q,rfl⟩:=cP.1 hx;exact Ny outB _ _ (λb z=>(tx_signs.2.2 b z).2.2) (ok.outs y Q).2 b z
 have hg:=ok.hgt;have e4:Gl (Xi txB [h]) txB 1=some [h]:=Nq txB [h] (λb z=>(tx_signs.1 b z).1) (λaj hz=>by simp at hz;simp only at hg;omega);rw[e];unfold Zec;rw[e1,e3];show (match Gl (Xi txB [h]) txB 1 with|some Z=>Ub (Z.getD 0 0,[],[]) (I.map inL++O.map Hi)|none=>none)=_;rw[e4];show Ub (h,[],[]) (I.map inL++O.map Hi)=_;rw[Cr h _ I [] ok.ins,De h _ O [] ok.outs];simp
theorem Zet(t u)(z:Zu t=0)(Q:Zu u=0)(e:Zw t=Zw u):t=u:=by
 have h1:=Zdi t z;rw[e,Zdi u Q] at h1;injection h1 with h1;exact h1.symm
def hd1(x:List UInt8):Option UInt8:=x.head?
theorem Gn:∀ (l L:List ByteArray) (N:List Int) (M:List ByteArray) (N':List Int),Bk.nmGo L N l=(M,N',0)->N'=N++l.map (λs=>(Bk.place s M:Int))/\∀ s∈l,0<Bk.place s M/\s.size<=4000
 | [],L,N,M,N',h=>by
  unfold Bk.nmGo at h;injection h with _ h;injection h with h _;exact⟨by simp[h],λs hs=>by cases hs⟩
 | s :: r,L,N,M,N',h=>by
  rw[Bk.nmGo] at h;split at h
  ·next q=>
   obtain⟨p1,p2,p3⟩:=Bk.nm_place q;obtain⟨X,z⟩:=Bk.nmGo_grows r (Bk.nm L s).1 (N++[(Bk.nm L s).2.1]) (by rw[h]);rw[h] at z;simp only at z;obtain⟨h1,h2⟩:=Gn r _ _ M N' h;have e:Bk.place s M=Bk.place s (Bk.nm L s).1:=(by rw[z];exact Bk.place_stays X p2);refine⟨?_,λaf Q=>?_⟩
   ·rw[h1,bZ,p1,<-e];rfl
   ·rcases aU.1 Q with rfl|Q
    ·exact⟨by rw[e];exact p2,p3⟩
    ·exact h2 af Q
  ·next q=>
   injection h with _ h;injection h with _ h;exact absurd h q
theorem Dr{K l X N}(h:Bk.allR K l=(X,N,0)):Bk.Right K/\Bk.nmGo K [] l=(X,N,0):=by
 unfold Bk.allR at h;split at h
 ·next q=>exact⟨(Bk.right_iff K).1 q,h⟩
 ·next q=>
  injection h with _ h;injection h with _ h;exact absurd h q
theorem Zcy{K l X N}(h:Bk.allR K l=(X,N,0)):Bk.Right X/\∃ M,X=K++M:=by
 obtain⟨h1,h2⟩:=Dr h;have r:=Bk.nmGo_right l K [] h1 (by rw[h2]);have g:=Bk.nmGo_grows l K [] (by rw[h2]);rw[h2] at r g;exact⟨r,g⟩
theorem Zkl{K}{b:Zl}{X}{n:Int}{ns}(h:Xl K b=(X,n,ns,0)):Yk b=0/\Bk.Right X/\(∀ s∈Yf b,0<Bk.place s X/\s.size<=4000)/\n=(Bk.place (Wp b) X:Int)/\ns=b.2.2.2.2.map (λt=>(Bk.place (Zw t) X:Int))/\∃ M,X=K++M:=by
 unfold Xl at h;split at h
 ·next q=>
  injection h with _ h;injection h with _ h;injection h with _ h;exact absurd h q
 ·next q=>
  split at h
  ·next q2=>
   injection h with _ h;injection h with _ h;injection h with _ h;exact absurd h q2
  ·next q2=>
   obtain⟨Q,N,x,e⟩:∃ Q N x,Bk.allR K (Yf b)=(Q,N,x):=⟨_,_,_,rfl⟩;rw[e] at h q2;obtain rfl:x=0:=Decidable.not_not.1 q2;injection h with h1 h;injection h with h2 h;injection h with h3 _;simp only at h1 h2 h3;subst h1;obtain⟨r,g⟩:=Zcy e;obtain⟨z,p2⟩:=Gn _ _ _ _ _ (Dr e).2;rw[List.nil_append] at z;refine⟨Decidable.not_not.1 q,r,p2,?_,?_,g⟩
   ·rw[<-h2,z];simp[Yf]
   ·rw[<-h3,z];simp[Yf]
theorem hasP_no{p:PtD}{L}:Y3 p L=false↔∀ c∈L,pt c≠p:=by
 rw[<-Bool.not_eq_true,Y5];exact⟨λh c z e=>h ⟨c,z,e⟩,λh ⟨c,z,e⟩=>h c z e⟩
theorem Zfa{p:PtD}{L M}{c:Zj}(h:Ue p L=some (c,M)):Y3 p L=true:=by
 obtain⟨h1,h2,_⟩:=Vk h;exact (Y5 p L).2 ⟨c,h1,h2⟩
theorem Tm(h:Int):∀ (I:List InD) (S0 L S M:List Zj),Zr h I S0 L=(0,S,M)->(∀ c∈M,c∈L)/\(∀ x∈I,Y3 (x.1,x.2.1) L=true)/\(∀ x∈I,Y3 (x.1,x.2.1) M=false)
 | [],S0,L,S,M,e=>by
  unfold Zr at e;injection e with _ e;injection e with _ e;subst e;exact⟨λ_ Q=>Q,λ_ hx=>(by cases hx),λ_ hx=>(by cases hx)⟩
 | x :: r,S0,L,S,M,e=>by
  unfold Zr at e;split at e
  ·injection e with e _;cases e
  ·rename_i c L' ht;split at e
   ·injection e with e _;cases e
   ·split at e
    ·injection e with e _;cases e
    ·obtain⟨a1,a2,a3⟩:=Tm h r _ L' S M e;obtain⟨t1,t2,t3⟩:=Vk ht;have ae:∀ c∈L',c∈L:=λc Q=>by rw[t3] at Q;exact (cU.1 Q).1
     refine⟨λc Q=>ae c (a1 c Q),λy z=>?_,λy z=>?_⟩
     ·rcases aU.1 z with rfl|z
      ·exact Zfa ht
      ·obtain⟨d,hd,e⟩:=(Y5 _ _).1 (a2 y z);exact (Y5 _ _).2 ⟨d,ae d hd,e⟩
     ·rcases aU.1 z with rfl|z
      ·refine hasP_no.2 λd hd e=>?_;have:=a1 d hd;rw[t3,cU] at this;exact absurd e (of_decide_eq_true this.2)
      ·exact a3 y z
theorem Dd(name h:Int)(r:Bool):∀ (O:List Zy) (i:Nat) (L M:List Zj),Z8 name h r i O L=(0,M)->∀ c∈M,c∈L\/c.1=name
 | [],i,L,M,e=>by
  unfold Z8 at e;injection e with _ e;subst e;exact λc z=>.inl z
 | o :: q,i,L,M,e=>by
  unfold Z8 at e;split at e
  ·injection e with e _;cases e
  ·rename_i Q;intro c z
   rcases Dd name h r q (i+1) _ M e c z with g|g
   ·rcases (So (c:=Tu name i o h r) (by simpa[Tu,pt] using Q)).1 g with rfl|g
    ·exact .inr rfl
    ·exact .inl g
   ·exact .inr g
theorem Rh{L M S}{t:TxD}{name h:Int}(e:apD L t name h=(0,M,S)):Wo L t name h=0/\∃ z,Zr h t.2.1 [] L=(0,S,z)/\Mw S t=0/\Z8 name h (isR t) 0 t.2.2 z=(0,M)/\Z4 M=0:=by
 obtain⟨x1,h1⟩:=ZF (Wo L t name h);obtain⟨⟨x2,S2,z⟩,h2⟩:=ZF (Zr h t.2.1 [] L);obtain⟨x3,h3⟩:=ZF (Mw S2 t);obtain⟨⟨x4,Q⟩,h4⟩:=ZF (Z8 name h (isR t) 0 t.2.2 z);obtain⟨x5,h5⟩:=ZF (Z4 Q);rw[Zmo h1 h2 h3 h4 h5] at e;split at e
 ·rename_i q;injection e with e _;exact absurd e q
 rename_i q1;split at e
 ·rename_i q;injection e with e _;exact absurd e q
 rename_i q2;split at e
 ·rename_i q;injection e with e _;exact absurd e q
 rename_i q3;split at e
 ·rename_i q;injection e with e _;exact absurd e q
 rename_i q4;split at e
 ·rename_i q;injection e with e _;exact absurd e q
 rename_i q5;have e1:x1=0:=by omega
 have e2:x2=0:=by omega
 have e3:x3=0:=by omega
 have e4:x4=0:=by omega
 have e5:x5=0:=by omega
 injection e with _ e;injection e with ea eb;subst e1 e2 e3 e4 e5 ea eb;exact⟨h1,z,h2,h3,h4,h5⟩
theorem L0(name h:Int)(r:Bool):∀ (O:List Zy) (i:Nat) (L M:List Zj),Srt L->Z8 name h r i O L=(0,M) ->
  Srt M/\(∀ x,x∈M↔x∈L\/∃ j,∃ z:j<O.length,x=Tu name (i+j) O[j] h r)/\(∀ j,j<O.length->Y3 (name,((i+j:Nat):Int)) L=false)
 | [],i,L,M,hs,e=>by
  unfold Z8 at e;injection e with _ e;subst e;exact⟨hs,λx=>⟨.inl,λq=>q.elim id λ⟨j,z,_⟩=>absurd z (by simp)⟩,λj z=>absurd z (by simp)⟩
 | o :: q,i,L,M,hs,e=>by
  unfold Z8 at e;split at e
  ·injection e with e _;cases e
  ·rename_i hf;have Q:Y3 (pt (Tu name i o h r)) L=false:=(by simpa[Tu,pt] using hf);obtain⟨h1,h2,h3⟩:=L0 name h r q (i+1) _ M (Sg hs) e;refine⟨h1,λx=>?_,λj z=>?_⟩
   ·rw[h2 x,So Q];constructor
    ·rintro ((rfl|g)|⟨j,z,rfl⟩)
     ·exact .inr ⟨0,by simp,by simp⟩
     ·exact .inl g
     ·exact .inr ⟨j+1,by simpa using z,by simp[Nat.add_assoc,Nat.add_comm 1 j]⟩
    ·rintro (g|⟨j,z,rfl⟩)
     ·exact .inl (.inr g)
     ·cases j with
      | zero=>exact .inl (.inl (by simp))
      | succ j=>exact .inr ⟨j,by simpa using z,by simp[Nat.add_assoc,Nat.add_comm 1 j]⟩
   ·cases j with
    | zero=>simpa[Tu,pt] using Q
    | succ j=>
     have:=h3 j (by simpa using z);rw[show i+1+j=i+(j+1) by omega] at this;refine hasP_no.2 λc hc=>(hasP_no.1 this) c ((So Q).2 (.inr hc))
theorem Ey(name h:Int)(r:Bool)(O:List Zy)(L)(hL:Srt L)(ab:∀ j,j<O.length->Y3 (name,((j:Nat):Int)) L=false):∀ (m k:Nat) (N:List Zj),m+k=O.length->Srt N->(∀ x,x∈N↔x∈L\/∃ j,∃ z:j<O.length,k<=j/\x=Tu name j O[j] h r)->Vq name k (O.drop k) N=(0,L)
 | 0,k,N,hm,hN,hx=>by
  rw[bM (by omega),Vq]
  rw[Srt.ext hN hL λx=>by
   rw[hx x];exact⟨λq=>q.elim id λ⟨j,z,Q,_⟩=>absurd z (by omega),.inl⟩]
 | m+1,k,N,hm,hN,hx=>by
  have Q:k<O.length:=by omega
  have ad:Tu name k O[k] h r∈N:=(hx _).2 (.inr ⟨k,Q,Nat.le_refl _,rfl⟩);have ht:=Nh (p:=(name,(k:Int))) hN ad rfl;rw[aI Q,Vq,ht];simp only;rw[if_pos (by rfl)];refine Ey name h r O L hL ab m (k+1) _ (by omega) (hN.filter _) λx=>?_;rw[cU,hx x,decide_eq_true_eq];constructor
  ·rintro ⟨g|⟨j,z,ac,rfl⟩,ae⟩
   ·exact .inl g
   ·refine .inr ⟨j,z,?_,rfl⟩
    rcases Nat.lt_or_ge k j with q|q
    ·exact q
    ·obtain rfl:j=k:=(by omega);exact absurd rfl ae
  ·rintro (g|⟨j,z,ac,rfl⟩)
   ·exact⟨.inl g,(hasP_no.1 (ab k Q)) x g⟩
   ·refine⟨.inr ⟨j,z,by omega,rfl⟩,λq=>?_⟩;have q2:((j:Nat):Int)=((k:Nat):Int):=congrArg Prod.snd q;omega
theorem Ao{p:PtD}{c:Zj}:∀ {L:List Zj},Srt L->c∈L->pt c=p->Zp L=cv c+Zp (L.filter λd=>decide (pt d≠p))
 | [],_,z,_=>by cases z
 | d :: r,hs,z,e=>by
  rw[Xc]
  rcases aU.1 z with rfl|z
  ·rw[List.filter_cons_of_neg (by simp[e])]
   have:r.filter (λd=>decide (pt d≠p))=r:=by
    rw[List.filter_eq_self];intro y hy;exact decide_eq_true (λq=>Sq (hs.head y hy) (by rw[e,q]))
   rw[this]
  ·have Q:pt d≠p:=λq=>Sq (hs.head c z) (by rw[e,q]);rw[List.filter_cons_of_pos (by simp[Q]),Xc,Ao hs.tail z e];omega
theorem Qc(h:Int):∀ (I:List InD) (S0 L S M:List Zj),Srt L->Zr h I S0 L=(0,S,M) ->
  Srt M/\∃ T,S=S0++T/\T.length=I.length/\(∀ j (h1:j<T.length) (h2:j<I.length),pt T[j]=(I[j].1,I[j].2.1))/\(∀ x,x∈L↔x∈M\/x∈T)/\(∀ x∈T,Y3 (pt x) M=false)/\T.Pairwise (λa b=>pt a≠pt b)/\Zp L=Zp M+Zp T
 | [],S0,L,S,M,hs,e=>by
  unfold Zr at e;injection e with _ e;injection e with e1 e2;subst e1 e2;exact⟨hs,[],by simp,rfl,λj h1=>absurd h1 (by simp),λx=>by simp,λx hx=>(by cases hx),List.Pairwise.nil,by simp[Zp]⟩
 | x :: r,S0,L,S,M,hs,e=>by
  unfold Zr at e;split at e
  ·injection e with e _;cases e
  ·rename_i c L' ht;split at e
   ·injection e with e _;cases e
   ·split at e
    ·injection e with e _;cases e
    ·obtain⟨t1,t2,t3⟩:=Vk ht;obtain⟨h1,T,h2,h3,h4,h5,h6,h7,h8⟩:=Qc h r _ L' S M (by rw[t3];exact hs.filter _) e;have Q:∀ y,y∈L'↔y∈L/\pt y≠(x.1,x.2.1):=λy=>by rw[t3,cU,decide_eq_true_eq]
     refine⟨h1,c :: T,by rw[h2,bZ];rfl,by simp[h3],λj h1 h2=>?_,λy=>?_,λy z=>?_,?_,?_⟩
     ·cases j with
      | zero=>exact t2
      | succ j=>exact h4 j (by simpa using h1) (by simpa using h2)
     ·constructor
      ·intro z;by_cases q:pt y=(x.1,x.2.1)
       ·exact .inr (by rw[hs.inj z t1 (by rw[q,t2])];exact cV ..)
       ·rcases (h5 y).1 ((Q y).2 ⟨z,q⟩) with g|g
        ·exact .inl g
        ·exact .inr (List.mem_cons_of_mem _ g)
      ·rintro (g|g)
       ·exact ((Q y).1 ((h5 y).2 (.inl g))).1
       ·rcases aU.1 g with rfl|g
        ·exact t1
        ·exact ((Q y).1 ((h5 y).2 (.inr g))).1
     ·rcases aU.1 z with rfl|z
      ·refine hasP_no.2 λd hd e=>?_;exact ((Q d).1 ((h5 d).2 (.inl hd))).2 (by rw[e,t2])
      ·exact h6 y z
     ·refine List.pairwise_cons.2 ⟨λy z e=>?_,h7⟩;exact ((Q y).1 ((h5 y).2 (.inr z))).2 (by rw[<-e,t2])
     ·have h9:=Ao hs t1 t2;rw[<-t3] at h9;rw[h9,h8,Xc];omega
theorem Bd(I:List InD)(S Q L:List Zj)(ak:S.length=I.length)(hL:Srt L)(af:∀ j (h1:j<S.length) (h2:j<I.length),pt S[j]=(I[j].1,I[j].2.1))(ad:∀ x,x∈L↔x∈Q\/x∈S)(ab:∀ x∈S,Y3 (pt x) Q=false)(ag:S.Pairwise (λa b=>pt a≠pt b)) :
  ∀ (m k:Nat) (N:List Zj),m+k=S.length->Srt N->(∀ x,x∈N↔x∈Q\/x∈S.take k)->Uw (I.drop k) (S.drop k) N=(0,L)
 | 0,k,N,hm,hN,hx=>by
  rw[bM (by omega),bM (by omega),Uw]
  ·rw[Srt.ext hN hL λx=>by rw[hx x,ad x,List.take_of_length_le (by omega)]]
  ·intro _ _ _ _ h;cases h
 | m+1,k,N,hm,hN,hx=>by
  have z:k<S.length:=by omega
  have ac:k<I.length:=by omega
  have ae:Y3 (pt S[k]) N=false:=hasP_no.2 λc hc e=>by
   rcases (hx c).1 hc with g|g
   ·exact (hasP_no.1 (ab _ (List.getElem_mem z))) c g e
   ·obtain⟨j,hj,rfl⟩:=List.mem_take_iff_getElem.1 g;have aj:j<k:=(by omega);exact (List.pairwise_iff_getElem.1 ag j k (by omega) z aj) e
  rw[aI z,aI ac,Uw,if_neg (by
   rintro (q|q)
   ·exact q (af k z ac)
   ·rw[ae] at q;cases q)]
  refine Bd I S Q L ak hL af ad ab ag m (k+1) _ (by omega) (Sg hN) λx=>?_;rw[So ae,hx x,List.take_succ_eq_append_getElem z,bA,bX];constructor
  ·rintro (rfl|g|g)
   ·exact .inr (.inr rfl)
   ·exact .inl g
   ·exact .inr (.inl g)
  ·rintro (g|g|rfl)
   ·exact .inr (.inl g)
   ·exact .inr (.inr g)
   ·exact .inl rfl
theorem Zpm{L M S t}{name h:Int}(e:apD L t name h=(0,M,S)):rvD M t name S=(0,L):=by
 obtain⟨h1,z,h2,h3,h4,h5⟩:=Rh e;obtain⟨hR,hT,_,_,_⟩:=Wk h1;obtain⟨s1,T,s2,s3,s4,s5,s6,s7,s8⟩:=Qc h _ _ _ _ _ hR.srt h2;rw[List.nil_append] at s2;subst s2;obtain⟨g1,g2,g3⟩:=L0 name h _ _ _ _ _ s1 h4
 have hb:Vq name 0 t.2.2 M=(0,z):=by
  have:=Ey name h (isR t) t.2.2 z s1 (λj Q=>by have:=g3 j Q;rwa [Nat.zero_add] at this) t.2.2.length 0 M (by omega) g1 (λx=>by
   rw[g2 x];constructor
   ·rintro (q|⟨j,Q,rfl⟩)
    ·exact .inl q
    ·exact .inr ⟨j,Q,Nat.zero_le _,by rw[Nat.zero_add]⟩
   ·rintro (q|⟨j,Q,_,rfl⟩)
    ·exact .inl q
    ·exact .inr ⟨j,Q,by rw[Nat.zero_add]⟩)
  simpa using this
 have hp:Uw t.2.1 S z=(0,L):=by
  have:=Bd t.2.1 S z L s3 hR.srt s4 s5 s6 s7 S.length 0 z (by omega) s1 (λx=>by simp);simpa using this
 have hc:Z4 L=0:=(Z6 L).2 hR;have ag:Vp M t=0:=by unfold Vp;rw[if_neg (by rw[h5];decide)];exact hT
 rw[Zqu ag hb hp hc,if_neg (by decide),if_neg (by rw[s3];simp),if_neg (by decide),if_neg (by decide),if_neg (by decide)]
theorem Znl{c:Zj}{L}(Q:Srt L)(z:Y3 (pt c) L=false):Zp (Ps c L)=cv c+Zp L:=by
 rw[Zdv Q z,Xz,Xc];have:Zp L=Zp (L.take (pos (pt c) L))+Zp (L.drop (pos (pt c) L)):=by rw[<-Xz,List.take_append_drop]
 omega
theorem Tz(name h:Int)(r:Bool):∀ (O:List Zy) (i:Nat) (L M:List Zj),Srt L->Z8 name h r i O L=(0,M)->Zp M=Zp L+Y6 O
 | [],i,L,M,hs,e=>by
  unfold Z8 at e;injection e with _ e;subst e;simp[Y6]
 | o :: q,i,L,M,hs,e=>by
  unfold Z8 at e;split at e
  ·injection e with e _;cases e
  ·rename_i z;have Q:Y3 (pt (Tu name i o h r)) L=false:=(by simpa[Tu,pt] using z);have h1:=Tz name h r q (i+1) _ M (Sg hs) e;rw[Znl hs Q] at h1;have h2:cv (Tu name i o h r)=o.1:=rfl;have h3:Y6 (o :: q)=o.1+Y6 q:=(by simp[Y6]);rw[h1,h2,h3];omega
theorem G8:∀ (O:List Zy),Yi O=0->∀ o∈O,1<=o.1
 | [],_=>by simp
 | x :: r,h=>by
  intro o z;unfold Yi at h;split at h
  ·rename_i h1
   rcases aU.1 z with rfl|z
   ·unfold Xa at h1;split at h1
    ·cases h1
    ·omega
   ·exact G8 r h o z
  ·rename_i h1;exact absurd h h1
theorem Aq:∀ (O:List Zy),O≠[]->(∀ o∈O,1<=o.1)->0<Y6 O
 | [],h,_=>absurd rfl h
 | x :: r,_,h=>by
  have h3:Y6 (x :: r)=x.1+Y6 r:=by simp[Y6]
  have h1:=h x (cV ..);cases r with
  | nil=>rw[h3];simp[Y6];omega
  | cons y q=>
   have:=Aq (y :: q) (by simp) (λo z=>h o (List.mem_cons_of_mem _ z));omega
theorem Zmm{L M S}{t:TxD}{name h:Int}(e:apD L t name h=(0,M,S)):(t.2.1.length=0->Zp L<Zp M)/\(t.2.1.length≠0->Zp M<=Zp L):=by
 obtain⟨h1,M2,h2,h3,h4,h5⟩:=Rh e;obtain⟨hR,hT,_,_,_⟩:=Wk h1;obtain⟨s1,T,z,s3,s4,s5,s6,s7,s8⟩:=Qc h _ _ _ _ _ hR.srt h2;rw[List.nil_append] at z;subst z;have hg:=Tz name h _ _ _ _ _ s1 h4;obtain⟨t1,t2,Q,t4,t5,t6,t7⟩:=U7 hT;constructor
 ·intro h0;have hS:S=[]:=List.length_eq_zero_iff.1 (by rw[s3,h0]);have:=Aq t.2.2 (λq=>by rw[q] at Q;simp at Q) (G8 _ t6);rw[hS,Kd] at s8;omega
 ·intro h0;unfold Mw isR at h3;split at h3
  ·cases h3
  ·rename_i q;have:¬(Zp S - Y6 t.2.2<0):=λr=>q ⟨r,decide_eq_false h0⟩;omega
