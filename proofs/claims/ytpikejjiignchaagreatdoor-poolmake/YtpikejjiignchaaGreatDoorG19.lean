import Derived.Test.YtpikejjiignchaaGreatDoorG17
import Derived.Sort.AssemblyPlain
set_option maxHeartbeats 3200000
set_option maxRecDepth 10000
namespace Go.Proofs.YtpikejjiignchaaGreatDoor
open Go.RowKit
def plc(p:PtD):List Zg→Nat→Int
 | [],_=>-1
 | y :: r,k=>if pt y=p then k else plc p r (k+1)
theorem Zck(p:PtD)(l:List Zg)(k:Nat)(h:k<l.length):plc p (l.drop k) k=if pt l[k]=p then (k:Int) else plc p (l.drop (k+1)) (k+1):=by
 rw[List.drop_eq_getElem_cons h];rfl
theorem F9(x:Zg)(a:Option Addr)(n c:Nat)(q:PtD)(p:Nat)(o:Bool)(w:World)(h1:w.cell? ⟨p,0,none⟩=some (.int .i64 q.1))(h2:w.cell? ⟨p,1,none⟩=some (.int .i64 q.2))(ho:decide (pt x=q)=o) :
  Calls Tryz.prog 150 #[cnV x a n c,.pointer (some ⟨p,0,none⟩)] w fun e w'=>e = .returned (.bool o)∧Below w.heap.size w w':=by
 subst ho
 obtain⟨x1,x2,v,lk,hh,rr⟩:=x
 obtain⟨q1,q2⟩:=q
 have hp:=World.block_lt_of_cell? _ _ h1
 unfold cnV pt cv ch cr
 simp only at h1 h2 ⊢
 have HB:=Zb (Zf w (.cells #[.int .i64 x1,.int .i64 x2,.int .i64 v,.slice a n c,.int .i64 hh,.bool rr] 103))
 by_cases hx:x1=q1
 ·subst hx
  by_cases hy:x2=q2
  ·subst hy
   rw[decide_eq_true rfl]
   go_enter Tryz.func150,Tryz.ntmps150
   go_wp2
   go_ret
   exact⟨rfl,Za HB⟩
  ·rw[decide_eq_false (fun e=>hy (Prod.mk.inj e).2)]
   go_enter Tryz.func150,Tryz.ntmps150
   go_wp2
   go_ret
   exact⟨rfl,Za HB⟩
 ·rw[decide_eq_false (fun e=>hx (Prod.mk.inj e).1)]
  go_enter Tryz.func150,Tryz.ntmps150
  go_wp2
  go_ret
  exact⟨rfl,Za HB⟩
theorem Hc(b off n c:Nat)(l:List Zg)(q:PtD)(p:Nat)(w:World)(hz:l.length=n)(hn:n≤4096)(hc:∀ i (h:i<l.length),CoinAt w b (off+i*6) l[i])
  (h1:w.cell? ⟨p,0,none⟩=some (.int .i64 q.1)) (h2:w.cell? ⟨p,1,none⟩=some (.int .i64 q.2)) :
  Calls Tryz.prog 149 #[.slice (some ⟨b,off,none⟩) n c,.func (.func 150) #[] #[.pointer (some ⟨p,0,none⟩)]] w fun e w'=>e = .returned (.int .i64 (plc q l 0))∧Below w.heap.size w w':=by
 have HC:=Zb hc
 have HZ:=Zb hz
 have H1:=Zb h1
 have H2:=Zb h2
 clear hc hz h1 h2
 go_enter Tryz.func149,Tryz.ntmps149
 go_wp2
 go_loopw [5,8] (fun _ i wr=>∃ k:Nat,k≤n∧i = .int .i64 k∧Hid (plc q l 0=plc q (l.drop k) k)∧Below w.heap.size w wr) (fun _ i _=>n - (intOf i).toNat)
 case atStart=>exact⟨0,Nat.zero_le _,rfl,rfl,Below.refl _ _⟩
 case round=>
  obtain⟨k,hk,rfl,A,hb⟩:=hrel
  have HB:=Zb hb
  by_cases hlt:k<n
  ·have hlk:k<l.length:=by rw[Za HZ];exact hlt
   have hin:=CoinAt.kept _ _ _ _ _ hb ((Za HC) k hlk)
   have S:=Zb (Zck q l k hlk)
   obtain⟨y,hy⟩:∃ y,l[k]=y:=⟨_,rfl⟩
   rw[hy] at hin S
   obtain⟨ka,kn,kc,g1,g2,g3,g4,g5,g6,_,_⟩:=hin.val
   have C1:Hid (∀ o,decide (pt y=q)=o→Calls Tryz.prog 150 #[cnV y ka kn kc,.pointer (some ⟨p,0,none⟩)] wr fun e w'=>e = .returned (.bool o)∧Below wr.heap.size wr w'):=
    fun o ho=>F9 y ka kn kc q p o wr (Zc hb (Za H1)) (Zc hb (Za H2)) ho
   unfold cnV at C1
   by_cases hs:pt y=q
   ·have S2:Hid (plc q l 0=k):=by show _=_;rw[Za A,Za S,if_pos hs]
    have C2:=Zb ((Za C1) true (decide_eq_true hs))
    clear S A hs C1 hb hy
    go_wp2_with fail
    refine (Za C2).mono ?_
    rintro e w' ⟨rfl,hb'⟩
    have HB':=Zb (Ze (Za HB) hb')
    clear hb'
    go_wp2
    go_ret
    exact⟨by rw[Za S2];rfl,Za HB'⟩
   ·have S2:Hid (plc q l 0=plc q (l.drop (k+1)) (k+1)):=by show _=_;rw[Za A,Za S,if_neg hs]
    have C2:=Zb ((Za C1) false (decide_eq_false hs))
    clear S A hs C1 hb hy
    go_wp2_with fail
    refine (Za C2).mono ?_
    rintro e w' ⟨rfl,hb'⟩
    have HB':=Zb (Ze (Za HB) hb')
    clear hb'
    go_wp2
    go_roundw
    case rel=>exact⟨k+1,by omega,by go_num,S2,Za HB'⟩
    case measure=>simp[intOf];omega
  ·have S2:Hid (plc q l 0 = -1):=by
    show _=_
    rw[Za A,List.drop_of_length_le (by rw[Za HZ];omega)];rfl
   clear A hb
   go_wp2
   go_ret
   exact⟨by rw[Za S2];rfl,Za HB⟩
theorem Hd(a:Option Addr)(c:Nat)(v:Value)(w:World) :
  Calls Tryz.prog 149 #[.slice a 0 c,v] w fun e w'=>e = .returned (.int .i64 (-1))∧w=w':=by
 go_enter Tryz.func149,Tryz.ntmps149
 go_wp2
 refine wp_loop_rounds 1 ?_
 rw[rounds_succ]
 go_wp2
 go_ret
 exact⟨rfl,rfl⟩
theorem Kh(a:Option Addr)(n c:Nat)(l:List Zg)(q:PtD)(p:Nat)(w:World)(hn:n≤4096)(h:CoinsAt w a n l)
  (h1:w.cell? ⟨p,0,none⟩=some (.int .i64 q.1)) (h2:w.cell? ⟨p,1,none⟩=some (.int .i64 q.2)) :
  Calls Tryz.prog 149 #[.slice a n c,.func (.func 150) #[] #[.pointer (some ⟨p,0,none⟩)]] w fun e w'=>e = .returned (.int .i64 (plc q l 0))∧Below w.heap.size w w':=by
 obtain⟨hz,hc⟩:=h
 by_cases h0:n=0
 ·subst h0
  have e:l=[]:=List.length_eq_zero_iff.1 hz
  subst e
  exact (Hd a c _ w).mono fun e w' ⟨q1,q2⟩=>⟨q1,q2 ▸ Below.refl _ _⟩
 ·obtain⟨b,off,rfl,_,hcell⟩:=hc (by omega)
  exact Hc b off n c l q p w hz hn hcell h1 h2
theorem Rg(a:Option Addr)(n c:Nat)(l:List Zg)(q:PtD)(z:Int)(w:World)(hn:n≤4096)(h:CoinsAt w a n l)(hz:plc q l 0=z) :
  Calls Tryz.prog 110 #[.slice a n c,.agg #[.int .i64 q.1,.int .i64 q.2]] w fun e w'=>e = .returned (.int .i64 z)∧Below w.heap.size w w':=by
 subst hz
 have hb:=Zf w (.cells #[.int .i64 q.1,.int .i64 q.2] 99)
 obtain⟨n0,n1⟩:=Yd w (.int .i64 q.1) (.int .i64 q.2) 99
 have C:=Zb (Kh a n c l q w.heap.size _ hn (h.later hb) n0 n1)
 have HB:=Zb hb
 clear h hb n0 n1
 go_enter Tryz.func110,Tryz.ntmps110
 go_wp2_with fail
 refine (Za C).mono ?_
 rintro e w2 ⟨rfl,hb2⟩
 have HB2:=Zb (Ze (Za HB) hb2)
 clear hb2
 go_wp2
 go_ret
 exact⟨rfl,Za HB2⟩
structure Kp(B:Nat)(w w':World):Prop where
 size:w.heap.size≤w'.heap.size
 same:∀ b,B≤b→b<w.heap.size→w'.heap[b]? = w.heap[b]?
theorem Kp.refl(B:Nat)(w:World):Kp B w w:=⟨Nat.le_refl _,fun _ _ _=>rfl⟩
theorem Kp.trans{B:Nat}{w1 w2 w3:World}(h:Kp B w1 w2)(k:Kp B w2 w3):Kp B w1 w3:=
 ⟨Nat.le_trans h.size k.size,fun b hb hl=>(k.same b hb (Nat.lt_of_lt_of_le hl h.size)).trans (h.same b hb hl)⟩
theorem Kp.alloc(B:Nat)(w:World)(o:Obj):Kp B w (w.alloc o):=
 ⟨((Below.refl _ _).alloc (Nat.le_refl _) o:Below w.heap.size w (w.alloc o)).size,fun b _ hl=>((Below.refl _ _).alloc (Nat.le_refl _) o:Below w.heap.size w (w.alloc o)).block b hl⟩
theorem Kp.cell{B:Nat}{w w':World}(h:Kp B w w'){p:Addr}{v:Value}(hb:B≤p.block)(hc:w.cell? p=some v):w'.cell? p=some v:=by
 have hl:=World.block_lt_of_cell? w p hc
 have e:=h.same p.block hb hl
 simp only[World.cell?] at hc ⊢
 rw[e]
 exact hc
structure Sr{α : Type}[Inhabited α](P:Program)(g:Nat)(lb:Array Value)(sf:Nat)(sb:Array Value)(lt : α → α→Bool)(n B:Nat)(St:World→Array α→Prop):Prop where
 order:Sort.SWO lt
 small:n≤4096
 enters:∀ args w,(callFunc g args).run P w = .ok (.enter g args) w
 less:∀ w d (i j:Nat),St w d→i<n→j<n→Calls P g (#[.int .i64 i,.int .i64 j]++lb) w fun e w'=>e = .returned (.bool (lt d[i]! d[j]!))∧St w' d∧Kp B w w'
 swap:∀ w d (i j:Nat),St w d→i<n→j<n→∃ w',(callFunc sf (#[.int .i64 i,.int .i64 j]++sb)).run P w = .ok (.value (.tuple #[])) w'∧St w' (Sort.swp d i j)∧Kp B w w'
 size:∀ w d,St w d→d.size=n
 low:∀ w d,St w d→B≤w.heap.size
 alloc:∀ w d o,St w d→St (w.alloc o) d
 store:∀ w d b o v,St w d→B≤b→St (w.setCell ⟨b,o,none⟩ v) d
def lsV(g:Nat)(lb:Array Value)(sf:Nat)(sb:Array Value):Value:=.agg #[.func (.func g) #[] lb,.func (.func sf) #[] sb]
theorem W7(w:World)(x y:Value)(t:TypeId):(w.alloc (.cells #[x,y] t)).cell? ⟨w.heap.size,0,none⟩=some x∧(w.alloc (.cells #[x,y] t)).cell? ⟨w.heap.size,1,none⟩=some y:=
 ⟨by rw[World.cell?_alloc_at _ _ _ _ rfl];rfl,by rw[World.cell?_alloc_at _ _ _ _ rfl];rfl⟩
theorem Pb{α : Type}[Inhabited α](lt : α → α→Bool)(a b i:Nat)(d:Array α)(h:i<b):Sort.insOuter lt a b i d=Sort.insOuter lt a b (i+1) (Sort.insInner lt a i d):=by
 rw[Sort.insOuter,if_pos h]
theorem Mj{α : Type}[Inhabited α](lt : α → α→Bool)(a b i:Nat)(d:Array α)(h:¬i<b):Sort.insOuter lt a b i d=d:=by
 rw[Sort.insOuter,if_neg h]
theorem Dr{α : Type}[Inhabited α](lt : α → α→Bool)(a j:Nat)(d:Array α)(h:a<j)(hl:lt d[j]! d[j - 1]! = true):Sort.insInner lt a j d=Sort.insInner lt a (j - 1) (Sort.swp d j (j - 1)):=by
 obtain⟨k,rfl⟩:∃ k,j=k+1:=⟨j - 1,by omega⟩
 rw[Nat.add_sub_cancel] at hl ⊢
 rw[Sort.insInner,if_pos (by simp[hl,h])]
theorem Ti{α : Type}[Inhabited α](lt : α → α→Bool)(a j:Nat)(d:Array α)(h:j≤a∨lt d[j]! d[j - 1]! = false):Sort.insInner lt a j d=d:=by
 cases j with
 | zero=>rfl
 | succ k=>
  rw[Sort.insInner,if_neg]
  rcases h with h|h
  ·simp;omega
  ·rw[Nat.add_sub_cancel] at h
   simp[h]
theorem Zhp{α : Type}[Inhabited α]{g:Nat}{lb:Array Value}{sf:Nat}{sb:Array Value}{lt : α → α→Bool}{n B:Nat}{St:World→Array α→Prop}(H:Sr Tryz.prog g lb sf sb lt n B St)
  (a b:Nat) (d:Array α) (w:World) (h:St w d) (hab:a≤b) (hb:b≤n) :
  Calls Tryz.prog 214 #[lsV g lb sf sb,.int .i64 a,.int .i64 b] w fun e w'=>e = .returned (.tuple #[])∧St w' (Sort.insertionSort lt d a b)∧Kp B w w':=by
 unfold lsV Sort.insertionSort
 have hn:=H.small
 have eg:=H.enters
 have hlow:=H.low _ _ h
 obtain⟨N0,N1⟩:=W7 w (.func (.func g) #[] lb) (.func (.func sf) #[] sb) 272
 have SX:=Zb (H.alloc w d (.cells #[.func (.func g) #[] lb,.func (.func sf) #[] sb] 272) h)
 have KX:=Zb (Kp.alloc B w (.cells #[.func (.func g) #[] lb,.func (.func sf) #[] sb] 272))
 have HH:=Zb H
 clear H h
 go_enter Tryz.func214,Tryz.ntmps214
 go_wp2
 generalize w.alloc (.cells #[.func (.func g) #[] lb,.func (.func sf) #[] sb] 272)=X at *
 have M0:=Zb N0
 have M1:=Zb N1
 clear N0 N1
 go_loopw [6] (fun s6 wr=>∃ (i:Nat) (dk:Array α),s6 = .int .i64 i∧a<i∧i≤b+1∧Hid (Sort.insOuter lt a b i dk=Sort.insOuter lt a b (a+1) d)∧Hid (St wr dk)∧Hid (Kp B X wr)) (fun s6 _=>b+1 - (intOf s6).toNat)
 case atStart=>exact⟨a+1,d,by go_num,by omega,by omega,rfl,SX,Kp.refl _ _⟩
 case round=>
  obtain⟨i,dk,rfl,hai,hib,HO,HS,HK⟩:=hrel
  by_cases hlt:i<b
  ·go_wp2_with fail
   go_loopw [7] (fun s7 wr2=>∃ (j:Nat) (dj:Array α),s7 = .int .i64 j∧a≤j∧j≤i∧Hid (Sort.insInner lt a j dj=Sort.insInner lt a i dk)∧Hid (St wr2 dj)∧Hid (Kp B X wr2)) (fun s7 _=>(intOf s7).toNat)
   case atStart=>exact⟨i,dk,rfl,by omega,Nat.le_refl _,rfl,HS,HK⟩
   case round=>
    clear HS HK
    obtain⟨j,dj,rfl,haj,hji,HI,HS,HK⟩:=hrel
    have c0:=(Za HK).cell hlow (Za M0)
    have hsz:=World.block_lt_of_cell? _ _ c0
    by_cases hja:a<j
    ·have hl:=(Za HH).less wr dj j (j - 1) (Za HS) (by omega) (by omega)
     rw[show (((j - 1:Nat):Int))=(j:Int) - 1 by omega] at hl
     cases hlv:lt dj[j]! dj[j - 1]! with
     | true=>
      rw[hlv] at hl
      have HL:=Zb hlv
      clear hlv
      go_wp2_with (go_at_fn g;refine hl.mono ?_;rintro e w' ⟨rfl,hS2,hK2⟩;have HK2:=Zb (Kp.trans (Za HK) hK2);have c1:=(Za HK2).cell hlow (Za M1);obtain⟨w3,hs,hS3,hK3⟩:=(Za HH).swap w' dj j (j - 1) hS2 (by omega) (by omega);have HS3:=Zb hS3;have HK3:=Zb (Kp.trans (Za HK2) hK3);clear hS2 hK2 hS3 hK3;rw[show (((j - 1:Nat):Int))=(j:Int) - 1 by omega] at hs)
      go_roundw
      case rel=>exact⟨j - 1,Sort.swp dj j (j - 1),by congr 1 <;> omega,by omega,by omega,by show _=_;rw[←Za HI,Dr lt a j dj hja (Za HL)],HS3,HK3⟩
      case measure=>simp[intOf];omega
     | false=>
      rw[hlv] at hl
      have HL:=Zb hlv
      clear hlv
      go_wp2_with (go_at_fn g;refine hl.mono ?_;rintro e w' ⟨rfl,hS2,hK2⟩;have HK2:=Zb (Kp.trans (Za HK) hK2);have HS2:=Zb hS2;clear hS2 hK2)
      go_roundw
      case rel=>exact⟨i+1,dj,by go_num,by omega,by omega,by show _=_;rw[←Za HO,Pb _ _ _ _ _ hlt,←Za HI,Ti _ _ _ _ (Or.inr (Za HL))],HS2,HK2⟩
      case measure=>simp[intOf];omega
    ·go_wp2
     go_roundw
     case rel=>exact⟨i+1,dj,by go_num,by omega,by omega,by show _=_;rw[←Za HO,Pb _ _ _ _ _ hlt,←Za HI,Ti _ _ _ _ (Or.inl (by omega))],HS,HK⟩
     case measure=>simp[intOf];omega
  ·go_wp2_with fail
   go_end0
   exact⟨rfl,by rw[←Za HO,Mj _ _ _ _ _ hlt];exact Za HS,Kp.trans (Za KX) (Za HK)⟩
theorem Zbw{α : Type}[Inhabited α](lt : α → α→Bool)(hi first root:Nat)(d:Array α)(h:hi≤2*root+1):Sort.siftDown lt hi first root d=d:=by
 rw[Sort.siftDown,dif_pos h]
theorem Np{α : Type}[Inhabited α](lt : α → α→Bool)(hi first root:Nat)(d:Array α)(h:2*root+2<hi)(hl:lt d[first+(2*root+1)]! d[first+(2*root+1)+1]! = true) :
  Sort.siftDown lt hi first root d=if lt d[first+root]! d[first+(2*root+2)]! then Sort.siftDown lt hi first (2*root+2) (Sort.swp d (first+root) (first+(2*root+2))) else d:=by
 rw[Sort.siftDown,dif_neg (by omega),if_pos (by simp[hl];omega),dif_pos h]
 cases lt d[first+root]! d[first+(2*root+2)]! <;> rfl
theorem R5{α : Type}[Inhabited α](lt : α → α→Bool)(hi first root:Nat)(d:Array α)(h:2*root+1<hi)(hl:hi≤2*root+2∨lt d[first+(2*root+1)]! d[first+(2*root+1)+1]! = false) :
  Sort.siftDown lt hi first root d=if lt d[first+root]! d[first+(2*root+1)]! then Sort.siftDown lt hi first (2*root+1) (Sort.swp d (first+root) (first+(2*root+1))) else d:=by
 rw[Sort.siftDown,dif_neg (by omega),if_neg]
 ·cases lt d[first+root]! d[first+(2*root+1)]! <;> rfl
 ·rcases hl with q|q
  ·simp;omega
  ·simp[q]
theorem Bw{α : Type}[Inhabited α]{g:Nat}{lb:Array Value}{sf:Nat}{sb:Array Value}{lt : α → α→Bool}{n B:Nat}{St:World→Array α→Prop}(H:Sr Tryz.prog g lb sf sb lt n B St)
  (lo hi first:Nat) (d:Array α) (w:World) (h:St w d) (hb:first+hi≤n) (hlo:lo≤n) :
  Calls Tryz.prog 241 #[lsV g lb sf sb,.int .i64 lo,.int .i64 hi,.int .i64 first] w fun e w'=>e = .returned (.tuple #[])∧St w' (Sort.siftDown lt hi first lo d)∧Kp B w w':=by
 unfold lsV
 have hn:=H.small
 have eg:=H.enters
 have hlow:=H.low _ _ h
 obtain⟨N0,N1⟩:=W7 w (.func (.func g) #[] lb) (.func (.func sf) #[] sb) 272
 have SX:=Zb (H.alloc w d (.cells #[.func (.func g) #[] lb,.func (.func sf) #[] sb] 272) h)
 have KX:=Zb (Kp.alloc B w (.cells #[.func (.func g) #[] lb,.func (.func sf) #[] sb] 272))
 have HH:=Zb H
 clear H h
 go_enter Tryz.func241,Tryz.ntmps241
 go_wp2
 generalize w.alloc (.cells #[.func (.func g) #[] lb,.func (.func sf) #[] sb] 272)=X at *
 have M0:=Zb N0
 have M1:=Zb N1
 clear N0 N1
 go_loopw [8] (fun s8 wr=>∃ (root:Nat) (dk:Array α),s8 = .int .i64 root∧root≤n∧Hid (Sort.siftDown lt hi first root dk=Sort.siftDown lt hi first lo d)∧Hid (St wr dk)∧Hid (Kp B X wr)) (fun s8 _=>n+1 - (intOf s8).toNat)
 case atStart=>exact⟨lo,d,rfl,hlo,rfl,SX,Kp.refl _ _⟩
 case round=>
  obtain⟨root,dk,rfl,hrn,HO,HS,HK⟩:=hrel
  have c0:=(Za HK).cell hlow (Za M0)
  have hsz:=World.block_lt_of_cell? _ _ c0
  obtain⟨c,hc⟩:∃ c:Nat,c=2*root+1:=⟨_,rfl⟩
  have hcI:2*(root:Int)+1=(c:Int):=by omega
  have hrc:root<c:=by omega
  have HC:=Zb hc
  clear hc
  by_cases hend:hi≤c
  ·go_wp2_with fail
   go_end0
   exact⟨rfl,by rw[←Za HO,Zbw _ _ _ _ _ (by have:=Za HC;omega)];exact Za HS,Kp.trans (Za KX) (Za HK)⟩
  ·
   by_cases hmore:c+1<hi
   ·have hl:=(Za HH).less wr dk (first+c) (first+c+1) (Za HS) (by omega) (by omega)
    rw[show (((first+c+1:Nat):Int))=(first:Int)+c+1 by omega,show (((first+c:Nat):Int))=(first:Int)+c by omega] at hl
    cases hlv:lt dk[first+c]! dk[first+c+1]! with
    | true=>
     rw[hlv] at hl
     have HL:=Zb hlv
     clear hlv
     go_wp2_with fail
     refine hl.mono ?_
     rintro e w2 ⟨rfl,hS2,hK2⟩
     have HK2:=Zb (Kp.trans (Za HK) hK2)
     have HS2:=Zb hS2
     have c02:=(Za HK2).cell hlow (Za M0)
     have hl2:=(Za HH).less w2 dk (first+root) (first+(c+1)) hS2 (by omega) (by omega)
     rw[show (((first+(c+1):Nat):Int))=(first:Int)+(c+1) by omega,show (((first+root:Nat):Int))=(first:Int)+root by omega] at hl2
     have hsz2:=World.block_lt_of_cell? _ _ c02
     clear hS2 hK2 hl c0
     cases hlv:lt dk[first+root]! dk[first+(c+1)]! with
     | true=>
      rw[hlv] at hl2
      have HL2:=Zb hlv
      clear hlv
      go_wp2_with fail
      refine hl2.mono ?_
      rintro e w3 ⟨rfl,hS3,hK3⟩
      have HK3:=Zb (Kp.trans (Za HK2) hK3)
      have c13:=(Za HK3).cell hlow (Za M1)
      have hsz3:=World.block_lt_of_cell? _ _ c13
      obtain⟨w4,hs,hS4,hK4⟩:=(Za HH).swap w3 dk (first+root) (first+(c+1)) hS3 (by omega) (by omega)
      rw[show (((first+(c+1):Nat):Int))=(first:Int)+(c+1) by omega,show (((first+root:Nat):Int))=(first:Int)+root by omega] at hs
      have HS4:=Zb hS4
      have HK4:=Zb (Kp.trans (Za HK3) hK4)
      clear hS3 hK3 hS4 hK4 hl2
      go_wp2
      go_roundw
      case rel=>exact⟨c+1,_,by go_num,by omega,by show _=_;rw[←Za HO,Np lt hi first root dk (by have:=Za HC;omega) (by rw[←Za HC];exact Za HL),show 2*root+2=c+1 by have:=Za HC;omega,if_pos (Za HL2)],HS4,HK4⟩
      case measure=>simp[intOf];omega
     | false=>
      rw[hlv] at hl2
      have HL2:=Zb hlv
      clear hlv
      go_wp2_with fail
      refine hl2.mono ?_
      rintro e w3 ⟨rfl,hS3,hK3⟩
      have HK3:=Zb (Kp.trans (Za HK2) hK3)
      have HS3:=Zb hS3
      clear hS3 hK3 hl2
      go_wp2
      (try simp only[Exit.inBlock,Exit.then]);refine bodyPost_ret (results_none rfl _ _ _) rfl ?_
      exact⟨rfl,by rw[←Za HO,Np lt hi first root dk (by have:=Za HC;omega) (by rw[←Za HC];exact Za HL),show 2*root+2=c+1 by have:=Za HC;omega,if_neg (by rw[Za HL2];decide)];exact Za HS3,Kp.trans (Za KX) (Za HK3)⟩
    | false=>
     rw[hlv] at hl
     have HL:=Zb hlv
     clear hlv
     go_wp2_with fail
     refine hl.mono ?_
     rintro e w2 ⟨rfl,hS2,hK2⟩
     have HK2:=Zb (Kp.trans (Za HK) hK2)
     have HS2:=Zb hS2
     have c02:=(Za HK2).cell hlow (Za M0)
     have hl2:=(Za HH).less w2 dk (first+root) (first+c) hS2 (by omega) (by omega)
     rw[show (((first+c:Nat):Int))=(first:Int)+c by omega,show (((first+root:Nat):Int))=(first:Int)+root by omega] at hl2
     have hsz2:=World.block_lt_of_cell? _ _ c02
     clear hS2 hK2 hl c0
     cases hlv:lt dk[first+root]! dk[first+c]! with
     | true=>
      rw[hlv] at hl2
      have HL2:=Zb hlv
      clear hlv
      go_wp2_with fail
      refine hl2.mono ?_
      rintro e w3 ⟨rfl,hS3,hK3⟩
      have HK3:=Zb (Kp.trans (Za HK2) hK3)
      have c13:=(Za HK3).cell hlow (Za M1)
      have hsz3:=World.block_lt_of_cell? _ _ c13
      obtain⟨w4,hs,hS4,hK4⟩:=(Za HH).swap w3 dk (first+root) (first+c) hS3 (by omega) (by omega)
      rw[show (((first+c:Nat):Int))=(first:Int)+c by omega,show (((first+root:Nat):Int))=(first:Int)+root by omega] at hs
      have HS4:=Zb hS4
      have HK4:=Zb (Kp.trans (Za HK3) hK4)
      clear hS3 hK3 hS4 hK4 hl2
      go_wp2
      go_roundw
      case rel=>exact⟨c,_,by go_num,by omega,by show _=_;rw[←Za HO,R5 lt hi first root dk (by have:=Za HC;omega) (Or.inr (by rw[←Za HC];exact Za HL)),←Za HC,if_pos (Za HL2)],HS4,HK4⟩
      case measure=>simp[intOf];omega
     | false=>
      rw[hlv] at hl2
      have HL2:=Zb hlv
      clear hlv
      go_wp2_with fail
      refine hl2.mono ?_
      rintro e w3 ⟨rfl,hS3,hK3⟩
      have HK3:=Zb (Kp.trans (Za HK2) hK3)
      have HS3:=Zb hS3
      clear hS3 hK3 hl2
      go_wp2
      (try simp only[Exit.inBlock,Exit.then]);refine bodyPost_ret (results_none rfl _ _ _) rfl ?_
      exact⟨rfl,by rw[←Za HO,R5 lt hi first root dk (by have:=Za HC;omega) (Or.inr (by rw[←Za HC];exact Za HL)),←Za HC,if_neg (by rw[Za HL2];decide)];exact Za HS3,Kp.trans (Za KX) (Za HK3)⟩
   ·have hl2:=(Za HH).less wr dk (first+root) (first+c) (Za HS) (by omega) (by omega)
    rw[show (((first+c:Nat):Int))=(first:Int)+c by omega,show (((first+root:Nat):Int))=(first:Int)+root by omega] at hl2
    cases hlv:lt dk[first+root]! dk[first+c]! with
    | true=>
     rw[hlv] at hl2
     have HL2:=Zb hlv
     clear hlv
     go_wp2_with fail
     refine hl2.mono ?_
     rintro e w3 ⟨rfl,hS3,hK3⟩
     have HK3:=Zb (Kp.trans (Za HK) hK3)
     have c13:=(Za HK3).cell hlow (Za M1)
     have hsz3:=World.block_lt_of_cell? _ _ c13
     obtain⟨w4,hs,hS4,hK4⟩:=(Za HH).swap w3 dk (first+root) (first+c) hS3 (by omega) (by omega)
     rw[show (((first+c:Nat):Int))=(first:Int)+c by omega,show (((first+root:Nat):Int))=(first:Int)+root by omega] at hs
     have HS4:=Zb hS4
     have HK4:=Zb (Kp.trans (Za HK3) hK4)
     clear hS3 hK3 hS4 hK4 hl2
     go_wp2
     go_roundw
     case rel=>exact⟨c,_,by go_num,by omega,by show _=_;rw[←Za HO,R5 lt hi first root dk (by have:=Za HC;omega) (Or.inl (by have:=Za HC;omega)),←Za HC,if_pos (Za HL2)],HS4,HK4⟩
     case measure=>simp[intOf];omega
    | false=>
     rw[hlv] at hl2
     have HL2:=Zb hlv
     clear hlv
     go_wp2_with fail
     refine hl2.mono ?_
     rintro e w3 ⟨rfl,hS3,hK3⟩
     have HK3:=Zb (Kp.trans (Za HK) hK3)
     have HS3:=Zb hS3
     clear hS3 hK3 hl2
     go_wp2
     (try simp only[Exit.inBlock,Exit.then]);refine bodyPost_ret (results_none rfl _ _ _) rfl ?_
     exact⟨rfl,by rw[←Za HO,R5 lt hi first root dk (by have:=Za HC;omega) (Or.inl (by have:=Za HC;omega)),←Za HC,if_neg (by rw[Za HL2];decide)];exact Za HS3,Kp.trans (Za KX) (Za HK3)⟩
theorem Zga{α : Type}[Inhabited α]{g:Nat}{lb:Array Value}{sf:Nat}{sb:Array Value}{lt : α → α→Bool}{n B:Nat}{St:World→Array α→Prop}(H:Sr Tryz.prog g lb sf sb lt n B St)
  (a b:Nat) (d:Array α) (w:World) (h:St w d) (hab:a+2≤b) (hb:b≤n) :
  Calls Tryz.prog 215 #[lsV g lb sf sb,.int .i64 a,.int .i64 b] w fun e w'=>e = .returned (.tuple #[])∧St w' (Sort.heapSort lt d a b)∧Kp B w w':=by
 unfold lsV Sort.heapSort
 have hn:=H.small
 have hlow:=H.low _ _ h
 obtain⟨N0,N1⟩:=W7 w (.func (.func g) #[] lb) (.func (.func sf) #[] sb) 272
 have SX:=Zb (H.alloc w d (.cells #[.func (.func g) #[] lb,.func (.func sf) #[] sb] 272) h)
 have KX:=Zb (Kp.alloc B w (.cells #[.func (.func g) #[] lb,.func (.func sf) #[] sb] 272))
 have HH:=Zb H
 clear H h
 obtain⟨hi,hhi⟩:∃ hi:Nat,hi=b - a:=⟨_,rfl⟩
 have hhI:(b:Int) - (a:Int)=(hi:Int):=by omega
 obtain⟨m,hm⟩:∃ m:Nat,m=(hi - 1) / 2:=⟨_,rfl⟩
 have hmI:((hi:Int) - 1) / 2=(m:Int):=by omega
 have hmT:((hi:Int) - 1).tdiv 2=(m:Int):=by rw[Int.tdiv_eq_ediv_of_nonneg (by omega)];exact hmI
 rw[←hhi,←hm]
 have hi2:2≤hi:=by omega
 have hib:a+hi≤n:=by omega
 have hmh:m<hi:=by omega
 clear hm hhi
 go_enter Tryz.func215,Tryz.ntmps215
 go_wp2
 generalize w.alloc (.cells #[.func (.func g) #[] lb,.func (.func sf) #[] sb] 272)=X at *
 have M0:=Zb N0
 have M1:=Zb N1
 clear N0 N1
 go_loopw [9] (fun s9 wr=>∃ (k:Nat) (dk:Array α),s9 = .int .i64 ((k:Int) - 1)∧k≤hi∧Hid (Sort.heapBuild lt hi a k dk=Sort.heapBuild lt hi a (m+1) d)∧Hid (St wr dk)∧Hid (Kp B X wr)) (fun s9 _=>(intOf s9+1).toNat)
 case atStart=>exact⟨m+1,d,by congr 1;omega,by omega,rfl,SX,Kp.refl _ _⟩
 case round=>
  obtain⟨k,dk,rfl,hkh,HO,HS,HK⟩:=hrel
  have c0:=(Za HK).cell hlow (Za M0)
  have c1:=(Za HK).cell hlow (Za M1)
  have hsz:=World.block_lt_of_cell? _ _ c0
  cases k with
  | zero=>
   have HD:Hid (dk=Sort.heapBuild lt hi a (m+1) d):=Za HO
   clear HO
   have hneg:¬(0:Int)≤((0:Nat):Int) - 1:=by omega
   go_wp2_with fail
   go_loopw [10] (fun s10 wr=>∃ (k:Nat) (dj:Array α),s10 = .int .i64 ((k:Int) - 1)∧k≤hi∧Hid (Sort.heapPop lt a k dj=Sort.heapPop lt a hi dk)∧Hid (St wr dj)∧Hid (Kp B X wr)) (fun s10 _=>(intOf s10+1).toNat)
   case atStart=>exact⟨hi,dk,rfl,Nat.le_refl _,rfl,HS,HK⟩
   case round=>
    clear HS HK c0 c1 hsz
    obtain⟨k,dj,rfl,hkh,HO,HS,HK⟩:=hrel
    have c0:=(Za HK).cell hlow (Za M0)
    have c1:=(Za HK).cell hlow (Za M1)
    have hsz:=World.block_lt_of_cell? _ _ c0
    cases k with
    | zero=>
     have hneg:¬(0:Int)≤((0:Nat):Int) - 1:=by omega
     go_wp2_with fail
     go_end0
     exact⟨rfl,by rw[←Za HD,←Za HO];exact Za HS,Kp.trans (Za KX) (Za HK)⟩
    | succ k=>
     have hkI:((k+1:Nat):Int) - 1=(k:Int):=by omega
     rw[hkI]
     obtain⟨w2,hs,hS2,hK2⟩:=(Za HH).swap wr dj a (a+k) (Za HS) (by omega) (by omega)
     rw[show (((a+k:Nat):Int))=(a:Int)+k by omega] at hs
     have HK2:=Zb (Kp.trans (Za HK) hK2)
     have c02:=(Za HK2).cell hlow (Za M0)
     have c12:=(Za HK2).cell hlow (Za M1)
     have hsz2:=World.block_lt_of_cell? _ _ c02
     have C:=Zb (Bw (Za HH) 0 k a (Sort.swp dj a (a+k)) w2 hS2 (by omega) (by omega))
     unfold lsV at C
     clear hS2 hK2 c0
     go_wp2_with fail
     refine (Za C).mono ?_
     rintro e w3 ⟨rfl,hS3,hK3⟩
     have HS3:=Zb hS3
     have HK3:=Zb (Kp.trans (Za HK2) hK3)
     clear hS3 hK3
     go_wp2
     go_roundw
     case rel=>exact⟨k,_,rfl,by omega,by show _=_;rw[←Za HO];rfl,HS3,HK3⟩
     case measure=>simp[intOf]
  | succ k=>
   have hkI:((k+1:Nat):Int) - 1=(k:Int):=by omega
   rw[hkI]
   have C:=Zb (Bw (Za HH) k hi a dk wr (Za HS) (by omega) (by omega))
   unfold lsV at C
   go_wp2_with fail
   refine (Za C).mono ?_
   rintro e w3 ⟨rfl,hS3,hK3⟩
   have HS3:=Zb hS3
   have HK3:=Zb (Kp.trans (Za HK) hK3)
   clear hS3 hK3
   go_wp2
   go_roundw
   case rel=>exact⟨k,_,rfl,by omega,by show _=_;rw[←Za HO];rfl,HS3,HK3⟩
   case measure=>simp[intOf]
structure Kq(B q:Nat)(w w':World):Prop where
 size:w.heap.size≤w'.heap.size
 same:∀ b,B≤b→b≠q→b<w.heap.size→w'.heap[b]? = w.heap[b]?
theorem Kq.refl(B q:Nat)(w:World):Kq B q w w:=⟨Nat.le_refl _,fun _ _ _ _=>rfl⟩
theorem Kq.trans{B q:Nat}{w1 w2 w3:World}(h:Kq B q w1 w2)(k:Kq B q w2 w3):Kq B q w1 w3:=
 ⟨Nat.le_trans h.size k.size,fun b hb hq hl=>(k.same b hb hq (Nat.lt_of_lt_of_le hl h.size)).trans (h.same b hb hq hl)⟩
theorem Kp.but{B q:Nat}{w w':World}(h:Kp B w w'):Kq B q w w':=⟨h.size,fun b hb _ hl=>h.same b hb hl⟩
theorem Kq.set(B q:Nat)(w:World)(v:Value):Kq B q w (w.setCell ⟨q,0,none⟩ v):=
 ⟨by simp[World.setCell],fun b _ hq _=>Below.heap_setCell w ⟨q,0,none⟩ v b hq⟩
theorem Kq.cell{B q:Nat}{w w':World}(h:Kq B q w w'){p:Addr}{v:Value}(hb:B≤p.block)(hq:p.block≠q)(hc:w.cell? p=some v):w'.cell? p=some v:=by
 have hl:=World.block_lt_of_cell? w p hc
 have e:=h.same p.block hb hq hl
 simp only[World.cell?] at hc ⊢
 rw[e]
 exact hc
theorem Kq.all{B q:Nat}{w w1 w2:World}(h:Kp B w w1)(k:Kq B q w1 w2)(hq:w.heap.size≤q):Kp B w w2:=
 ⟨Nat.le_trans h.size k.size,fun b hb hl=>(k.same b hb (by omega) (Nat.lt_of_lt_of_le hl h.size)).trans (h.same b hb hl)⟩
def Ctr(w:World)(q s:Nat):Prop:=w.cell? ⟨q,0,none⟩=some (.int .i64 s)∧w.frozen? ⟨q,0,none⟩=false
theorem Ctr.kp{B q s:Nat}{w w':World}(c:Ctr w q s)(h:Kp B w w')(hq:B≤q):Ctr w' q s:=
 ⟨h.cell (p:=⟨q,0,none⟩) hq c.1,by
  have e:=h.same q hq (World.block_lt_of_cell? _ _ c.1)
  have f:=c.2
  simp only[World.frozen?] at f ⊢
  rw[e]
  exact f⟩
theorem T9{α : Type}[Inhabited α]{g:Nat}{lb:Array Value}{sf:Nat}{sb:Array Value}{lt : α → α→Bool}{n B:Nat}{St:World→Array α→Prop}(H:Sr Tryz.prog g lb sf sb lt n B St)
  (a b q s:Nat) (d:Array α) (w:World) (h:St w d) (ha:a<n) (hb:b<n) (hq:B≤q) (hs:s≤100) (hc:Ctr w q s) :
  Calls Tryz.prog 252 #[lsV g lb sf sb,.int .i64 a,.int .i64 b,.pointer (some ⟨q,0,none⟩)] w fun e w'=>∃ x y s':Nat,e = .returned (.tuple #[.int .i64 x,.int .i64 y])∧((x=a∧y=b)∨(x=b∧y=a))∧s'≤s+1∧Ctr w' q s'∧St w' d∧Kq B q w w':=by
 unfold lsV
 have hn:=H.small
 have eg:=H.enters
 have hlow:=H.low _ _ h
 obtain⟨N0,N1⟩:=W7 w (.func (.func g) #[] lb) (.func (.func sf) #[] sb) 272
 have hql:=World.block_lt_of_cell? _ _ hc.1
 have SX:=H.alloc w d (.cells #[.func (.func g) #[] lb,.func (.func sf) #[] sb] 272) h
 have KX:=Kp.alloc B w (.cells #[.func (.func g) #[] lb,.func (.func sf) #[] sb] 272)
 have cX:=hc.kp KX hq
 have hl:=H.less _ d b a SX hb ha
 have HH:=Zb H
 have KH:=Zb KX
 clear H h KX SX hc
 cases hlv:lt d[b]! d[a]! with
 | true=>
  rw[hlv] at hl
  clear hlv
  go_enter Tryz.func252,Tryz.ntmps252
  go_wp2_with fail
  refine hl.mono ?_
  rintro e w2 ⟨rfl,hS2,hK2⟩
  obtain⟨c2,f2⟩:=cX.kp hK2 hq
  have hsz2:=World.block_lt_of_cell? _ _ c2
  have HS3:=Zb ((Za HH).store w2 d q 0 (.int .i64 ((s+1:Nat):Int)) hS2 hq)
  have HK3:=Zb (Kq.trans (Kq.trans (Za KH).but hK2.but) (Kq.set B q w2 (.int .i64 ((s+1:Nat):Int))))
  have HC3:Hid (Ctr (w2.setCell ⟨q,0,none⟩ (.int .i64 ((s+1:Nat):Int))) q (s+1)):=⟨World.cell?_setCell_same _ _ _ c2,by rw[World.frozen?_setCell];exact f2⟩
  clear hS2 hK2 hl N0 N1 cX
  go_wp2
  go_ret2
  exact⟨b,a,s+1,rfl,Or.inr ⟨rfl,rfl⟩,Nat.le_refl _,Za HC3,Za HS3,Za HK3⟩
 | false=>
  rw[hlv] at hl
  clear hlv
  go_enter Tryz.func252,Tryz.ntmps252
  go_wp2_with fail
  refine hl.mono ?_
  rintro e w2 ⟨rfl,hS2,hK2⟩
  have HC2:=Zb (cX.kp hK2 hq)
  have HS2:=Zb hS2
  have HK2:=Zb (Kq.trans (q:=q) (Za KH).but hK2.but)
  clear hS2 hK2 hl N0 N1 cX
  go_wp2
  go_ret2
  exact⟨a,b,s,rfl,Or.inl ⟨rfl,rfl⟩,by omega,Za HC2,Za HS2,Za HK2⟩
theorem Sa{α : Type}[Inhabited α]{g:Nat}{lb:Array Value}{sf:Nat}{sb:Array Value}{lt : α → α→Bool}{n B:Nat}{St:World→Array α→Prop}(H:Sr Tryz.prog g lb sf sb lt n B St)
  (a b c q s:Nat) (d:Array α) (w:World) (h:St w d) (ha:a<n) (hb:b<n) (hcn:c<n) (hq:B≤q) (hs:s≤90) (hc:Ctr w q s) :
  Calls Tryz.prog 245 #[lsV g lb sf sb,.int .i64 a,.int .i64 b,.int .i64 c,.pointer (some ⟨q,0,none⟩)] w fun e w'=>∃ x s':Nat,e = .returned (.int .i64 x)∧(x=a∨x=b∨x=c)∧s'≤s+3∧Ctr w' q s'∧St w' d∧Kq B q w w':=by
 unfold lsV
 have hlow:=H.low _ _ h
 have hql:=World.block_lt_of_cell? _ _ hc.1
 obtain⟨N0,N1⟩:=W7 w (.func (.func g) #[] lb) (.func (.func sf) #[] sb) 272
 have SX:=H.alloc w d (.cells #[.func (.func g) #[] lb,.func (.func sf) #[] sb] 272) h
 have KX:=Kp.alloc B w (.cells #[.func (.func g) #[] lb,.func (.func sf) #[] sb] 272)
 have cX:=hc.kp KX hq
 have C:=Zb (T9 H a b q s d _ SX ha hb hq (by omega) cX)
 unfold lsV at C
 have HH:=Zb H
 have KH:=Zb KX
 have M0:=Zb N0
 have M1:=Zb N1
 clear H h KX SX hc cX
 go_enter Tryz.func245,Tryz.ntmps245
 go_wp2_with fail
 refine (Za C).mono ?_
 rintro e w2 ⟨x1,y1,s1,rfl,hxy1,hs1,c1,hS1,hK1⟩
 have m0:=hK1.cell (p:=⟨w.heap.size,0,none⟩) hlow (by show w.heap.size≠q;omega) (Za M0)
 have m1:=hK1.cell (p:=⟨w.heap.size,1,none⟩) hlow (by show w.heap.size≠q;omega) (Za M1)
 have hz2:=World.block_lt_of_cell? _ _ m0
 have C2:=Zb (T9 (Za HH) y1 c q s1 d _ hS1 (by omega) hcn hq (by omega) c1)
 unfold lsV at C2
 have HK1:=Zb (Kq.trans (Za KH).but hK1)
 have P0:=Zb m0
 have P1:=Zb m1
 clear N0 N1 C hK1 hS1 c1
 go_wp2_with fail
 refine (Za C2).mono ?_
 rintro e w3 ⟨x2,y2,s2,rfl,hxy2,hs2,c2,hS2,hK2⟩
 have n0:=hK2.cell (p:=⟨w.heap.size,0,none⟩) hlow (by show w.heap.size≠q;omega) (Za P0)
 have n1:=hK2.cell (p:=⟨w.heap.size,1,none⟩) hlow (by show w.heap.size≠q;omega) (Za P1)
 have hz3:=World.block_lt_of_cell? _ _ n0
 have C3:=Zb (T9 (Za HH) x1 x2 q s2 d _ hS2 (by omega) (by omega) hq (by omega) c2)
 unfold lsV at C3
 have HK2:=Zb (Kq.trans (Za HK1) hK2)
 clear m0 m1 C2 hK2 hS2 c2
 go_wp2_with fail
 refine (Za C3).mono ?_
 rintro e w4 ⟨x3,y3,s3,rfl,hxy3,hs3,c3,hS3,hK3⟩
 have HC3:=Zb c3
 have HS3:=Zb hS3
 have HK3:=Zb (Kq.trans (Za HK2) hK3)
 clear n0 n1 C3 hK3 hS3 c3
 go_wp2
 go_ret
 exact⟨y3,s3,rfl,by omega,by omega,Za HC3,Za HS3,Za HK3⟩
theorem Sb{α : Type}[Inhabited α]{g:Nat}{lb:Array Value}{sf:Nat}{sb:Array Value}{lt : α → α→Bool}{n B:Nat}{St:World→Array α→Prop}(H:Sr Tryz.prog g lb sf sb lt n B St)
  (a q s:Nat) (d:Array α) (w:World) (h:St w d) (ha:a+1<n) (ha1:1≤a) (hq:B≤q) (hs:s≤90) (hc:Ctr w q s) :
  Calls Tryz.prog 244 #[lsV g lb sf sb,.int .i64 a,.pointer (some ⟨q,0,none⟩)] w fun e w'=>∃ x s':Nat,e = .returned (.int .i64 x)∧(a≤x+1∧x≤a+1)∧s'≤s+3∧Ctr w' q s'∧St w' d∧Kq B q w w':=by
 unfold lsV
 have hn:=H.small
 have hlow:=H.low _ _ h
 obtain⟨N0,N1⟩:=W7 w (.func (.func g) #[] lb) (.func (.func sf) #[] sb) 272
 have SX:=H.alloc w d (.cells #[.func (.func g) #[] lb,.func (.func sf) #[] sb] 272) h
 have KX:=Kp.alloc B w (.cells #[.func (.func g) #[] lb,.func (.func sf) #[] sb] 272)
 have cX:=hc.kp KX hq
 have C:=Sa H (a - 1) a (a+1) q s d _ SX (by omega) (by omega) (by omega) hq hs cX
 unfold lsV at C
 rw[show (((a - 1:Nat):Int))=(a:Int) - 1 by omega,show (((a+1:Nat):Int))=(a:Int)+1 by omega] at C
 have C:=Zb C
 have KH:=Zb KX
 clear H h KX SX hc cX
 go_enter Tryz.func244,Tryz.ntmps244
 go_wp2_with fail
 refine (Za C).mono ?_
 rintro e w2 ⟨x1,s1,rfl,hx1,hs1,c1,hS1,hK1⟩
 have HC1:=Zb c1
 have HS1:=Zb hS1
 have HK1:=Zb (Kq.trans (Za KH).but hK1)
 clear N0 N1 C hK1 hS1 c1
 go_wp2
 go_ret
 exact⟨x1,s1,rfl,by omega,by omega,Za HC1,Za HS1,Za HK1⟩
theorem Zan{α : Type}[Inhabited α]{g:Nat}{lb:Array Value}{sf:Nat}{sb:Array Value}{lt : α → α→Bool}{n B:Nat}{St:World→Array α→Prop}(H:Sr Tryz.prog g lb sf sb lt n B St)
  (a b:Nat) (d:Array α) (w:World) (h:St w d) (hab:a+13≤b) (hb:b≤n) :
  Calls Tryz.prog 217 #[lsV g lb sf sb,.int .i64 a,.int .i64 b] w fun e w'=>∃ x t:Nat,e = .returned (.tuple #[.int .i64 x,.int .i64 t])∧a≤x∧x<b∧t≤2∧St w' d∧Kp B w w':=by
 unfold lsV
 have hn:=H.small
 have hlow:=H.low _ _ h
 obtain⟨l,hl⟩:∃ l:Nat,l=b - a:=⟨_,rfl⟩
 have hlI:(b:Int) - (a:Int)=(l:Int):=by omega
 obtain⟨q,hq⟩:∃ q:Nat,q=l / 4:=⟨_,rfl⟩
 have hqI:(l:Int) / 4=(q:Int):=by omega
 have hqT:(l:Int).tdiv 4=(q:Int):=by rw[Int.tdiv_eq_ediv_of_nonneg (by omega)];exact hqI
 have hq4:4*q≤l:=by omega
 have hq4':l<4*q+4:=by omega
 have hlb:a+l=b:=by omega
 have hl13:13≤l:=by omega
 clear hq hl
 obtain⟨N0,N1⟩:=W7 w (.func (.func g) #[] lb) (.func (.func sf) #[] sb) 272
 have SX:=H.alloc _ d (.cells #[.int .i64 0] 3) (H.alloc w d (.cells #[.func (.func g) #[] lb,.func (.func sf) #[] sb] 272) h)
 have KX:=Kp.trans (Kp.alloc B w (.cells #[.func (.func g) #[] lb,.func (.func sf) #[] sb] 272)) (Kp.alloc B _ (.cells #[.int .i64 0] 3))
 have KY:=Kp.alloc B (w.alloc (.cells #[.func (.func g) #[] lb,.func (.func sf) #[] sb] 272)) (.cells #[.int .i64 0] 3)
 have m0:=KY.cell hlow N0
 have m1:=KY.cell hlow N1
 have hqs:(w.alloc (.cells #[.func (.func g) #[] lb,.func (.func sf) #[] sb] 272)).heap.size=w.heap.size+1:=by simp
 have hct:Ctr ((w.alloc (.cells #[.func (.func g) #[] lb,.func (.func sf) #[] sb] 272)).alloc (.cells #[.int .i64 0] 3)) (w.heap.size+1) 0:=by
  rw[←hqs]
  exact⟨by rw[World.cell?_alloc_at _ _ _ _ rfl];rfl,World.frozen?_alloc_at _ _ _ _ rfl⟩
 have hz0:=World.block_lt_of_cell? _ _ hct.1
 have hi:(a:Int)+(q:Int)=((a+q:Nat):Int):=by omega
 have hj:(a:Int)+(q:Int)*2=((a+q*2:Nat):Int):=by omega
 have hk:(a:Int)+(q:Int)*3=((a+q*3:Nat):Int):=by omega
 obtain⟨i,hi'⟩:∃ i:Nat,i=a+q:=⟨_,rfl⟩
 obtain⟨j,hj'⟩:∃ j:Nat,j=a+q*2:=⟨_,rfl⟩
 obtain⟨k,hk'⟩:∃ k:Nat,k=a+q*3:=⟨_,rfl⟩
 rw[←hi'] at hi
 rw[←hj'] at hj
 rw[←hk'] at hk
 have hib:a+3≤i∧i<j∧j<k∧k<b:=by omega
 have HH:=Zb H
 have KH:=Zb KX
 have M0:=Zb m0
 have M1:=Zb m1
 have HS:=Zb SX
 have HC:=Zb hct
 clear H h SX KX KY N0 N1 hct hi' hj' hk' hqs
 have A0:=M0
 have B0:=M1
 have HK0:=Zb (Kq.refl B (w.heap.size+1) ((w.alloc (.cells #[.func (.func g) #[] lb,.func (.func sf) #[] sb] 272)).alloc (.cells #[.int .i64 0] 3)))
 have h8I:(8:Int)≤(l:Int):=by omega
 by_cases h50:50≤l
 ·have h50I:(50:Int)≤(l:Int):=by omega
  have C1:=Zb (Sb (Za HH) i (w.heap.size+1) 0 d _ (Za HS) (by omega) (by omega) (by omega) (by omega) (Za HC))
  unfold lsV at C1
  go_enter Tryz.func217,Tryz.ntmps217
  go_wp2_with fail
  refine (Za C1).mono ?_
  rintro e w1 ⟨x1,s1,rfl,hx1,hs1,hc1,hS1,hK1⟩
  have ca1:=hK1.cell (p:=⟨w.heap.size,0,none⟩) hlow (by show w.heap.size≠w.heap.size+1;omega) (Za A0)
  have cb1:=hK1.cell (p:=⟨w.heap.size,1,none⟩) hlow (by show w.heap.size≠w.heap.size+1;omega) (Za B0)
  have cz1:=World.block_lt_of_cell? _ _ ca1
  have A1:=Zb ca1
  have B1:=Zb cb1
  have HK1:=Zb (Kq.trans (Za HK0) hK1)
  have HS1:=Zb hS1
  have HC1:=Zb hc1
  clear hK1 hS1 hc1 C1
  have C2:=Zb (Sb (Za HH) j (w.heap.size+1) s1 d _ (Za HS1) (by omega) (by omega) (by omega) (by omega) (Za HC1))
  unfold lsV at C2
  go_wp2_with fail
  refine (Za C2).mono ?_
  rintro e w2 ⟨x2,s2,rfl,hx2,hs2,hc2,hS2,hK2⟩
  have ca2:=hK2.cell (p:=⟨w.heap.size,0,none⟩) hlow (by show w.heap.size≠w.heap.size+1;omega) (Za A1)
  have cb2:=hK2.cell (p:=⟨w.heap.size,1,none⟩) hlow (by show w.heap.size≠w.heap.size+1;omega) (Za B1)
  have cz2:=World.block_lt_of_cell? _ _ ca2
  have A2:=Zb ca2
  have B2:=Zb cb2
  have HK2:=Zb (Kq.trans (Za HK1) hK2)
  have HS2:=Zb hS2
  have HC2:=Zb hc2
  clear hK2 hS2 hc2 C2
  have C3:=Zb (Sb (Za HH) k (w.heap.size+1) s2 d _ (Za HS2) (by omega) (by omega) (by omega) (by omega) (Za HC2))
  unfold lsV at C3
  go_wp2_with fail
  refine (Za C3).mono ?_
  rintro e w3 ⟨x3,s3,rfl,hx3,hs3,hc3,hS3,hK3⟩
  have ca3:=hK3.cell (p:=⟨w.heap.size,0,none⟩) hlow (by show w.heap.size≠w.heap.size+1;omega) (Za A2)
  have cb3:=hK3.cell (p:=⟨w.heap.size,1,none⟩) hlow (by show w.heap.size≠w.heap.size+1;omega) (Za B2)
  have cz3:=World.block_lt_of_cell? _ _ ca3
  have A3:=Zb ca3
  have B3:=Zb cb3
  have HK3:=Zb (Kq.trans (Za HK2) hK3)
  have HS3:=Zb hS3
  have HC3:=Zb hc3
  clear hK3 hS3 hc3 C3
  have C4:=Zb (Sa (Za HH) x1 x2 x3 (w.heap.size+1) s3 d _ (Za HS3) (by omega) (by omega) (by omega) (by omega) (by omega) (Za HC3))
  unfold lsV at C4
  go_wp2_with fail
  refine (Za C4).mono ?_
  rintro e w4 ⟨x4,s4,rfl,hx4,hs4,hc4,hS4,hK4⟩
  have ca4:=hK4.cell (p:=⟨w.heap.size,0,none⟩) hlow (by show w.heap.size≠w.heap.size+1;omega) (Za A3)
  have cb4:=hK4.cell (p:=⟨w.heap.size,1,none⟩) hlow (by show w.heap.size≠w.heap.size+1;omega) (Za B3)
  have cz4:=World.block_lt_of_cell? _ _ ca4
  have A4:=Zb ca4
  have B4:=Zb cb4
  have HK4:=Zb (Kq.trans (Za HK3) hK4)
  have HS4:=Zb hS4
  have HC4:=Zb hc4
  clear hK4 hS4 hc4 C4
  obtain⟨ct,cf⟩:=Za HC4
  have ctz:=World.block_lt_of_cell? _ _ ct
  have END:=Zb (Kq.all (Za KH) (Za HK4) (by omega))
  by_cases e0:s4=0
  ·subst e0
   go_wp2
   go_ret2
   exact⟨x4,1,rfl,by omega,by omega,by omega,Za HS4,Za END⟩
  ·have e0I:¬((s4:Nat):Int)=0:=by omega
   have e0B:(((s4:Nat):Int) == 0)=false:=by simp[e0]
   by_cases e12:s4=12
   ·subst e12
    go_wp2
    go_ret2
    exact⟨x4,2,rfl,by omega,by omega,by omega,Za HS4,Za END⟩
   ·have e12I:¬((s4:Nat):Int)=12:=by omega
    have e12B:(((s4:Nat):Int) == 12)=false:=by simp;omega
    go_wp2
    go_ret2
    exact⟨x4,0,rfl,by omega,by omega,by omega,Za HS4,Za END⟩
 ·have h50I:¬(50:Int)≤(l:Int):=by omega
  have C1:=Zb (Sa (Za HH) i j k (w.heap.size+1) 0 d _ (Za HS) (by omega) (by omega) (by omega) (by omega) (by omega) (Za HC))
  unfold lsV at C1
  go_enter Tryz.func217,Tryz.ntmps217
  go_wp2_with fail
  refine (Za C1).mono ?_
  rintro e w1 ⟨x1,s1,rfl,hx1,hs1,hc1,hS1,hK1⟩
  have ca1:=hK1.cell (p:=⟨w.heap.size,0,none⟩) hlow (by show w.heap.size≠w.heap.size+1;omega) (Za A0)
  have cb1:=hK1.cell (p:=⟨w.heap.size,1,none⟩) hlow (by show w.heap.size≠w.heap.size+1;omega) (Za B0)
  have cz1:=World.block_lt_of_cell? _ _ ca1
  have A1:=Zb ca1
  have B1:=Zb cb1
  have HK1:=Zb (Kq.trans (Za HK0) hK1)
  have HS1:=Zb hS1
  have HC1:=Zb hc1
  clear hK1 hS1 hc1 C1
  obtain⟨ct,cf⟩:=Za HC1
  have ctz:=World.block_lt_of_cell? _ _ ct
  have END:=Zb (Kq.all (Za KH) (Za HK1) (by omega))
  by_cases e0:s1=0
  ·subst e0
   go_wp2
   go_ret2
   exact⟨x1,1,rfl,by omega,by omega,by omega,Za HS1,Za END⟩
  ·have e0I:¬((s1:Nat):Int)=0:=by omega
   have e0B:(((s1:Nat):Int) == 0)=false:=by simp[e0]
   by_cases e12:s1=12
   ·subst e12
    go_wp2
    go_ret2
    exact⟨x1,2,rfl,by omega,by omega,by omega,Za HS1,Za END⟩
   ·have e12I:¬((s1:Nat):Int)=12:=by omega
    have e12B:(((s1:Nat):Int) == 12)=false:=by simp;omega
    go_wp2
    go_ret2
    exact⟨x1,0,rfl,by omega,by omega,by omega,Za HS1,Za END⟩
end Go.Proofs.YtpikejjiignchaaGreatDoor
